/-
  Own work: the text of a slot and its sum, by the program (written by wip/mksnb.py).
-/
import Derived.Test.YtmnoelfabldpfaaSnA
import Derived.Test.YtmnoelfabldpfaaMSnT
import Derived.Test.YtmnoelfabldpfaaCrc
import Derived.Test.YtmnoelfabldpfaaMCat
import Derived.Test.YtmnoelfabldpfaaReg
namespace Go.Proofs.Ytmnoelfabldpfaa
open Go.ChangeShapes Go.WideShapes Go.ChangeAt Go.RowKit
set_option linter.unusedVariables false

/-- Bytes of the call's own, from some block behind lo on. -/
def OwnL (lo : Nat) (w : World) (v : Value) (zs : List Int) : Prop := ∃ B, lo ≤ B ∧ Own w B v zs
theorem Own.keepB {B : Nat} {w w' : World} {v : Value} {zs : List Int} (h : Own w B v zs) (b : Below w.heap.size w w') : Own w' B v zs := by
  refine ⟨⟨h.1.1, ?_⟩, h.2⟩
  rcases h.1.2 with h' | ⟨g, c, cur, h1, h2, h3, h4⟩
  · exact .inl h'
  · exact .inr ⟨g, c, cur, h1, h2, by rw [b.block g (Array.getElem?_eq_some_iff.1 h3).1]; exact h3, h4⟩
theorem OwnL.below {lo : Nat} {w w' : World} {v : Value} {zs : List Int} (h : OwnL lo w v zs) (b : Below w.heap.size w w') : OwnL lo w' v zs := by
  obtain ⟨B, hB, h⟩ := h; exact ⟨B, hB, h.keepB b⟩
/-- The two sectors of the slot in block g, as a slice of slices. -/
def TwoP (lo g : Nat) (w : World) (v : Value) : Prop := ∃ q, v = .slice (some ⟨q, 0, none⟩) 2 2 ∧ lo ≤ q ∧ w.heap[q]? = some (.cells #[.slice (some ⟨g, 0, none⟩) 64 64, .slice (some ⟨g, 64, none⟩) 64 64] 22 (0, 0))
theorem TwoP.below {lo g : Nat} {w w' : World} {v : Value} (h : TwoP lo g w v) (b : Below w.heap.size w w') : TwoP lo g w' v := by
  obtain ⟨q, e, h1, h2⟩ := h; exact ⟨q, e, h1, by rw [b.block q (Array.getElem?_eq_some_iff.1 h2).1]; exact h2⟩
theorem Row.part0 {w : World} {g : Nat} {t : TypeId} {zs : List Int} (h : Row w g t zs) (hl : zs.length = 128) : Part w (.slice (some ⟨g, 0, none⟩) 64 64) (zs.take 64) :=
  ⟨g, 0, 64, by rw [List.length_take, hl]; rfl, h.lt, fun i hi => by
    rw [List.length_take] at hi
    rw [Nat.zero_add, h.cell i (by omega)]; simp [List.getD, show i < 64 by omega]⟩
theorem Row.part1 {w : World} {g : Nat} {t : TypeId} {zs : List Int} (h : Row w g t zs) (hl : zs.length = 128) : Part w (.slice (some ⟨g, 64, none⟩) 64 64) (zs.drop 64) :=
  ⟨g, 64, 64, by rw [List.length_drop, hl], h.lt, fun i hi => by
    rw [List.length_drop] at hi
    rw [h.cell (64 + i) (by omega)]; simp [List.getD]⟩
set_option maxRecDepth 100000 in
set_option maxHeartbeats 2000000 in
theorem text_any (g : Nat) (zs : List Int) (w : World) (hr : Row w g 45 zs) (hl : zs.length = 128) :
    Calls Try.prog 38 #[.pointer (some ⟨g, 0, none⟩)] w fun e w' => ∃ v, e = .returned v ∧ OwnL w.heap.size w' v zs ∧ Below w.heap.size w w' := by
  have HRW : Hid (g < w.heap.size ∧ w.heap[g]? = some (.cells (zs.map (Value.int .u8)).toArray 45 (0, 0))) := ⟨hr.lt, hr⟩
  have HLZ : Hid (zs.length = 128) := hl
  have HFL : Hid ([zs.take 64, zs.drop 64].flatten = zs) := by show _ = _; simp
  clear hr hl
  go_enter Try.func38, Try.ntmps38
  go_wp2_with fail
  refine wp_region_any (by kernel_rfl) ?_
  refine wpAny_slotsU (fun _ a b => Below a.heap.size a b) (frame := (fun (c0 c1 : Value) => fun (t : Nat → Value) => ({ tmps := List.toArray (c0 :: c1 :: t 10 :: t 0 :: t 1 :: t 2 :: t 3 :: t 4 :: t 5 :: t 6 :: t 7 :: t 8 :: t 9 :: []), defers := [] } : Act)) _ _)
    (Ext := fun L u w' => ApX w [] L u w') (Good := fun i L w' v => if i = 0 then v = .pointer (some ⟨g, 0, none⟩) else if i = 1 then v = .pointer (some ⟨g, 0, none⟩) else if i = 2 then v = .pointer (some ⟨g, 0, none⟩) else if i = 3 then v = .slice (some ⟨g, 0, none⟩) 64 64 else if i = 4 then v = .pointer (some ⟨g, 0, none⟩) else if i = 5 then v = .pointer (some ⟨g, 0, none⟩) else if i = 6 then v = .pointer (some ⟨g, 64, none⟩) else if i = 7 then v = .slice (some ⟨g, 64, none⟩) 64 64 else if i = 8 then TwoP w.heap.size g w' v else if i = 9 then OwnL w.heap.size w' v zs else if i = 10 then OwnL w.heap.size w' v zs else True) ?hstab (by kernel_rfl) ?hop ?hdone _ _ ((fun (x0 x1 x2 x3 x4 x5 x6 x7 x8 x9 x10 : Value) => fun (i : Nat) => if i = 0 then x0 else if i = 1 then x1 else if i = 2 then x2 else if i = 3 then x3 else if i = 4 then x4 else if i = 5 then x5 else if i = 6 then x6 else if i = 7 then x7 else if i = 8 then x8 else if i = 9 then x9 else if i = 10 then x10 else undef) _ _ _ _ _ _ _ _ _ _ _) _ (by simp) ?ext ?start (by simp)
  case start => intro i hi h; exact absurd h (by rw [Array.getD_eq_getD_getElem?, Array.getElem?_replicate]; split <;> simp)
  case ext => exact (ApX.start w [] _ _ (fun i => by rw [Array.getD_eq_getD_getElem?, Array.getElem?_replicate]; split <;> rfl)).drew
  case hstab =>
    intro j L w9 w' i v hM _ _ h
    by_cases h8 : j = 8
    · subst h8
      simp at h ⊢
      exact h.below hM
    by_cases h9 : j = 9
    · subst h9
      simp at h ⊢
      exact h.below hM
    by_cases h10 : j = 10
    · subst h10
      simp at h ⊢
      exact h.below hM
    simp only [if_neg h8, if_neg h9, if_neg h10] at h ⊢
    exact h
  case hop =>
    intro i o L t w' ho hLi hx hdep K hK
    have hi : i < 11 := (Array.getElem?_eq_some_iff.1 ho).1
    obtain rfl | rfl | rfl | rfl | rfl | rfl | rfl | rfl | rfl | rfl | rfl : i = 0 ∨ i = 1 ∨ i = 2 ∨ i = 3 ∨ i = 4 ∨ i = 5 ∨ i = 6 ∨ i = 7 ∨ i = 8 ∨ i = 9 ∨ i = 10 := by omega
    all_goals (simp at ho; subst ho)
    · clear hdep
      have hK' := hK w' (.pointer (some ⟨g, 0, none⟩)) (by simp) (hx.step 0 _ (Below.refl _ _) (fun h => absurd h (by decide))) (Below.refl _ _)
      clear hK
      rw [if_pos (by rfl)]
      go_simp
      simpa [upd] using hK'
    · have d0 : t 0 = .pointer (some ⟨g, 0, none⟩) := by simpa using (hdep ⟨0, .data⟩ (by simp) rfl).2
      clear hdep
      have hK' := hK w' (.pointer (some ⟨g, 0, none⟩)) (by simp) (hx.step 1 _ (Below.refl _ _) (fun h => absurd h (by decide))) (Below.refl _ _)
      clear hK
      rw [if_pos (by rfl)]
      go_simp
      simpa [upd, d0] using hK'
    · have d1 : t 1 = .pointer (some ⟨g, 0, none⟩) := by simpa using (hdep ⟨1, .data⟩ (by simp) rfl).2
      clear hdep
      have hK' := hK w' (.pointer (some ⟨g, 0, none⟩)) (by simp) (hx.step 2 _ (Below.refl _ _) (fun h => absurd h (by decide))) (Below.refl _ _)
      clear hK
      rw [if_pos (by rfl)]
      go_simp
      simpa [upd, d1] using hK'
    · have d2 : t 2 = .pointer (some ⟨g, 0, none⟩) := by simpa using (hdep ⟨2, .data⟩ (by simp) rfl).2
      clear hdep
      have hK' := hK w' (.slice (some ⟨g, 0, none⟩) 64 64) (by simp) (hx.step 3 _ (Below.refl _ _) (fun h => absurd h (by decide))) (Below.refl _ _)
      clear hK
      rw [if_pos (by rfl)]
      go_simp
      simpa [upd, d2] using hK'
    · clear hdep
      have hK' := hK w' (.pointer (some ⟨g, 0, none⟩)) (by simp) (hx.step 4 _ (Below.refl _ _) (fun h => absurd h (by decide))) (Below.refl _ _)
      clear hK
      rw [if_pos (by rfl)]
      go_simp
      simpa [upd] using hK'
    · have d4 : t 4 = .pointer (some ⟨g, 0, none⟩) := by simpa using (hdep ⟨4, .data⟩ (by simp) rfl).2
      clear hdep
      have hK' := hK w' (.pointer (some ⟨g, 0, none⟩)) (by simp) (hx.step 5 _ (Below.refl _ _) (fun h => absurd h (by decide))) (Below.refl _ _)
      clear hK
      rw [if_pos (by rfl)]
      go_simp
      simpa [upd, d4] using hK'
    · have d5 : t 5 = .pointer (some ⟨g, 0, none⟩) := by simpa using (hdep ⟨5, .data⟩ (by simp) rfl).2
      clear hdep
      have hK' := hK w' (.pointer (some ⟨g, 64, none⟩)) (by simp) (hx.step 6 _ (Below.refl _ _) (fun h => absurd h (by decide))) (Below.refl _ _)
      clear hK
      rw [if_pos (by rfl)]
      go_simp
      simpa [upd, d5] using hK'
    · have d6 : t 6 = .pointer (some ⟨g, 64, none⟩) := by simpa using (hdep ⟨6, .data⟩ (by simp) rfl).2
      clear hdep
      have hK' := hK w' (.slice (some ⟨g, 64, none⟩) 64 64) (by simp) (hx.step 7 _ (Below.refl _ _) (fun h => absurd h (by decide))) (Below.refl _ _)
      clear hK
      rw [if_pos (by rfl)]
      go_simp
      simpa [upd, d6] using hK'
    · have d3 : t 3 = .slice (some ⟨g, 0, none⟩) 64 64 := by simpa using (hdep ⟨3, .data⟩ (by simp) rfl).2
      have d7 : t 7 = .slice (some ⟨g, 64, none⟩) 64 64 := by simpa using (hdep ⟨7, .data⟩ (by simp) rfl).2
      clear hdep
      have hsz : w.heap.size ≤ w'.heap.size := hx.below.size
      have bb : Below w'.heap.size w' (w'.alloc (.cells #[.slice (some ⟨g, 0, none⟩) 64 64, .slice (some ⟨g, 64, none⟩) 64 64] 22)) := (Below.refl _ _).alloc (Nat.le_refl _) _
      have hK' := hK (w'.alloc (.cells #[.slice (some ⟨g, 0, none⟩) 64 64, .slice (some ⟨g, 64, none⟩) 64 64] 22)) (.slice (some ⟨w'.heap.size, 0, none⟩) 2 2) (by simpa using ⟨w'.heap.size, rfl, hsz, heap_alloc_new w' _⟩) (hx.step 8 _ bb (fun h => absurd h (by decide))) bb
      clear hK bb
      rw [if_pos (by rfl)]
      go_simp
      simpa [upd, d3, d7] using hK'
    · have f8 : TwoP w.heap.size g w' (t 8) := by simpa using (hdep ⟨8, .data⟩ (by simp) rfl).2
      clear hdep
      obtain ⟨q, d8, hq, hrow⟩ := f8
      have hrg : Row w' g 45 zs := by unfold Row; rw [hx.below.block _ HRW.out.1]; exact HRW.out.2
      have hsz : w.heap.size ≤ w'.heap.size := hx.below.size
      have A := conc_any q 2 2 [.slice (some ⟨g, 0, none⟩) 64 64, .slice (some ⟨g, 64, none⟩) 64 64] [zs.take 64, zs.drop 64] w' rfl (Array.getElem?_eq_some_iff.1 hrow).1 (fun i hi => by
        rw [cell_of_row w' q i _ _ _ hrow]
        have : i = 0 ∨ i = 1 := by omega
        rcases this with rfl | rfl <;> rfl) (fun i hi => by
        have : i = 0 ∨ i = 1 := by omega
        rcases this with rfl | rfl
        · exact hrg.part0 HLZ.out
        · exact hrg.part1 HLZ.out) (by rw [HFL.out, HLZ.out]; decide) (by rw [HFL.out, HLZ.out]; decide) (by decide)
      rw [HFL.out] at A
      have hK' : ∀ ww v, OwnL w.heap.size ww v zs → Below w'.heap.size w' ww → K _ ww := fun ww v hv hb => hK ww v (by simpa using hv) (hx.step 9 v hb (fun h => absurd h (by decide))) hb
      clear hK hrg hrow
      rw [if_pos (by rfl)]
      go_simp
      try simp only [d8]
      refine A.mono ?_
      rintro e w9 ⟨v9, rfl, hv9, hb9⟩
      have hK2 := hK' w9 v9 ⟨w'.heap.size, hsz, hv9⟩ hb9
      clear hK' A hv9 hb9
      go_simp
      simpa [upd, d8] using hK2
    · have f9 : OwnL w.heap.size w' (t 9) zs := by simpa using (hdep ⟨9, .data⟩ (by simp) rfl).2
      clear hdep
      have hK' := hK w' (t 9) (by simpa using f9) (hx.step 10 _ (Below.refl _ _) (fun h => absurd h (by decide))) (Below.refl _ _)
      clear hK
      rw [if_pos (by rfl)]
      go_simp
      simpa [upd] using hK'
  case hdone =>
    intro L t w' hx hg
    have f10 : OwnL w.heap.size w' (t 10) zs := by simpa using hg 10 (by decide)
    clear hg
    have HF : Hid (OwnL w.heap.size w' (t 10) zs ∧ Below w.heap.size w w') := ⟨f10, hx.below⟩
    clear f10 hx
    go_wp2
    go_ret
    exact ⟨t 10, rfl, HF.out.1, HF.out.2⟩
set_option maxRecDepth 100000 in
set_option maxHeartbeats 2000000 in
theorem ssum_any (g : Nat) (zs : List Int) (w : World) (hr : Row w g 45 zs) (hl : zs.length = 128) (hb : Byte zs) :
    Calls Try.prog 55 #[.pointer (some ⟨g, 0, none⟩)] w fun e w' => e = .returned (.int .u32 (crc (zs.take 120))) ∧ Below w.heap.size w w' := by
  have HT := text_any g zs w hr hl
  have HLZ : Hid (zs.length = 128 ∧ Byte zs) := ⟨hl, hb⟩
  clear hr hl hb
  go_enter Try.func55, Try.ntmps55
  go_wp2_with fail
  refine HT.mono ?_
  rintro e w1 ⟨v1, rfl, ⟨B, hB, ho⟩, hb1⟩
  obtain ⟨q, c, e1, hq, hql, hqc⟩ := ho.base
  have hc128 : 128 ≤ c := by have := HLZ.out.1; omega
  rw [HLZ.out.1] at e1
  subst e1
  have HA : Hid (At .u8 w1 (some ⟨q, 0, none⟩) (zs.take 120)) := .inr ⟨q, 0, rfl, hql, fun i hi => by
    obtain ⟨b, o, c', e2, hb', hcell⟩ := ho.part
    injection e2 with e3
    injection e3 with e3
    injection e3 with e4 e5
    subst e4 e5
    rw [List.length_take] at hi
    rw [hcell i (by omega)]; simp [List.getD, show i < 120 by omega]⟩
  have HB1 : Hid (Below w.heap.size w w1) := hb1
  have HC : Hid (∀ cap, Calls Try.prog 64 #[.slice (some ⟨q, 0, none⟩) 120 cap] w1 fun e w' => e = .returned (.int .u32 (crc (zs.take 120))) ∧ w' = w1) := fun cap => crcI_any _ 120 cap (zs.take 120) w1 (by rw [List.length_take, HLZ.out.1]; rfl) (by decide) HA.out (fun z hz => HLZ.out.2 z (List.mem_of_mem_take hz))
  clear ho hb1 HT hB hq hql hqc
  go_wp2_with fail
  refine (HC.out _).mono ?_
  rintro e w2 ⟨rfl, rfl⟩
  clear HC HA
  generalize hz : crc (zs.take 120) = z at *
  have HZ : Hid (crc (zs.take 120) = z) := hz
  clear hz
  go_wp2
  go_ret
  exact ⟨ret_int HZ.out.symm, HB1.out⟩
set_option maxRecDepth 100000 in
set_option maxHeartbeats 1000000 in
theorem denyP_any (g i : Nat) (w : World) (hi : i < 16) :
    Calls Try.prog 54 #[.pointer (some ⟨g, 0, none⟩), .int .i64 i] w fun e w' => ∃ c, e = .returned (.slice (some ⟨g, if i < 8 then 44 + 2 * i else 56 + 2 * i, none⟩) 2 c) ∧ w' = w := by
  obtain rfl | rfl | rfl | rfl | rfl | rfl | rfl | rfl | rfl | rfl | rfl | rfl | rfl | rfl | rfl | rfl : i = 0 ∨ i = 1 ∨ i = 2 ∨ i = 3 ∨ i = 4 ∨ i = 5 ∨ i = 6 ∨ i = 7 ∨ i = 8 ∨ i = 9 ∨ i = 10 ∨ i = 11 ∨ i = 12 ∨ i = 13 ∨ i = 14 ∨ i = 15 := by omega
  all_goals
    go_enter Try.func54, Try.ntmps54
    go_wp2
    go_ret
    first | exact ⟨_, rfl, rfl⟩ | exact ⟨⟨_, rfl⟩, rfl⟩
end Go.Proofs.Ytmnoelfabldpfaa
namespace Go.Proofs.Ytmnoelfabldpfaa
open Go.ChangeShapes Go.WideShapes Go.ChangeAt Go.RowKit
set_option linter.unusedVariables false

theorem freeze_heap (w : World) (g k j : Nat) : (w.freeze ⟨g, k, none⟩ 1).heap[j]? = if j = g then (w.heap[j]?).map (fun | .cells c elem (lo, hi) => Obj.cells c elem (if lo == hi then (k, k + 1) else (min lo k, max hi (k + 1))) | o => o) else w.heap[j]? := by
  unfold World.freeze
  rw [if_neg (by decide)]
  simp only [Array.getElem?_modify]
  by_cases h : g = j
  · subst h; simp; rfl
  · rw [if_neg h, if_neg (Ne.symm h)]
theorem freeze_size (w : World) (a : Addr) (n : Nat) : (w.freeze a n).heap.size = w.heap.size := by
  unfold World.freeze; split <;> simp
theorem freeze_below (w : World) (g k B : Nat) (hB : B ≤ g) : Below B w (w.freeze ⟨g, k, none⟩ 1) :=
  ⟨rfl, rfl, rfl, by rw [freeze_size]; exact Nat.le_refl _, fun j hj => by rw [freeze_heap, if_neg (by omega)]⟩
theorem freeze_mono (w : World) (g k : Nat) : Mono w (w.freeze ⟨g, k, none⟩ 1) := by
  refine ⟨by rw [freeze_size]; exact Nat.le_refl _, fun a ha => ?_, fun b cs t fr hb => ?_⟩
  · by_cases h : a.block = g
    · subst h
      cases hh : w.heap[a.block]? with
      | none => simp [World.cell?, freeze_heap, hh]
      | some o => cases o <;> simp [World.cell?, freeze_heap, hh]
    · simp [World.cell?, freeze_heap, h]
  · by_cases h : b = g
    · subst h; rw [freeze_heap, if_pos rfl, hb]; exact ⟨_, rfl⟩
    · rw [freeze_heap, if_neg h]; exact ⟨fr, hb⟩
theorem run_convert_const (w : World) (g : Nat) (C : Array Value) (n c : Nat) (fr : Nat × Nat) (hg : w.heap[g]? = some (.cells C 5 fr)) :
    (convert 22 22 (.slice (some ⟨g, 0, none⟩) n c)).run Try.prog w = .ok (.slice (some ⟨g, 0, none⟩) n c) (w.freeze ⟨g, C.size, none⟩ 1) := by
  have hsh : w.shape? g = some (5, C.size) := by unfold World.shape?; rw [hg]
  simp [convert, run_underlying Try.underlying22, run_underlying Try.underlying5, markStringish, hsh]

theorem Part.mono {w w' : World} {v : Value} {zs : List Int} (h : Part w v zs) (hm : Mono w w') : Part w' v zs := by
  obtain ⟨b, o, c, rfl, hl, hc⟩ := h
  exact ⟨b, o, c, rfl, by have := hm.size; omega, fun i hi => by rw [hm.cell ⟨b, o + i, none⟩ hl]; exact hc i hi⟩

theorem part_new (w : World) (cs : Array Value) (zs : List Int) (t : TypeId) (h : cs = (zs.map (Value.int .u8)).toArray) (n : Nat) (hn : n = zs.length) (c : Nat) : Part (w.alloc (.cells cs t)) (.slice (some ⟨w.heap.size, 0, none⟩) n c) zs := by
  subst h; subst hn
  refine ⟨w.heap.size, 0, c, rfl, by simp, fun i hi => ?_⟩
  rw [cell_of_row _ _ (0 + i) _ t (0, 0) (heap_alloc_new w _)]
  simp [hi]
theorem below_new (w : World) (o : Obj) : Below w.heap.size w (w.alloc o) := (Below.refl _ _).alloc (Nat.le_refl _) _

theorem four_byte (x : Int) (h : U32 x) : Byte (four x) := by
  obtain ⟨h0, h1⟩ := h
  intro z hz; simp [four] at hz
  rcases hz with rfl | rfl | rfl | rfl <;> omega
theorem Own.grow {w w' : World} {B : Nat} {v : Value} {zs : List Int} (h : Own w B v zs) (hb : Below w.heap.size w w') : Own w' B v zs := by
  refine ⟨⟨h.1.1, ?_⟩, h.2⟩
  rcases h.1.2 with h' | ⟨g', c', cur, h', hBg, hh, r⟩
  · exact .inl h'
  · exact .inr ⟨g', c', cur, h', hBg, by rw [hb.block _ (Array.getElem?_eq_some_iff.1 hh).1]; exact hh, r⟩
theorem Own.lower {w : World} {B B' : Nat} {v : Value} {zs : List Int} (h : Own w B v zs) (hB : B' ≤ B) : Own w B' v zs := by
  refine ⟨⟨h.1.1, ?_⟩, h.2⟩
  rcases h.1.2 with h' | ⟨g', c', cur, h', hBg, hh, r⟩
  · exact .inl h'
  · exact .inr ⟨g', c', cur, h', by omega, hh, r⟩

end Go.Proofs.Ytmnoelfabldpfaa
