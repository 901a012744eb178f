/-
  Own work: the code of a frame as the model writes it.
-/
import Derived.Test.YthghkfncpdnpoaaCat
import Derived.Test.YthghkfncpdnpoaaCrc
import Derived.Test.YthghkfncpdnpoaaReg
namespace Go.Proofs.Ythghkfncpdnpoaa
open Go.ChangeShapes Go.WideShapes Go.ChangeAt Go.RowKit
set_option linter.unusedVariables false

theorem freeze_heap (w : World) (g k j : Nat) : (w.freeze ⟨g, k, none⟩ 1).heap[j]? = if j = g then (w.heap[j]?).map (fun | .cells c elem (lo, hi) => Obj.cells c elem (if lo == hi then (k, k + 1) else (min lo k, max hi (k + 1))) | o => o) else w.heap[j]? := by
  unfold World.freeze
  rw [if_neg (by decide)]
  simp only [Array.getElem?_modify]
  by_cases h : g = j
  · subst h; simp; rfl
  · rw [if_neg h, if_neg (Ne.symm h)]
theorem freeze_size (w : World) (a : Addr) (n : Nat) : (w.freeze a n).heap.size = w.heap.size := by
  unfold World.freeze; split <;> simp
theorem freeze_below (w : World) (g k B : Nat) (hB : B ≤ g) : Below B w (w.freeze ⟨g, k, none⟩ 1) :=
  ⟨rfl, rfl, rfl, by rw [freeze_size]; exact Nat.le_refl _, fun j hj => by rw [freeze_heap, if_neg (by omega)]⟩
theorem freeze_mono (w : World) (g k : Nat) : Mono w (w.freeze ⟨g, k, none⟩ 1) := by
  refine ⟨by rw [freeze_size]; exact Nat.le_refl _, fun a ha => ?_, fun b cs t fr hb => ?_⟩
  · by_cases h : a.block = g
    · subst h
      cases hh : w.heap[a.block]? with
      | none => simp [World.cell?, freeze_heap, hh]
      | some o => cases o <;> simp [World.cell?, freeze_heap, hh]
    · simp [World.cell?, freeze_heap, h]
  · by_cases h : b = g
    · subst h; rw [freeze_heap, if_pos rfl, hb]; exact ⟨_, rfl⟩
    · rw [freeze_heap, if_neg h]; exact ⟨fr, hb⟩
theorem run_convert_const (w : World) (g : Nat) (C : Array Value) (n c : Nat) (fr : Nat × Nat) (hg : w.heap[g]? = some (.cells C 5 fr)) :
    (convert 22 22 (.slice (some ⟨g, 0, none⟩) n c)).run Try.prog w = .ok (.slice (some ⟨g, 0, none⟩) n c) (w.freeze ⟨g, C.size, none⟩ 1) := by
  have hsh : w.shape? g = some (5, C.size) := by unfold World.shape?; rw [hg]
  simp [convert, run_underlying Try.underlying22, run_underlying Try.underlying5, markStringish, hsh]

theorem Part.mono {w w' : World} {v : Value} {zs : List Int} (h : Part w v zs) (hm : Mono w w') : Part w' v zs := by
  obtain ⟨b, o, c, rfl, hl, hc⟩ := h
  exact ⟨b, o, c, rfl, by have := hm.size; omega, fun i hi => by rw [hm.cell ⟨b, o + i, none⟩ hl]; exact hc i hi⟩

def parts6 (s k a b : Int) : List (List Int) := [four s, [74, 49], [k % 256, 0], four a, four b, List.replicate 40 0]
def headS (s k a b : Int) : List Int := (parts6 s k a b).flatten

/-- What the operation number i of the statement leaves in its slot. -/
def G3 (B : Nat) (s k a b : Int) : Nat → World → Value → Prop
  | 0, _, v => v = .pointer (some ⟨B, 0, none⟩)
  | 1, _, v => v = .int .u32 s
  | 2, w, v => Part w v (four s)
  | 3, w, v => ∃ g fr, v = .slice (some ⟨g, 0, none⟩) 2 2 ∧ B < g ∧ w.heap[g]? = some (Obj.cells #[.int .u8 74, .int .u8 49] 5 fr)
  | 4, w, v => Part w v [74, 49]
  | 5, _, v => v = .pointer (some ⟨B, 1, none⟩)
  | 6, _, v => v = .int .i64 k
  | 7, _, v => v = .int .u8 (k % 256)
  | 8, w, v => Part w v [k % 256, 0]
  | 9, _, v => v = .pointer (some ⟨B, 2, none⟩)
  | 10, _, v => v = .int .u32 a
  | 11, w, v => Part w v (four a)
  | 12, _, v => v = .pointer (some ⟨B, 3, none⟩)
  | 13, _, v => v = .int .u32 b
  | 14, w, v => Part w v (four b)
  | 15, w, v => Part w v (List.replicate 40 0)
  | 16, w, v => ∃ (g : Nat) (vs : List Value), v = .slice (some ⟨g, 0, none⟩) 6 6 ∧ g < w.heap.size ∧ ∀ i, i < 6 → w.cell? ⟨g, i, none⟩ = some (vs.getD i undef) ∧ Part w (vs.getD i undef) ((parts6 s k a b).getD i [])
  | _, w, v => Part w v (headS s k a b)

theorem G3_mono (B : Nat) (s k a b : Int) (i : Nat) (w w' : World) (v : Value) (hm : Mono w w') (h : G3 B s k a b i w v) : G3 B s k a b i w' v := by
  unfold G3 at *
  split at h <;> first
    | exact h
    | exact h.mono hm
    | (obtain ⟨g, fr, h1, h2, h3⟩ := h; obtain ⟨fr', h4⟩ := hm.block g _ _ _ h3; exact ⟨g, fr', h1, h2, h4⟩)
    | (obtain ⟨g, vs, h1, h2, h3⟩ := h; exact ⟨g, vs, h1, by have := hm.size; omega, fun i hi => ⟨by rw [hm.cell ⟨g, i, none⟩ h2]; exact (h3 i hi).1, (h3 i hi).2.mono hm⟩⟩)

/-- The world while the statement runs: the parameter's box stands. -/
structure X3 (w w' : World) (s k a b : Int) : Prop where
  below : Below w.heap.size w w'
  lt : w.heap.size < w'.heap.size
  c0 : w'.cell? ⟨w.heap.size, 0, none⟩ = some (.int .u32 s)
  c1 : w'.cell? ⟨w.heap.size, 1, none⟩ = some (.int .i64 k)
  c2 : w'.cell? ⟨w.heap.size, 2, none⟩ = some (.int .u32 a)
  c3 : w'.cell? ⟨w.heap.size, 3, none⟩ = some (.int .u32 b)
theorem X3.step {w w' w'' : World} {s k a b : Int} (h : X3 w w' s k a b) (hb : Below w.heap.size w' w'') (hm : Mono w' w'') : X3 w w'' s k a b :=
  ⟨h.below.trans hb, by have := hm.size; have := h.lt; omega, (hm.cell _ h.lt).trans h.c0, (hm.cell _ h.lt).trans h.c1, (hm.cell _ h.lt).trans h.c2, (hm.cell _ h.lt).trans h.c3⟩
theorem X3.grow {w w' w'' : World} {s k a b : Int} (h : X3 w w' s k a b) (hb : Below w'.heap.size w' w'') : X3 w w'' s k a b :=
  h.step (hb.mono (by have := h.lt; omega)) (Mono.of_below hb)

theorem part_new (w : World) (cs : Array Value) (zs : List Int) (t : TypeId) (h : cs = (zs.map (Value.int .u8)).toArray) (n : Nat) (hn : n = zs.length) (c : Nat) : Part (w.alloc (.cells cs t)) (.slice (some ⟨w.heap.size, 0, none⟩) n c) zs := by
  subst h; subst hn
  refine ⟨w.heap.size, 0, c, rfl, by simp, fun i hi => ?_⟩
  rw [cell_of_row _ _ (0 + i) _ t (0, 0) (heap_alloc_new w _)]
  simp [hi]
theorem below_new (w : World) (o : Obj) : Below w.heap.size w (w.alloc o) := (Below.refl _ _).alloc (Nat.le_refl _) _

def parts3 (s k a b : Int) : List (List Int) := [headS s k a b, four (crc (headS s k a b)), four s]
def encS (s k a b : Int) : List Int := (parts3 s k a b).flatten
theorem headS_len (s k a b : Int) : (headS s k a b).length = 56 := by simp [headS, parts6, four]
theorem four_byte (x : Int) (h : U32 x) : Byte (four x) := by
  obtain ⟨h0, h1⟩ := h
  intro z hz; simp [four] at hz
  rcases hz with rfl | rfl | rfl | rfl <;> omega
theorem headS_byte (s k a b : Int) (us : U32 s) (ua : U32 a) (ub : U32 b) : Byte (headS s k a b) := by
  intro z hz
  simp only [headS, parts6, List.flatten_cons, List.flatten_nil, List.mem_append, List.append_nil] at hz
  rcases hz with h | h | h | h | h | h
  · exact four_byte s us z h
  · simp at h; omega
  · simp at h; omega
  · exact four_byte a ua z h
  · exact four_byte b ub z h
  · simp at h; omega

def G4 (B : Nat) (s k a b : Int) : Nat → World → Value → Prop
  | 0, w, v => Part w v (headS s k a b)
  | 1, w, v => Part w v (headS s k a b)
  | 2, _, v => v = .int .u32 (crc (headS s k a b))
  | 3, w, v => Part w v (four (crc (headS s k a b)))
  | 4, _, v => v = .pointer (some ⟨B, 0, none⟩)
  | 5, _, v => v = .int .u32 s
  | 6, w, v => Part w v (four s)
  | 7, w, v => ∃ (g : Nat) (vs : List Value), v = .slice (some ⟨g, 0, none⟩) 3 3 ∧ g < w.heap.size ∧ ∀ i, i < 3 → w.cell? ⟨g, i, none⟩ = some (vs.getD i undef) ∧ Part w (vs.getD i undef) ((parts3 s k a b).getD i [])
  | _, w, v => Part w v (encS s k a b)
theorem G4_mono (B : Nat) (s k a b : Int) (i : Nat) (w w' : World) (v : Value) (hm : Mono w w') (h : G4 B s k a b i w v) : G4 B s k a b i w' v := by
  unfold G4 at *
  split at h <;> first
    | exact h
    | exact h.mono hm
    | (obtain ⟨g, vs, h1, h2, h3⟩ := h; exact ⟨g, vs, h1, by have := hm.size; omega, fun i hi => ⟨by rw [hm.cell ⟨g, i, none⟩ h2]; exact (h3 i hi).1, (h3 i hi).2.mono hm⟩⟩)
structure X4 (w w' : World) (s k a b : Int) (v : Value) : Prop where
  x : X3 w w' s k a b
  p : Part w' v (headS s k a b)
theorem X4.grow {w w' w'' : World} {s k a b : Int} {v : Value} (h : X4 w w' s k a b v) (hb : Below w'.heap.size w' w'') : X4 w w'' s k a b v := ⟨h.x.grow hb, h.p.below hb⟩

set_option maxHeartbeats 4000000 in
set_option maxRecDepth 100000 in
theorem senc_yes (s k a b : Int) (w : World) (us : U32 s) (ua : U32 a) (ub : U32 b) (hk : 1 ≤ k) (hk' : k ≤ 3) :
    Calls Try.prog 21 #[.agg #[.int .u32 s, .int .i64 k, .int .u32 a, .int .u32 b]] w fun e w' => ∃ v, e = .returned v ∧ Part w' v (encS s k a b) ∧ Below w.heap.size w w' := by
  have hk1 : ¬ k < 1 := by omega
  have hk3 : ¬ 3 < k := by omega
  go_enter Try.func21, Try.ntmps21
  go_wp2_with fail
  refine wp_region_any (by kernel_rfl) ?_
  refine wpAny_slots (frame := fun u => { tmps := #[.agg #[.int .u32 s, .int .i64 k, .int .u32 a, .int .u32 b], .pointer (some ⟨w.heap.size, 0, none⟩), .slice none 0 0, u 18, .pointer (some ⟨w.heap.size, 1, none⟩), .int .i64 k, .bool false, .bool false, .pointer (some ⟨w.heap.size, 1, none⟩), .int .i64 k, .bool false, .bool false, undef,
      u 0, u 1, u 2, u 3, u 4, u 5, u 6, u 7, u 8, u 9, u 10, u 11, u 12, u 13, u 14, u 15, u 16, u 17, undef, undef, undef, undef, undef, undef, undef, undef, undef], defers := [] })
    (Ext := fun w' => X3 w w' s k a b) (Good := G3 w.heap.size s k a b) (G3_mono _ _ _ _ _) (by kernel_rfl) (by kernel_rfl) ?hop ?hdone _ _ (fun _ => undef) _ (by simp) ?ext ?start (by simp)
  case start => intro i hi h; exact absurd h (by rw [Array.getD_eq_getD_getElem?, Array.getElem?_replicate]; split <;> simp)
  case ext =>
    have hb : Below w.heap.size w (w.alloc (.cells #[.int .u32 s, .int .i64 k, .int .u32 a, .int .u32 b] 36)) := below_new _ _
    refine ⟨⟨hb.os, hb.tape, hb.output, hb.size, hb.block⟩, by simp, ?_, ?_, ?_, ?_⟩
    all_goals exact cell_of_row _ _ _ _ _ (0, 0) (heap_alloc_new w _)
  case hdone =>
    intro u w' hx hg
    have h18 : Part w' (u 18) (headS s k a b) := hg 18 (by decide)
    clear hg
    have hl : (headS s k a b).length = 56 := headS_len s k a b
    have hby := headS_byte s k a b us ua ub
    have ucrc := crc_bd (headS s k a b)
    go_wp2
    refine wp_region_any (by kernel_rfl) ?_
    refine wpAny_slots (frame := fun t => { tmps := #[.agg #[.int .u32 s, .int .i64 k, .int .u32 a, .int .u32 b], .pointer (some ⟨w.heap.size, 0, none⟩), t 9, u 18, .pointer (some ⟨w.heap.size, 1, none⟩), .int .i64 k, .bool false, .bool false, .pointer (some ⟨w.heap.size, 1, none⟩), .int .i64 k, .bool false, .bool false, undef,
        u 0, u 1, u 2, u 3, u 4, u 5, u 6, u 7, u 8, u 9, u 10, u 11, u 12, u 13, u 14, u 15, u 16, u 17, t 0, t 1, t 2, t 3, t 4, t 5, t 6, t 7, t 8], defers := [] })
      (Ext := fun w1 => X4 w w1 s k a b (u 18)) (Good := G4 w.heap.size s k a b) (G4_mono _ _ _ _ _) (by kernel_rfl) (by kernel_rfl) ?hop4 ?hdone4 _ _ (fun i => if i = 9 then .slice none 0 0 else undef) _ (by simp) ?ext4 ?start4 (by simp)
    case start4 => intro i hi h; exact absurd h (by rw [Array.getD_eq_getD_getElem?, Array.getElem?_replicate]; split <;> simp)
    case ext4 =>
      have hb : Below w'.heap.size w' w'.drew := (Below.refl _ _).drew
      exact ⟨⟨hx.below.drew, hx.lt, hx.c0, hx.c1, hx.c2, hx.c3⟩, h18.below hb⟩
    case hdone4 =>
      intro t w1 hx1 hg
      have h9 : Part w1 (t 9) (encS s k a b) := hg 9 (by decide)
      have HX : Hid (Below w.heap.size w w1) := hx1.x.below
      have HP : Hid _ := h9
      clear hg hx1 h18 h9 hx
      go_wp2
      go_ret
      exact ⟨_, rfl, HP.out, HX.out⟩
    case hop4 =>
      intro i o t w1 ho hx1 hdep K hK
      have hi : i < 10 := (Array.getElem?_eq_some_iff.1 ho).1
      have c0 := hx1.x.c0
      have hlt := hx1.x.lt
      clear hx h18
      obtain rfl | rfl | rfl | rfl | rfl | rfl | rfl | rfl | rfl | rfl : i = 0 ∨ i = 1 ∨ i = 2 ∨ i = 3 ∨ i = 4 ∨ i = 5 ∨ i = 6 ∨ i = 7 ∨ i = 8 ∨ i = 9 := by omega
      all_goals (simp at ho; subst ho)
      · have hp := hx1.p
        clear hdep
        go_simp
        exact hK w1 (u 18) hp hx1 (Mono.refl _)
      · have hp := hx1.p
        clear hdep
        go_simp
        exact hK w1 (u 18) hp hx1 (Mono.refl _)
      · obtain ⟨bb, oo, cc, d, ll, ee⟩ := hdep ⟨1, .data⟩ (by simp) rfl
        have hat : At .u8 w1 (some ⟨bb, oo, none⟩) (headS s k a b) := .inr ⟨bb, oo, rfl, ll, ee⟩
        rw [hl] at d
        clear hdep ee
        go_simp
        refine (crcS_any _ 56 _ (headS s k a b) _ hl (by decide) hat hby).mono ?_
        rintro e w2 ⟨rfl, rfl⟩
        go_simp
        simpa [upd, d] using hK w2 (.int .u32 (crc (headS s k a b))) rfl hx1 (Mono.refl _)
      · have d : t 2 = _ := hdep ⟨2, .data⟩ (by simp) rfl
        clear hdep
        go_simp
        refine (four_any (crc (headS s k a b)) _ ucrc).mono ?_
        rintro e w2 ⟨rfl, rfl⟩
        have hb := below_new w1 (.cells #[.int .u8 ((crc (headS s k a b)) % 256), .int .u8 ((crc (headS s k a b)) / 256 % 256), .int .u8 ((crc (headS s k a b)) / 65536 % 256), .int .u8 ((crc (headS s k a b)) / 16777216)] 5)
        go_simp
        simpa [upd, d] using hK (w1.alloc (.cells #[.int .u8 ((crc (headS s k a b)) % 256), .int .u8 ((crc (headS s k a b)) / 256 % 256), .int .u8 ((crc (headS s k a b)) / 65536 % 256), .int .u8 ((crc (headS s k a b)) / 16777216)] 5)) (.slice (some ⟨w1.heap.size, 0, none⟩) 4 4) (part_new _ #[.int .u8 ((crc (headS s k a b)) % 256), .int .u8 ((crc (headS s k a b)) / 256 % 256), .int .u8 ((crc (headS s k a b)) / 65536 % 256), .int .u8 ((crc (headS s k a b)) / 16777216)] (four (crc (headS s k a b))) _ rfl _ rfl _) (hx1.grow hb) (Mono.of_below hb)
      · clear hdep
        go_simp
        exact hK w1 _ rfl hx1 (Mono.refl _)
      · have d : t 4 = _ := hdep ⟨4, .data⟩ (by simp) rfl
        clear hdep
        go_simp
        simpa [upd, d] using hK w1 (.int .u32 s) rfl hx1 (Mono.refl _)
      · have d : t 5 = _ := hdep ⟨5, .data⟩ (by simp) rfl
        clear hdep
        go_simp
        refine (four_any s _ us).mono ?_
        rintro e w2 ⟨rfl, rfl⟩
        have hb := below_new w1 (.cells #[.int .u8 (s % 256), .int .u8 (s / 256 % 256), .int .u8 (s / 65536 % 256), .int .u8 (s / 16777216)] 5)
        go_simp
        simpa [upd, d] using hK (w1.alloc (.cells #[.int .u8 (s % 256), .int .u8 (s / 256 % 256), .int .u8 (s / 65536 % 256), .int .u8 (s / 16777216)] 5)) (.slice (some ⟨w1.heap.size, 0, none⟩) 4 4) (part_new _ #[.int .u8 (s % 256), .int .u8 (s / 256 % 256), .int .u8 (s / 65536 % 256), .int .u8 (s / 16777216)] (four s) _ rfl _ rfl _) (hx1.grow hb) (Mono.of_below hb)
      · obtain ⟨b2, o2, p2, d2, l2, e2⟩ := hdep ⟨0, .data⟩ (by simp) rfl
        obtain ⟨b4, o4, p4, d4, l4, e4⟩ := hdep ⟨3, .data⟩ (by simp) rfl
        obtain ⟨b8, o8, p8, d8, l8, e8⟩ := hdep ⟨6, .data⟩ (by simp) rfl
        clear hdep
        rw [hl] at d2
        have hb := below_new w1 (.cells #[.slice (some ⟨b2, o2, none⟩) 56 p2, .slice (some ⟨b4, o4, none⟩) 4 p4, .slice (some ⟨b8, o8, none⟩) 4 p8] 22)
        have hm := Mono.of_below hb
        have q2 : Part w1 (.slice (some ⟨b2, o2, none⟩) 56 p2) (headS s k a b) := ⟨b2, o2, p2, by rw [hl], l2, e2⟩
        have q4 : Part w1 (.slice (some ⟨b4, o4, none⟩) 4 p4) (four (crc (headS s k a b))) := ⟨b4, o4, p4, rfl, l4, e4⟩
        have q8 : Part w1 (.slice (some ⟨b8, o8, none⟩) 4 p8) (four s) := ⟨b8, o8, p8, rfl, l8, e8⟩
        have hd2 : t 0 = .slice (some ⟨b2, o2, none⟩) 56 p2 := d2
        have hd4 : t 3 = .slice (some ⟨b4, o4, none⟩) 4 p4 := d4
        have hd8 : t 6 = .slice (some ⟨b8, o8, none⟩) 4 p8 := d8
        have HG : Hid (G4 w.heap.size s k a b 7 (w1.alloc (.cells #[.slice (some ⟨b2, o2, none⟩) 56 p2, .slice (some ⟨b4, o4, none⟩) 4 p4, .slice (some ⟨b8, o8, none⟩) 4 p8] 22)) (.slice (some ⟨w1.heap.size, 0, none⟩) 3 3)) := by
          refine ⟨w1.heap.size, [.slice (some ⟨b2, o2, none⟩) 56 p2, .slice (some ⟨b4, o4, none⟩) 4 p4, .slice (some ⟨b8, o8, none⟩) 4 p8], rfl, by simp, fun i hi => ?_⟩
          rw [cell_of_row _ _ i _ _ (0, 0) (heap_alloc_new w1 _)]
          obtain rfl | rfl | rfl : i = 0 ∨ i = 1 ∨ i = 2 := by omega
          · exact ⟨rfl, q2.mono hm⟩
          · exact ⟨rfl, q4.mono hm⟩
          · exact ⟨rfl, q8.mono hm⟩
        clear e2 e4 e8 d2 d4 d8 q2 q4 q8
        go_simp
        simpa [upd, hd2, hd4, hd8] using hK _ _ HG.out (hx1.grow hb) hm
      · obtain ⟨g, vs, d, hgl, hcell⟩ := hdep ⟨7, .data⟩ (by simp) rfl
        have hc := fun i hi => (hcell i hi).1
        have hp := fun i hi => (hcell i hi).2
        clear hdep hcell
        have HC : Hid _ := hc
        have HP : Hid _ := hp
        clear hc hp
        go_simp
        refine (cat_any g 3 3 vs (parts3 s k a b) _ rfl hgl HC.out HP.out (by simp [parts3, four, hl]) (by decide)).mono ?_
        rintro e w2 ⟨v, rfl, hown, hb⟩
        go_simp
        simpa [upd, d] using hK w2 v hown.part (hx1.grow hb) (Mono.of_below hb)
      · have d := hdep ⟨8, .data⟩ (by simp) rfl
        clear hdep
        go_simp
        exact hK w1 (t 8) d hx1 (Mono.refl _)
  case hop =>
    intro i o u w' ho hx hdep K hK
    have hi : i < 19 := (Array.getElem?_eq_some_iff.1 ho).1
    have c0 := hx.c0
    have c1 := hx.c1
    have c2 := hx.c2
    have c3 := hx.c3
    have hlt := hx.lt
    obtain rfl | rfl | rfl | rfl | rfl | rfl | rfl | rfl | rfl | rfl | rfl | rfl | rfl | rfl | rfl | rfl | rfl | rfl | rfl : i = 0 ∨ i = 1 ∨ i = 2 ∨ i = 3 ∨ i = 4 ∨ i = 5 ∨ i = 6 ∨ i = 7 ∨ i = 8 ∨ i = 9 ∨ i = 10 ∨ i = 11 ∨ i = 12 ∨ i = 13 ∨ i = 14 ∨ i = 15 ∨ i = 16 ∨ i = 17 ∨ i = 18 := by omega
    all_goals (simp at ho; subst ho)
    · go_simp; exact hK w' _ rfl hx (Mono.refl _)
    · have d : u 0 = _ := hdep ⟨0, .data⟩ (by simp) rfl
      go_simp
      simpa [upd, d] using hK w' (.int .u32 s) rfl hx (Mono.refl _)
    · have d : u 1 = _ := hdep ⟨1, .data⟩ (by simp) rfl
      go_simp
      refine (four_any s _ us).mono ?_
      rintro e w1 ⟨rfl, rfl⟩
      have hb := below_new w' (.cells #[.int .u8 (s % 256), .int .u8 (s / 256 % 256), .int .u8 (s / 65536 % 256), .int .u8 (s / 16777216)] 5)
      go_simp
      simpa [upd, d] using hK (w'.alloc (.cells #[.int .u8 (s % 256), .int .u8 (s / 256 % 256), .int .u8 (s / 65536 % 256), .int .u8 (s / 16777216)] 5)) (.slice (some ⟨w'.heap.size, 0, none⟩) 4 4) (part_new _ #[.int .u8 (s % 256), .int .u8 (s / 256 % 256), .int .u8 (s / 65536 % 256), .int .u8 (s / 16777216)] (four s) _ rfl _ rfl _) (hx.grow hb) (Mono.of_below hb)
    · have hb := below_new w' (.cells #[.int .u8 74, .int .u8 49] 5)
      go_simp
      exact hK _ _ ⟨w'.heap.size, (0, 0), rfl, hlt, heap_alloc_new w' _⟩ (hx.grow hb) (Mono.of_below hb)
    · obtain ⟨g, fr, d, hBg, hh⟩ := hdep ⟨3, .data⟩ (by simp) rfl
      have hcv := run_convert_const w' g _ 2 2 fr hh
      have hm := freeze_mono w' g 2
      have hgl : g < w'.heap.size := (Array.getElem?_eq_some_iff.1 hh).1
      have hp : Part w' (.slice (some ⟨g, 0, none⟩) 2 2) [74, 49] := ⟨g, 0, 2, rfl, hgl, fun i hi => by
        rw [cell_of_row _ _ (0 + i) _ _ fr hh]
        have : i = 0 ∨ i = 1 := by simp at hi; omega
        rcases this with rfl | rfl <;> rfl⟩
      clear hdep
      go_simp
      simpa [upd, d] using hK (w'.freeze ⟨g, 2, none⟩ 1) (.slice (some ⟨g, 0, none⟩) 2 2) (hp.mono hm) (hx.step (freeze_below w' g 2 _ (by omega)) hm) hm
    · go_simp; exact hK w' _ rfl hx (Mono.refl _)
    · have d : u 5 = _ := hdep ⟨5, .data⟩ (by simp) rfl
      go_simp
      simpa [upd, d] using hK w' (.int .i64 k) rfl hx (Mono.refl _)
    · have d : u 6 = _ := hdep ⟨6, .data⟩ (by simp) rfl
      go_simp
      simpa [upd, d, IntKind.wrap_u8] using hK w' (.int .u8 (k % 256)) rfl hx (Mono.refl _)
    · have d : u 7 = _ := hdep ⟨7, .data⟩ (by simp) rfl
      have hb := below_new w' (.cells #[.int .u8 (k % 256), .int .u8 0] 5)
      go_simp
      simpa [upd, d] using hK _ (.slice (some ⟨w'.heap.size, 0, none⟩) 2 2) (part_new _ _ [k % 256, 0] _ rfl _ rfl _) (hx.grow hb) (Mono.of_below hb)
    · go_simp; exact hK w' _ rfl hx (Mono.refl _)
    · have d : u 9 = _ := hdep ⟨9, .data⟩ (by simp) rfl
      go_simp
      simpa [upd, d] using hK w' (.int .u32 a) rfl hx (Mono.refl _)
    · have d : u 10 = _ := hdep ⟨10, .data⟩ (by simp) rfl
      go_simp
      refine (four_any a _ ua).mono ?_
      rintro e w1 ⟨rfl, rfl⟩
      have hb := below_new w' (.cells #[.int .u8 (a % 256), .int .u8 (a / 256 % 256), .int .u8 (a / 65536 % 256), .int .u8 (a / 16777216)] 5)
      go_simp
      simpa [upd, d] using hK (w'.alloc (.cells #[.int .u8 (a % 256), .int .u8 (a / 256 % 256), .int .u8 (a / 65536 % 256), .int .u8 (a / 16777216)] 5)) (.slice (some ⟨w'.heap.size, 0, none⟩) 4 4) (part_new _ #[.int .u8 (a % 256), .int .u8 (a / 256 % 256), .int .u8 (a / 65536 % 256), .int .u8 (a / 16777216)] (four a) _ rfl _ rfl _) (hx.grow hb) (Mono.of_below hb)
    · go_simp; exact hK w' _ rfl hx (Mono.refl _)
    · have d : u 12 = _ := hdep ⟨12, .data⟩ (by simp) rfl
      go_simp
      simpa [upd, d] using hK w' (.int .u32 b) rfl hx (Mono.refl _)
    · have d : u 13 = _ := hdep ⟨13, .data⟩ (by simp) rfl
      go_simp
      refine (four_any b _ ub).mono ?_
      rintro e w1 ⟨rfl, rfl⟩
      have hb := below_new w' (.cells #[.int .u8 (b % 256), .int .u8 (b / 256 % 256), .int .u8 (b / 65536 % 256), .int .u8 (b / 16777216)] 5)
      go_simp
      simpa [upd, d] using hK (w'.alloc (.cells #[.int .u8 (b % 256), .int .u8 (b / 256 % 256), .int .u8 (b / 65536 % 256), .int .u8 (b / 16777216)] 5)) (.slice (some ⟨w'.heap.size, 0, none⟩) 4 4) (part_new _ #[.int .u8 (b % 256), .int .u8 (b / 256 % 256), .int .u8 (b / 65536 % 256), .int .u8 (b / 16777216)] (four b) _ rfl _ rfl _) (hx.grow hb) (Mono.of_below hb)
    · go_simp
      refine (zeros_any 40 _ (by decide) (by decide)).mono ?_
      rintro e w1 ⟨v, rfl, hown, hb⟩
      go_simp
      exact hK w1 v hown.part (hx.grow hb) (Mono.of_below hb)
    · obtain ⟨b2, o2, p2, d2, l2, e2⟩ := hdep ⟨2, .data⟩ (by simp) rfl
      obtain ⟨b4, o4, p4, d4, l4, e4⟩ := hdep ⟨4, .data⟩ (by simp) rfl
      obtain ⟨b8, o8, p8, d8, l8, e8⟩ := hdep ⟨8, .data⟩ (by simp) rfl
      obtain ⟨b11, o11, p11, d11, l11, e11⟩ := hdep ⟨11, .data⟩ (by simp) rfl
      obtain ⟨b14, o14, p14, d14, l14, e14⟩ := hdep ⟨14, .data⟩ (by simp) rfl
      obtain ⟨b15, o15, p15, d15, l15, e15⟩ := hdep ⟨15, .data⟩ (by simp) rfl
      clear hdep
      have hb := below_new w' (.cells #[.slice (some ⟨b2, o2, none⟩) 4 p2, .slice (some ⟨b4, o4, none⟩) 2 p4, .slice (some ⟨b8, o8, none⟩) 2 p8, .slice (some ⟨b11, o11, none⟩) 4 p11, .slice (some ⟨b14, o14, none⟩) 4 p14, .slice (some ⟨b15, o15, none⟩) 40 p15] 22)
      have hm := Mono.of_below hb
      have q2 : Part w' (.slice (some ⟨b2, o2, none⟩) 4 p2) (four s) := ⟨b2, o2, p2, rfl, l2, e2⟩
      have q4 : Part w' (.slice (some ⟨b4, o4, none⟩) 2 p4) [74, 49] := ⟨b4, o4, p4, rfl, l4, e4⟩
      have q8 : Part w' (.slice (some ⟨b8, o8, none⟩) 2 p8) [k % 256, 0] := ⟨b8, o8, p8, rfl, l8, e8⟩
      have q11 : Part w' (.slice (some ⟨b11, o11, none⟩) 4 p11) (four a) := ⟨b11, o11, p11, rfl, l11, e11⟩
      have q14 : Part w' (.slice (some ⟨b14, o14, none⟩) 4 p14) (four b) := ⟨b14, o14, p14, rfl, l14, e14⟩
      have q15 : Part w' (.slice (some ⟨b15, o15, none⟩) 40 p15) (List.replicate 40 0) := ⟨b15, o15, p15, rfl, l15, e15⟩
      have hd2 : u 2 = .slice (some ⟨b2, o2, none⟩) 4 p2 := d2
      have hd4 : u 4 = .slice (some ⟨b4, o4, none⟩) 2 p4 := d4
      have hd8 : u 8 = .slice (some ⟨b8, o8, none⟩) 2 p8 := d8
      have hd11 : u 11 = .slice (some ⟨b11, o11, none⟩) 4 p11 := d11
      have hd14 : u 14 = .slice (some ⟨b14, o14, none⟩) 4 p14 := d14
      have hd15 : u 15 = .slice (some ⟨b15, o15, none⟩) 40 p15 := d15
      have HG : Hid (G3 w.heap.size s k a b 16 (w'.alloc (.cells #[.slice (some ⟨b2, o2, none⟩) 4 p2, .slice (some ⟨b4, o4, none⟩) 2 p4, .slice (some ⟨b8, o8, none⟩) 2 p8, .slice (some ⟨b11, o11, none⟩) 4 p11, .slice (some ⟨b14, o14, none⟩) 4 p14, .slice (some ⟨b15, o15, none⟩) 40 p15] 22)) (.slice (some ⟨w'.heap.size, 0, none⟩) 6 6)) := by
        refine ⟨w'.heap.size, [.slice (some ⟨b2, o2, none⟩) 4 p2, .slice (some ⟨b4, o4, none⟩) 2 p4, .slice (some ⟨b8, o8, none⟩) 2 p8, .slice (some ⟨b11, o11, none⟩) 4 p11, .slice (some ⟨b14, o14, none⟩) 4 p14, .slice (some ⟨b15, o15, none⟩) 40 p15], rfl, by simp, fun i hi => ?_⟩
        rw [cell_of_row _ _ i _ _ (0, 0) (heap_alloc_new w' _)]
        obtain rfl | rfl | rfl | rfl | rfl | rfl : i = 0 ∨ i = 1 ∨ i = 2 ∨ i = 3 ∨ i = 4 ∨ i = 5 := by omega
        · exact ⟨rfl, q2.mono hm⟩
        · exact ⟨rfl, q4.mono hm⟩
        · exact ⟨rfl, q8.mono hm⟩
        · exact ⟨rfl, q11.mono hm⟩
        · exact ⟨rfl, q14.mono hm⟩
        · exact ⟨rfl, q15.mono hm⟩
      clear e2 e4 e8 e11 e14 e15 d2 d4 d8 d11 d14 d15 q2 q4 q8 q11 q14 q15
      go_simp
      simpa [upd, hd2, hd4, hd8, hd11, hd14, hd15] using hK _ _ HG.out (hx.grow hb) hm
    · obtain ⟨g, vs, d, hgl, hcell⟩ := hdep ⟨16, .data⟩ (by simp) rfl
      have hc := fun i hi => (hcell i hi).1
      have hp := fun i hi => (hcell i hi).2
      clear hdep hcell
      have HC : Hid _ := hc
      have HP : Hid _ := hp
      clear hc hp
      go_simp
      refine (cat_any g 6 6 vs (parts6 s k a b) _ rfl hgl HC.out HP.out (by simp [parts6, four]) (by decide)).mono ?_
      rintro e w1 ⟨v, rfl, hown, hb⟩
      go_simp
      simpa [upd, d] using hK w1 v hown.part (hx.grow hb) (Mono.of_below hb)
    · have d := hdep ⟨17, .data⟩ (by simp) rfl
      clear hdep
      go_simp
      exact hK w' (u 17) d hx (Mono.refl _)

set_option maxHeartbeats 400000 in
theorem senc_no (s k a b : Int) (w : World) (hk : k < 1 ∨ 3 < k) :
    Calls Try.prog 21 #[.agg #[.int .u32 s, .int .i64 k, .int .u32 a, .int .u32 b]] w fun e w' => ∃ v, e = .returned v ∧ Part w' v [] ∧ Below w.heap.size w w' := by
  by_cases h1 : k < 1
  · have h1' : decide (k < 1) = true := by simpa using h1
    go_enter Try.func21, Try.ntmps21
    go_wp2
    go_ret
    exact ⟨_, rfl, ⟨_, 0, 0, rfl, by simp, fun i hi => by simp at hi⟩, ((Below.refl _ _).alloc (Nat.le_refl _) _).alloc (by simp) _⟩
  · have h3 : 3 < k := by omega
    go_enter Try.func21, Try.ntmps21
    go_wp2
    go_ret
    exact ⟨_, rfl, ⟨_, 0, 0, rfl, by simp, fun i hi => by simp at hi⟩, ((Below.refl _ _).alloc (Nat.le_refl _) _).alloc (by simp) _⟩
end Go.Proofs.Ythghkfncpdnpoaa
