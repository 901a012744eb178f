/-
  Own work: the parts of a slot, by the program.
-/
import Derived.Test.YtmnoelfabldpfaaDkP
import Derived.Test.YtmnoelfabldpfaaMSec
namespace Go.Proofs.Ytmnoelfabldpfaa
open Go.ChangeShapes Go.WideShapes Go.ChangeAt Go.RowKit
set_option linter.unusedVariables false

set_option maxHeartbeats 400000 in
theorem numS_any (g : Nat) (t : TypeId) (p : Int) (zs : List Int) (w : World) (hr : Row w g t zs) (hz : Byte zs) (hl : zs.length = 128) (hp : 0 ≤ p) (hp' : p ≤ 60) :
    Calls Try.prog 40 #[.pointer (some ⟨g, 0, none⟩), .int .i64 p] w fun e w' => e = .returned (.int .u32 (num4 zs p.toNat)) ∧ Below w.heap.size w w' := by
  obtain ⟨p, rfl⟩ := Int.eq_ofNat_of_zero_le hp
  have c0 := hr.cell p (by omega)
  have c1 := hr.cell (p + 1) (by omega)
  have c2 := hr.cell (p + 2) (by omega)
  have c3 := hr.cell (p + 3) (by omega)
  have b0 := hz.get p
  have b1 := hz.get (p + 1)
  have b2 := hz.get (p + 2)
  have b3 := hz.get (p + 3)
  have HN : Hid (num4 zs p = zs.getD p 0 + 256 * zs.getD (p + 1) 0 + 65536 * zs.getD (p + 2) 0 + 16777216 * zs.getD (p + 3) 0) := rfl
  generalize zs.getD p 0 = a at *
  generalize zs.getD (p + 1) 0 = b at *
  generalize zs.getD (p + 2) 0 = c at *
  generalize zs.getD (p + 3) 0 = d at *
  have HB := num_bits a b c d b0 b1 b2 b3
  have HH : Hid _ := HB
  clear HB
  obtain ⟨b01, b02⟩ := b0
  obtain ⟨b11, b12⟩ := b1
  obtain ⟨b21, b22⟩ := b2
  obtain ⟨b31, b32⟩ := b3
  go_enter Try.func40, Try.ntmps40
  go_wp2
  go_quiet (fail)
  go_wp2
  go_ret
  exact ⟨ret_int (by rw [HH.out, Int.toNat_natCast, HN.out]), ⟨rfl, rfl, rfl, Nat.le_refl _, fun _ _ => rfl⟩⟩
structure DNS (w : World) (zs : List Int) (k : Nat) (v : Value) (wr : World) : Prop where
  own : Iow w.heap.size wr v (dkD zs k)
  below : Below w.heap.size w wr
set_option maxRecDepth 100000 in
set_option maxHeartbeats 1000000 in
theorem denied_any (g : Nat) (zs : List Int) (w : World) (hr : Row w g 45 zs) (hl : zs.length = 128) (hz : Byte zs) (hn : zs.getD 6 0 ≤ 16) :
    Calls Try.prog 41 #[.pointer (some ⟨g, 0, none⟩)] w fun e w' => ∃ v, e = .returned v ∧ Iow w.heap.size w' v (dkD zs (dkN zs)) ∧ Below w.heap.size w w' := by
  have c6 := hr.cell 6 (by omega)
  have b6 := hz.get 6
  obtain ⟨n, hn6⟩ : ∃ n : Nat, zs.getD 6 0 = n := ⟨(zs.getD 6 0).toNat, by omega⟩
  have HN : Hid (dkN zs = n) := by show _ = _; unfold dkN; omega
  rw [hn6] at c6 hn
  have hn' : n ≤ 16 := by omega
  have HR : Hid (Row w g 45 zs ∧ zs.length = 128 ∧ Byte zs) := ⟨hr, hl, hz⟩
  have H0 : Hid (DNS w zs 0 (.slice none 0 0) w) := ⟨Iow.nil _ _, Below.refl _ _⟩
  clear hr hl hz b6 hn6 hn
  go_enter Try.func41, Try.ntmps41
  go_wp2_with fail
  clear c6
  go_loopw [3, 11] (fun l i wr => ∃ (k : Nat) (v : Value), k ≤ n ∧ i = .int .i64 k ∧ v = l ∧ DNS w zs k v wr) (fun _ i _ => n - (intOf i).toNat)
  case atStart => exact ⟨0, _, Nat.zero_le _, rfl, rfl, H0.out⟩
  case round =>
    clear H0
    obtain ⟨k, l, hk, rfl, rfl, hst⟩ := hrel
    by_cases hlt : k < n
    · have hlt' : (k : Int) < n := by omega
      have HST : Hid (DNS w zs k l wr) := hst
      clear hst
      go_wp2_with fail
      refine (denyP_any g k _ (by omega)).mono ?_
      rintro e w2 ⟨c, rfl, hw2⟩
      subst w2
      have hA1 : dkA k + 1 < 128 := dkA_lt (by omega)
      have hrw : Row wr g 45 zs := by
        have := HST.out.below.block g HR.out.1.lt
        unfold Row; rw [this]; exact HR.out.1
      have HAt : Hid (At .u8 wr (some ⟨g, dkA k, none⟩) [zs.getD (dkA k) 0, zs.getD (dkA k + 1) 0]) := .inr ⟨g, dkA k, rfl, hrw.lt, fun i hi => by
        have : i = 0 ∨ i = 1 := by simp at hi; omega
        rcases this with rfl | rfl
        · rw [Nat.add_zero, hrw.cell _ (by rw [HR.out.2.1]; omega)]; rfl
        · rw [hrw.cell _ (by rw [HR.out.2.1]; omega)]; rfl⟩
      have HBy : Hid (Byte [zs.getD (dkA k) 0, zs.getD (dkA k + 1) 0]) := byte2 (HR.out.2.2.get _) (HR.out.2.2.get _)
      have HV : Hid (val 256 [zs.getD (dkA k) 0, zs.getD (dkA k + 1) 0] = dkS zs k) := by show _ = _; unfold dkS; simp [val]
      have e8 : (if k < 8 then 44 + 2 * k else 56 + 2 * k) = dkA k := rfl
      rw [e8]
      generalize dkA k = A at *
      generalize zs.getD A 0 = x at *
      generalize zs.getD (A + 1) 0 = y at *
      clear e8 hA1 hrw
      go_wp2_with fail
      refine (le_any (some ⟨g, A, none⟩) 2 c [x, y] _ rfl (by decide) HAt.out HBy.out).mono ?_
      rintro e w3 ⟨rfl, hw3⟩
      subst w3
      generalize val 256 [x, y] = s at *
      have HNX : Hid (dkD zs (k + 1) = dkD zs k ++ [s]) := by show _ = _; rw [dkD_succ, HV.out]
      have HL : Hid ((dkD zs k).length ≤ 1048576) := by show _ ≤ _; rw [dkD_len]; omega
      have HO : Hid (Iow w.heap.size (wr.alloc (.cells #[.int .i64 s] 2)) l (dkD zs k)) := HST.out.own.alloc _
      have HZ : Hid (w.heap.size ≤ (wr.alloc (.cells #[.int .i64 s] 2)).heap.size) := by
        show _ ≤ _
        have := HST.out.below.size
        simp; omega
      clear HAt HBy HV
      go_wp2_with (first
        | (refine wpList_app1 _ rfl (.tmp 14) (.tmp 19) rfl w.heap.size _ (dkD zs k) rfl HO.out wr s rfl rfl HL.out HZ.out ?_)
        | fail)
      intro v' w3 h1 h2
      have HF : Hid (DNS w zs (k + 1) v' w3) := ⟨by rw [HNX.out]; exact h1, (HST.out.below.alloc HST.out.below.size _).trans h2⟩
      clear h1 h2 HO HZ HL
      go_wp2
      go_roundw
      case rel => exact ⟨k + 1, _, by omega, by go_num, rfl, HF.out⟩
      case measure => simp [intOf]; omega
    · have hke : k = n := by omega
      subst hke
      have HF : Hid (∃ v, Ending.returned l = .returned v ∧ Iow w.heap.size wr v (dkD zs (dkN zs)) ∧ Below w.heap.size w wr) := ⟨l, rfl, by rw [HN.out]; exact hst.own, hst.below⟩
      clear hst
      go_wp2
      go_ret
      exact HF.out
set_option maxRecDepth 100000 in
set_option maxHeartbeats 2000000 in
theorem used_any (g : Nat) (zs : List Int) (w : World) (hr : Row w g 45 zs) (hl : zs.length = 128) (hz : Byte zs) :
    Calls Try.prog 42 #[.pointer (some ⟨g, 0, none⟩)] w fun e w' => ∃ v, e = .returned v ∧ Iow w.heap.size w' v (dkU zs) ∧ Below w.heap.size w w' := by
  have HR : Hid (Row w g 45 zs ∧ zs.length = 128 ∧ Byte zs) := ⟨hr, hl, hz⟩
  have HX0 : Hid (Below w.heap.size w (w.alloc (.cells #[.int .u8 0, .int .u8 0, .int .u8 0, .int .u8 0, .int .u8 0, .int .u8 0, .int .u8 0, .int .u8 0, .int .u8 0, .int .u8 0, .int .u8 0, .int .u8 0, .int .u8 0, .int .u8 0, .int .u8 0, .int .u8 0, .int .u8 0, .int .u8 0, .int .u8 0, .int .u8 0, .int .u8 0, .int .u8 0, .int .u8 0, .int .u8 0, .int .u8 0, .int .u8 0, .int .u8 0, .int .u8 0, .int .u8 0, .int .u8 0, .int .u8 0, .int .u8 0] 83)) ∧ Row (w.alloc (.cells #[.int .u8 0, .int .u8 0, .int .u8 0, .int .u8 0, .int .u8 0, .int .u8 0, .int .u8 0, .int .u8 0, .int .u8 0, .int .u8 0, .int .u8 0, .int .u8 0, .int .u8 0, .int .u8 0, .int .u8 0, .int .u8 0, .int .u8 0, .int .u8 0, .int .u8 0, .int .u8 0, .int .u8 0, .int .u8 0, .int .u8 0, .int .u8 0, .int .u8 0, .int .u8 0, .int .u8 0, .int .u8 0, .int .u8 0, .int .u8 0, .int .u8 0, .int .u8 0] 83)) g 45 zs ∧ (w.alloc (.cells #[.int .u8 0, .int .u8 0, .int .u8 0, .int .u8 0, .int .u8 0, .int .u8 0, .int .u8 0, .int .u8 0, .int .u8 0, .int .u8 0, .int .u8 0, .int .u8 0, .int .u8 0, .int .u8 0, .int .u8 0, .int .u8 0, .int .u8 0, .int .u8 0, .int .u8 0, .int .u8 0, .int .u8 0, .int .u8 0, .int .u8 0, .int .u8 0, .int .u8 0, .int .u8 0, .int .u8 0, .int .u8 0, .int .u8 0, .int .u8 0, .int .u8 0, .int .u8 0] 83)).heap[w.heap.size]? = some (.cells #[.int .u8 0, .int .u8 0, .int .u8 0, .int .u8 0, .int .u8 0, .int .u8 0, .int .u8 0, .int .u8 0, .int .u8 0, .int .u8 0, .int .u8 0, .int .u8 0, .int .u8 0, .int .u8 0, .int .u8 0, .int .u8 0, .int .u8 0, .int .u8 0, .int .u8 0, .int .u8 0, .int .u8 0, .int .u8 0, .int .u8 0, .int .u8 0, .int .u8 0, .int .u8 0, .int .u8 0, .int .u8 0, .int .u8 0, .int .u8 0, .int .u8 0, .int .u8 0] 83 (0, 0))) := ⟨below_new w _, by unfold Row; rw [(below_new w _).block g hr.lt]; exact hr, heap_alloc_new w _⟩
  clear hr hl hz
  go_enter Try.func42, Try.ntmps42
  go_wp2_with fail
  generalize (w.alloc (.cells #[.int .u8 0, .int .u8 0, .int .u8 0, .int .u8 0, .int .u8 0, .int .u8 0, .int .u8 0, .int .u8 0, .int .u8 0, .int .u8 0, .int .u8 0, .int .u8 0, .int .u8 0, .int .u8 0, .int .u8 0, .int .u8 0, .int .u8 0, .int .u8 0, .int .u8 0, .int .u8 0, .int .u8 0, .int .u8 0, .int .u8 0, .int .u8 0, .int .u8 0, .int .u8 0, .int .u8 0, .int .u8 0, .int .u8 0, .int .u8 0, .int .u8 0, .int .u8 0] 83)) = w0 at *
  refine wp_region_any (by kernel_rfl) ?_
  refine wpAny_slotsU (fun _ _ _ => True) (frame := (fun (c0 c1 c2 c3 c10 : Value) => fun (t : Nat → Value) => ({ tmps := List.toArray (c0 :: c1 :: c2 :: c3 :: t 0 :: t 1 :: t 2 :: t 3 :: t 4 :: t 5 :: c10 :: []), defers := [] } : Act)) _ _ _ _ _)
    (Ext := fun L u w' => if L 5 = true then Below w.heap.size w w' ∧ Row w' w.heap.size 83 (dkM zs) else Below w.heap.size w w' ∧ Row w' g 45 zs ∧ w'.heap[w.heap.size]? = some (.cells #[.int .u8 0, .int .u8 0, .int .u8 0, .int .u8 0, .int .u8 0, .int .u8 0, .int .u8 0, .int .u8 0, .int .u8 0, .int .u8 0, .int .u8 0, .int .u8 0, .int .u8 0, .int .u8 0, .int .u8 0, .int .u8 0, .int .u8 0, .int .u8 0, .int .u8 0, .int .u8 0, .int .u8 0, .int .u8 0, .int .u8 0, .int .u8 0, .int .u8 0, .int .u8 0, .int .u8 0, .int .u8 0, .int .u8 0, .int .u8 0, .int .u8 0, .int .u8 0] 83 (0, 0))) (Good := fun i L w' v => if i = 0 then v = .slice (some ⟨w.heap.size, 0, none⟩) 32 32 else if i = 1 then v = .pointer (some ⟨g, 0, none⟩) else if i = 2 then v = .pointer (some ⟨g, 0, none⟩) else if i = 3 then v = .pointer (some ⟨g, 0, none⟩) else if i = 4 then v = .slice (some ⟨g, 12, none⟩) 52 52 else if i = 5 then L 5 = true else True) ?hstab (by kernel_rfl) ?hop ?hdone _ _ ((fun (x0 x1 x2 x3 x4 x5 : Value) => fun (i : Nat) => if i = 0 then x0 else if i = 1 then x1 else if i = 2 then x2 else if i = 3 then x3 else if i = 4 then x4 else if i = 5 then x5 else undef) _ _ _ _ _ _) _ (by simp) ?ext ?start (by simp)
  case start => intro i hi h; exact absurd h (by rw [Array.getD_eq_getD_getElem?, Array.getElem?_replicate]; split <;> simp)
  case ext =>
    rw [if_neg (by show ¬ (Array.getD _ _ _ = true); rw [Array.getD_eq_getD_getElem?, Array.getElem?_replicate]; split <;> simp)]
    exact ⟨HX0.out.1.drew, HX0.out.2.1, HX0.out.2.2⟩
  case hstab =>
    intro j L w9 w' i v hM hij hLi h
    by_cases hl : j = 5
    · subst hl
      simp at h ⊢
      unfold updK; simp [h]
    · simp only [if_neg hl] at h ⊢
      exact h
  case hop =>
    intro i o L t w' ho hLi hx hdep K hK
    have hi : i < 6 := (Array.getElem?_eq_some_iff.1 ho).1
    obtain rfl | rfl | rfl | rfl | rfl | rfl : i = 0 ∨ i = 1 ∨ i = 2 ∨ i = 3 ∨ i = 4 ∨ i = 5 := by omega
    all_goals (simp at ho; subst ho)
    · clear hdep
      have hK' := hK w' (.slice (some ⟨w.heap.size, 0, none⟩) 32 32) (by simp) (by simpa [updK] using hx) trivial
      clear hK
      rw [if_pos (by rfl)]
      go_simp
      simpa [upd] using hK'
    · clear hdep
      have hK' := hK w' (.pointer (some ⟨g, 0, none⟩)) (by simp) (by simpa [updK] using hx) trivial
      clear hK
      rw [if_pos (by rfl)]
      go_simp
      simpa [upd] using hK'
    · have d1 : t 1 = .pointer (some ⟨g, 0, none⟩) := by simpa using (hdep ⟨1, .data⟩ (by simp) rfl).2
      clear hdep
      have hK' := hK w' (.pointer (some ⟨g, 0, none⟩)) (by simp) (by simpa [updK] using hx) trivial
      clear hK
      rw [if_pos (by rfl)]
      go_simp
      simpa [upd, d1] using hK'
    · have d2 : t 2 = .pointer (some ⟨g, 0, none⟩) := by simpa using (hdep ⟨2, .data⟩ (by simp) rfl).2
      clear hdep
      have hK' := hK w' (.pointer (some ⟨g, 0, none⟩)) (by simp) (by simpa [updK] using hx) trivial
      clear hK
      rw [if_pos (by rfl)]
      go_simp
      simpa [upd, d2] using hK'
    · have d3 : t 3 = .pointer (some ⟨g, 0, none⟩) := by simpa using (hdep ⟨3, .data⟩ (by simp) rfl).2
      clear hdep
      have hK' := hK w' (.slice (some ⟨g, 12, none⟩) 52 52) (by simp) (by simpa [updK] using hx) trivial
      clear hK
      rw [if_pos (by rfl)]
      go_simp
      simpa [upd, d3] using hK'
    · have d0 : t 0 = .slice (some ⟨w.heap.size, 0, none⟩) 32 32 := by simpa using (hdep ⟨0, .data⟩ (by simp) rfl).2
      have d4 : t 4 = .slice (some ⟨g, 12, none⟩) 52 52 := by simpa using (hdep ⟨4, .data⟩ (by simp) rfl).2
      clear hdep
      rw [hLi, if_neg (by decide)] at hx
      rw [if_pos (by rfl)]
      refine wp_copyG (.tmp 4) (.tmp 8) rfl (some ⟨w.heap.size, 0, none⟩) (some ⟨g, 12, none⟩) (w.heap.size) 0 32 32 52 52 d0 d4 _ 83 hx.2.2 (dkM zs) (by rw [dkM_len HR.out.2.1]; rfl) (fun _ => ⟨rfl, _, rfl, fun j hj => ?_⟩) (by rw [dkM_len HR.out.2.1]; decide) ?_
      · rw [dkM_len HR.out.2.1] at hj
        rw [Addr.add_lit, Row.cell hx.2.1 (12 + j) (by rw [HR.out.2.1]; omega), dkM_get HR.out.2.1 j hj]
      · intro w2 h2 hw2
        have hrow : Row w2 w.heap.size 83 (dkM zs) := by
          unfold Row; rw [h2]; simp [dkM_len HR.out.2.1]
        exact hK w2 _ (by simp [updK]) (by rw [if_pos (by simp [updK])]; exact ⟨hx.1.trans (hw2.below (Nat.le_refl _)), hrow⟩) trivial
  case hdone =>
    intro L t w2 hx hg
    have hlast : L 5 = true := by simpa using hg 5 (by decide)
    rw [if_pos hlast] at hx
    clear hg hlast
    have HX := hid_of hx
    clear hx HX0
    have hbt : ∀ w', Below w2.heap.size w2 w' → BAt w' w.heap.size 0 (dkM zs) := fun w' b => by
      have hr' : Row w' w.heap.size 83 (dkM zs) := by unfold Row; rw [b.block _ (Row.lt HX.out.2)]; exact HX.out.2
      refine ⟨dkM_len HR.out.2.1, dkM_byte HR.out.2.2, fun i hi => ?_⟩
      rw [Nat.zero_add]
      exact ⟨hr'.cell i (by rw [dkM_len HR.out.2.1]; exact hi), hr'.frozen i⟩
    have A := hid_of (list_any w.heap.size 0 (dkM zs) (dkP zs) w2 hbt (dkM_set HR.out.2.1 HR.out.2.2))
    clear hbt
    go_wp2_with fail
    refine A.out.mono ?_
    rintro e w3 ⟨v, rfl, hio, hb3⟩
    have HF : Hid (Iow w.heap.size w3 v (dkU zs) ∧ Below w.heap.size w w3) := ⟨Iow.mono hio HX.out.1.size, HX.out.1.trans (hb3.mono HX.out.1.size)⟩
    clear hio hb3 A HX
    go_wp2
    go_ret
    exact ⟨_, rfl, HF.out⟩
end Go.Proofs.Ytmnoelfabldpfaa
