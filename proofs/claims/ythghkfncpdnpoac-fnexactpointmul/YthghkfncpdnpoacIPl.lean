/-
  Own work: sums and differences of elements.
-/
import Derived.Test.YthghkfncpdnpoacISet
import Derived.Test.YthghkfncpdnpoacArrW
namespace Go.Proofs.Ythghkfncpdnpoac
open Go.ChangeShapes Go.WideShapes Go.ChangeAt Go.RowKit
set_option linter.unusedVariables false

/-- Five limbs, from place o of block g on. -/
def EAt (w : World) (g o : Nat) (es : List Int) : Prop := g < w.heap.size ∧ EOk es ∧ ∀ i, i < 5 → w.cell? ⟨g, o + i, none⟩ = some (.int .u64 (es.getD i 0))
theorem EAt.below {w w' : World} {g o : Nat} {es : List Int} (h : EAt w g o es) (hb : Below w.heap.size w w') : EAt w' g o es :=
  ⟨by have := hb.size; have := h.1; omega, h.2.1, fun i hi => by rw [hb.cell (p := ⟨g, o + i, none⟩) h.1]; exact h.2.2 i hi⟩
/-- An answer that is an element of the value x. -/
def EP (w : World) (x : Int) (e : Ending) (w' : World) : Prop :=
  ∃ es : List Int, EOk es ∧ ev es = x ∧ e = .returned (.agg (es.map (Value.int .u64)).toArray) ∧ Below w.heap.size w w'
theorem Try.sizeEl : (Try.prog.info? 82).map (·.size) = some 5 := by kernel_rfl
theorem sizeEl {ns : List Int} (h : ns.length = 5) : (Try.prog.info? 82).map (·.size) = some ((ns.map (Value.int .u64)).toArray).size := by rw [Try.sizeEl]; simp [h]

/-- Limbs changed one by one. -/
def mixE (f : Nat → Int) (zs : List Int) (k : Nat) : List Int := (List.range 5).map fun i => if i < k then f i else zs.getD i 0
theorem mixE_len (f : Nat → Int) (zs : List Int) (k : Nat) : (mixE f zs k).length = 5 := by simp [mixE]
theorem mixE_get (f : Nat → Int) (zs : List Int) (k i : Nat) (h : i < 5) : (mixE f zs k).getD i 0 = if i < k then f i else zs.getD i 0 := rget5 _ i h
theorem mixE_zero (f : Nat → Int) (zs : List Int) (h : zs.length = 5) : mixE f zs 0 = zs := by
  apply list5 (mixE_len _ _ _) h
  intro i hi; rw [mixE_get _ _ _ _ hi]; simp
theorem mixE_step (f : Nat → Int) (zs : List Int) (k : Nat) (h : k < 5) : (mixE f zs k).set k (f k) = mixE f zs (k + 1) := by
  apply list5 (by simp [mixE_len]) (mixE_len _ _ _)
  intro i hi
  rw [getD_set_eq _ _ _ _ (by simp [mixE_len]; omega), mixE_get _ _ _ _ hi, mixE_get _ _ _ _ hi]
  by_cases h2 : i = k
  · subst h2; simp
  · have h3 : (i < k) ↔ (i < k + 1) := by omega
    simp [h2, h3]
theorem val5 (B : Int) (f : Nat → Int) (zs : List Int) : val B (mixE f zs 5) = val B ((List.range 5).map f) := by
  congr 1
theorem val_sub5 (B : Int) (f g : Nat → Int) (n : Nat) : val B ((List.range n).map fun i => f i - g i) = val B ((List.range n).map f) - val B ((List.range n).map g) := by
  have := val_lin B f g n (-1)
  rw [show (fun i => f i - g i) = fun i => f i + -1 * g i from by funext i; omega, this]; omega

structure PlS (w : World) (zs : List Int) (wr : World) : Prop where
  res : RowW wr w.heap.size 82 [0, 0, 0, 0, 0]
  row : RowW wr (w.heap.size + 1) 82 zs
  below : Below w.heap.size w wr
theorem PlS.set {w : World} {zs : List Int} {wr : World} (h : PlS w zs wr) (k : Nat) (x : Int) : PlS w (zs.set k x) ((wr.setCell ⟨w.heap.size + 1, k, none⟩ (.int .u64 x)).drew) :=
  ⟨((Wr.refl _ _).setCell k _).rowW h.res (by omega), h.row.set k x, (h.below.setCell (by simp) _).drew⟩
theorem PlS.carry {w : World} {zs ys : List Int} {wr w' : World} (h : PlS w zs wr) (hs : StS wr (w.heap.size + 1) ys w') : PlS w ys w' :=
  ⟨hs.wr.rowW h.res (by omega), hs.row, h.below.trans (hs.wr.below (by omega))⟩

def addL (xs ys : List Int) : List Int := mixE (fun i => xs.getD i 0 + ys.getD i 0) [0, 0, 0, 0, 0] 5
theorem addL_ok {xs ys : List Int} (hx : EOk xs) (hy : EOk ys) : U62 (addL xs ys) ∧ EOk (carryE (addL xs ys)) ∧ ev (carryE (addL xs ys)) = (ev xs + ev ys) % fp := by
  have hb : ∀ i, 0 ≤ (addL xs ys).getD i 0 ∧ (addL xs ys).getD i 0 < 4503599627371008 := fun i => by
    by_cases h : i < 5
    · unfold addL; rw [mixE_get _ _ _ _ h, if_pos h]
      have a0 := hx.2.1 i; have b0 := hy.2.1 i
      rcases Nat.eq_zero_or_pos i with rfl | hi
      · have := hx.2.2.2; have := hy.2.2.2; omega
      · have := hx.2.2.1 i hi; have := hy.2.2.1 i hi; omega
    · rw [getD_past (by unfold addL; rw [mixE_len]; omega)]; omega
  have hc := gcy_le (C := 2) hb (by decide) (by decide) 5
  refine ⟨fun i => by have := hb i; omega, carryE_ok hc.1 (by omega), ?_⟩
  rw [ev_carryE (addL xs ys) (mixE_len _ _ _)]
  unfold ev addL
  rw [val5, val_eq_range B51 xs 5 hx.1, val_eq_range B51 ys 5 hy.1, ← Int.add_emod]
  congr 1
  have := val_lin B51 (fun i => xs.getD i 0) (fun i => ys.getD i 0) 5 1
  rw [show (fun i => xs.getD i 0 + ys.getD i 0) = fun i => xs.getD i 0 + 1 * ys.getD i 0 from by funext i; omega, this]; omega
def twoP : List Int := [4503599627370458, 4503599627370494, 4503599627370494, 4503599627370494, 4503599627370494]
theorem twoP_val : val B51 twoP = 2 * fp := by decide
def subL (xs ys : List Int) : List Int := mixE (fun i => twoP.getD i 0 + xs.getD i 0 - ys.getD i 0) twoP 5
theorem twoP_get (i : Nat) (h : i < 5) : 4503599627370458 ≤ twoP.getD i 0 ∧ twoP.getD i 0 ≤ 4503599627370494 := by
  have : i = 0 ∨ i = 1 ∨ i = 2 ∨ i = 3 ∨ i = 4 := by omega
  rcases this with rfl | rfl | rfl | rfl | rfl <;> decide
theorem subL_ok {xs ys : List Int} (hx : EOk xs) (hy : EOk ys) : U62 (subL xs ys) ∧ EOk (carryE (subL xs ys)) ∧ ev (carryE (subL xs ys)) = (ev xs - ev ys) % fp := by
  have hb : ∀ i, 0 ≤ (subL xs ys).getD i 0 ∧ (subL xs ys).getD i 0 < 6755399441056000 := fun i => by
    by_cases h : i < 5
    · unfold subL; rw [mixE_get _ _ _ _ h, if_pos h]
      have a0 := hx.2.1 i; have b0 := hy.2.1 i; have t := twoP_get i h
      rcases Nat.eq_zero_or_pos i with rfl | hi
      · have := hx.2.2.2; have := hy.2.2.2; omega
      · have := hx.2.2.1 i hi; have := hy.2.2.1 i hi; omega
    · rw [getD_past (by unfold subL; rw [mixE_len]; omega)]; omega
  have hc := gcy_le (C := 3) hb (by decide) (by decide) 5
  refine ⟨fun i => by have := hb i; omega, carryE_ok hc.1 (by omega), ?_⟩
  rw [ev_carryE (subL xs ys) (mixE_len _ _ _)]
  unfold ev subL
  have e0 := twoP_val
  rw [val_eq_range B51 twoP 5 rfl] at e0
  rw [val5, val_sub5 B51 (fun i => twoP.getD i 0 + xs.getD i 0) (fun i => ys.getD i 0) 5]
  have := val_lin B51 (fun i => twoP.getD i 0) (fun i => xs.getD i 0) 5 1
  rw [show (fun i => twoP.getD i 0 + xs.getD i 0) = fun i => twoP.getD i 0 + 1 * xs.getD i 0 from by funext i; omega, this, e0, ← val_eq_range B51 xs 5 hx.1, ← val_eq_range B51 ys 5 hy.1, ← Int.sub_emod]
  rw [show 2 * fp + 1 * val B51 xs - val B51 ys = (val B51 xs - val B51 ys) + fp * 2 by omega, Int.add_mul_emod_self_left]

set_option maxHeartbeats 1000000 in
theorem plus_any (g1 o1 g2 o2 : Nat) (xs ys : List Int) (w : World) (h1 : EAt w g1 o1 xs) (h2 : EAt w g2 o2 ys) :
    Calls Try.prog 109 #[.pointer (some ⟨g1, o1, none⟩), .pointer (some ⟨g2, o2, none⟩)] w (EP w ((ev xs + ev ys) % fp)) := by
  obtain ⟨q1, q2, q3⟩ := addL_ok h1.2.1 h2.2.1
  have HQ : Hid (U62 (addL xs ys) ∧ EOk (carryE (addL xs ys)) ∧ ev (carryE (addL xs ys)) = (ev xs + ev ys) % fp) := ⟨q1, q2, q3⟩
  have HS : Hid (PlS w (mixE (fun i => xs.getD i 0 + ys.getD i 0) [0, 0, 0, 0, 0] 0) ((w.alloc (.cells #[.int .u64 0, .int .u64 0, .int .u64 0, .int .u64 0, .int .u64 0] 82)).alloc (.cells #[.int .u64 0, .int .u64 0, .int .u64 0, .int .u64 0, .int .u64 0] 82))) := by
    rw [mixE_zero _ _ rfl]
    exact ⟨heap_alloc2_old _ _ _, heap_alloc2_new _ _ _, ((Below.refl _ _).alloc (Nat.le_refl _) _).alloc (by simp) _⟩
  have H1 : Hid (EAt w g1 o1 xs) := h1
  have H2 : Hid (EAt w g2 o2 ys) := h2
  clear q1 q2 q3 h1 h2
  go_enter Try.func109, Try.ntmps109
  go_wp2
  go_loopw [7] (fun i wr => ∃ k : Nat, k ≤ 5 ∧ i = .int .i64 k ∧ PlS w (mixE (fun i => xs.getD i 0 + ys.getD i 0) [0, 0, 0, 0, 0] k) wr) (fun i _ => 5 - (intOf i).toNat)
  case atStart => exact ⟨0, by decide, rfl, HS.out⟩
  case round =>
    clear HS
    obtain ⟨k, hk, rfl, hst⟩ := hrel
    by_cases hlt : k < 5
    · have hlt' : (k : Int) < 5 := by omega
      have c1 := (H1.out.below hst.below).2.2 k hlt
      have c2 := (H2.out.below hst.below).2.2 k hlt
      have a0 := H1.out.2.1.2.1 k
      have b0 := H2.out.2.1.2.1 k
      have ab : xs.getD k 0 < 2251799813685504 := by
        rcases Nat.eq_zero_or_pos k with rfl | hi
        · exact H1.out.2.1.2.2.2
        · have := H1.out.2.1.2.2.1 k hi; omega
      have bb : ys.getD k 0 < 2251799813685504 := by
        rcases Nat.eq_zero_or_pos k with rfl | hi
        · exact H2.out.2.1.2.2.2
        · have := H2.out.2.1.2.2.1 k hi; omega
      have c3 := hst.row.cell k (by rw [mixE_len]; exact hlt)
      have f3 := hst.row.frozen k
      have s1 := hst.set k (xs.getD k 0 + ys.getD k 0)
      rw [mixE_step (fun i => xs.getD i 0 + ys.getD i 0) _ k hlt] at s1
      have HS1 : Hid (PlS w (mixE (fun i => xs.getD i 0 + ys.getD i 0) [0, 0, 0, 0, 0] (k + 1)) ((wr.setCell ⟨w.heap.size + 1, k, none⟩ (.int .u64 (xs.getD k 0 + ys.getD k 0))).drew)) := s1
      clear s1 hst
      generalize (mixE (fun i => xs.getD i 0 + ys.getD i 0) [0, 0, 0, 0, 0] k).getD k 0 = z at *
      generalize xs.getD k 0 = x at *
      generalize ys.getD k 0 = y at *
      go_wp2
      go_region
      clear c1 c2 c3 f3
      generalize (wr.setCell ⟨w.heap.size + 1, k, none⟩ (.int .u64 (x + y))).drew = w1 at *
      go_wp2
      go_roundw
      case rel => exact ⟨k + 1, by omega, by go_num, HS1.out⟩
      case measure => simp [intOf]; omega
    · obtain rfl : k = 5 := by omega
      go_wp2_with fail
      refine (carryE_any _ (addL xs ys) _ (mixE_len _ _ _) hst.row HQ.out.1).mono ?_
      rintro e w1 ⟨rfl, hs⟩
      have s1 := hst.carry hs
      have hl := HQ.out.2.1.1
      have HSZ : Hid ((Try.prog.info? 82).map (·.size) = some (((carryE (addL xs ys)).map (Value.int .u64)).toArray).size) := sizeEl hl
      have HZ4 : Hid (([0, 0, 0, 0, 0].map (Value.int .u64)).toArray.size = (((carryE (addL xs ys)).map (Value.int .u64)).toArray).size) := by show _ = _; simp [hl]
      have HRS : Hid (RowW w1 w.heap.size 82 [0, 0, 0, 0, 0]) := s1.res
      have HRO : Hid (RowW w1 (w.heap.size + 1) 82 (carryE (addL xs ys))) := s1.row
      have HBE : Hid (Below w.heap.size w w1) := s1.below
      clear s1 hs hst hl
      generalize carryE (addL xs ys) = es at *
      go_wp2_with (first
        | (refine wpList_load_row rfl 82 (.tmp 5) rfl (w.heap.size + 1) rfl 82 _ (0, 0) _ HRO.out Try.underlying82 rfl HSZ.out ?_)
        | (refine wpList_store_row rfl 82 (.tmp 4) (.tmp 25) rfl w.heap.size ((es.map (Value.int .u64)).toArray) rfl rfl 82 _ HRS.out HSZ.out HZ4.out (all_oneCell_toArray (ints_oneCell _ _)) ?_))
      refine bodyPost_ret (v := .agg (es.map (Value.int .u64)).toArray) (results_cell_row rfl _ _ w.heap.size 82 _ (0, 0) _ rfl (setRow_heap _ _ _ _ _ _ HRS.out) Try.underlying82 rfl HSZ.out) rfl ⟨es, HQ.out.2.1, HQ.out.2.2, rfl, ?_⟩
      exact HBE.out.trans ((Wr.setRow _ _ _).below (Nat.le_refl _))

set_option maxHeartbeats 1000000 in
theorem minus_any (g1 o1 g2 o2 : Nat) (xs ys : List Int) (w : World) (h1 : EAt w g1 o1 xs) (h2 : EAt w g2 o2 ys) :
    Calls Try.prog 108 #[.pointer (some ⟨g1, o1, none⟩), .pointer (some ⟨g2, o2, none⟩)] w (EP w ((ev xs - ev ys) % fp)) := by
  obtain ⟨q1, q2, q3⟩ := subL_ok h1.2.1 h2.2.1
  have HQ : Hid (U62 (subL xs ys) ∧ EOk (carryE (subL xs ys)) ∧ ev (carryE (subL xs ys)) = (ev xs - ev ys) % fp) := ⟨q1, q2, q3⟩
  have H1 : Hid (EAt w g1 o1 xs) := h1
  have H2 : Hid (EAt w g2 o2 ys) := h2
  clear q1 q2 q3 h1 h2
  go_enter Try.func108, Try.ntmps108
  have HR0 : Hid (RowW ((w.alloc (.cells #[.int .u64 0, .int .u64 0, .int .u64 0, .int .u64 0, .int .u64 0] 82)).alloc (.cells #[.int .u64 0, .int .u64 0, .int .u64 0, .int .u64 0, .int .u64 0] 82)) w.heap.size 82 [0, 0, 0, 0, 0]) := heap_alloc2_old _ _ _
  have HBB : Hid (Below w.heap.size w ((w.alloc (.cells #[.int .u64 0, .int .u64 0, .int .u64 0, .int .u64 0, .int .u64 0] 82)).alloc (.cells #[.int .u64 0, .int .u64 0, .int .u64 0, .int .u64 0, .int .u64 0] 82))) := ((Below.refl _ _).alloc (Nat.le_refl _) _).alloc (by simp) _
  have HR1 : Hid (RowW ((w.alloc (.cells #[.int .u64 0, .int .u64 0, .int .u64 0, .int .u64 0, .int .u64 0] 82)).alloc (.cells #[.int .u64 0, .int .u64 0, .int .u64 0, .int .u64 0, .int .u64 0] 82)) (w.heap.size + 1) 82 [0, 0, 0, 0, 0]) := heap_alloc2_new _ _ _
  have HSZ : Hid ((Try.prog.info? 82).map (·.size) = some ((twoP.map (Value.int .u64)).toArray).size) := sizeEl rfl
  go_wp2_with (first
    | (refine wpList_store_row rfl 82 (.tmp 5) (.tmp 7) rfl (w.heap.size + 1) ((twoP.map (Value.int .u64)).toArray) rfl rfl 82 _ HR1.out HSZ.out rfl (all_oneCell_toArray (ints_oneCell _ _)) ?_)
    | fail)
  have HS : Hid (PlS w (mixE (fun i => twoP.getD i 0 + xs.getD i 0 - ys.getD i 0) twoP 0) (((w.alloc (.cells #[.int .u64 0, .int .u64 0, .int .u64 0, .int .u64 0, .int .u64 0] 82)).alloc (.cells #[.int .u64 0, .int .u64 0, .int .u64 0, .int .u64 0, .int .u64 0] 82)).setRow (w.heap.size + 1) (twoP.map (Value.int .u64)).toArray)) := by
    rw [mixE_zero _ _ rfl]
    have r0 := HR0.out
    have r1 := HR1.out
    have bb := HBB.out
    generalize (w.alloc (.cells #[.int .u64 0, .int .u64 0, .int .u64 0, .int .u64 0, .int .u64 0] 82)).alloc (.cells #[.int .u64 0, .int .u64 0, .int .u64 0, .int .u64 0, .int .u64 0] 82) = wz at *
    exact ⟨r0.setRow_other _ (by omega), r1.setRow twoP, bb.trans ((Wr.setRow _ _ _).below (by omega))⟩
  clear HR0 HR1 HSZ HBB
  generalize ((w.alloc (.cells #[.int .u64 0, .int .u64 0, .int .u64 0, .int .u64 0, .int .u64 0] 82)).alloc (.cells #[.int .u64 0, .int .u64 0, .int .u64 0, .int .u64 0, .int .u64 0] 82)).setRow (w.heap.size + 1) (twoP.map (Value.int .u64)).toArray = w0 at *
  go_loopw [8] (fun i wr => ∃ k : Nat, k ≤ 5 ∧ i = .int .i64 k ∧ PlS w (mixE (fun i => twoP.getD i 0 + xs.getD i 0 - ys.getD i 0) twoP k) wr) (fun i _ => 5 - (intOf i).toNat)
  case atStart => exact ⟨0, by decide, rfl, HS.out⟩
  case round =>
    clear HS
    obtain ⟨k, hk, rfl, hst⟩ := hrel
    by_cases hlt : k < 5
    · have hlt' : (k : Int) < 5 := by omega
      have c1 := (H1.out.below hst.below).2.2 k hlt
      have c2 := (H2.out.below hst.below).2.2 k hlt
      have a0 := H1.out.2.1.2.1 k
      have b0 := H2.out.2.1.2.1 k
      have ab : xs.getD k 0 < 2251799813685504 := by
        rcases Nat.eq_zero_or_pos k with rfl | hi
        · exact H1.out.2.1.2.2.2
        · have := H1.out.2.1.2.2.1 k hi; omega
      have bb : ys.getD k 0 < 2251799813685504 := by
        rcases Nat.eq_zero_or_pos k with rfl | hi
        · exact H2.out.2.1.2.2.2
        · have := H2.out.2.1.2.2.1 k hi; omega
      have c3 := hst.row.cell k (by rw [mixE_len]; exact hlt)
      have f3 := hst.row.frozen k
      have ht := twoP_get k hlt
      have hz : (mixE (fun i => twoP.getD i 0 + xs.getD i 0 - ys.getD i 0) twoP k).getD k 0 = twoP.getD k 0 := by rw [mixE_get _ _ _ _ hlt]; simp
      rw [hz] at c3
      have s1 := hst.set k (twoP.getD k 0 + xs.getD k 0 - ys.getD k 0)
      rw [mixE_step (fun i => twoP.getD i 0 + xs.getD i 0 - ys.getD i 0) _ k hlt] at s1
      have HS1 : Hid (PlS w (mixE (fun i => twoP.getD i 0 + xs.getD i 0 - ys.getD i 0) twoP (k + 1)) ((wr.setCell ⟨w.heap.size + 1, k, none⟩ (.int .u64 (twoP.getD k 0 + xs.getD k 0 - ys.getD k 0))).drew)) := s1
      have HW : Hid (IntKind.u64.wrap (twoP.getD k 0 + IntKind.u64.wrap (xs.getD k 0 - ys.getD k 0)) = twoP.getD k 0 + xs.getD k 0 - ys.getD k 0) := by
        show _ = _
        rw [IntKind.wrap_u64, IntKind.wrap_u64]; omega
      clear s1 hst hz
      obtain ⟨ht0, ht1⟩ := ht
      generalize twoP.getD k 0 = z at *
      generalize xs.getD k 0 = x at *
      generalize ys.getD k 0 = y at *
      go_wp2
      go_region
      rw [HW.out]
      clear c1 c2 c3 f3
      generalize (wr.setCell ⟨w.heap.size + 1, k, none⟩ (.int .u64 (z + x - y))).drew = w1 at *
      go_wp2
      go_roundw
      case rel => exact ⟨k + 1, by omega, by go_num, HS1.out⟩
      case measure => simp [intOf]; omega
    · obtain rfl : k = 5 := by omega
      go_wp2_with fail
      refine (carryE_any _ (subL xs ys) _ (mixE_len _ _ _) hst.row HQ.out.1).mono ?_
      rintro e w1 ⟨rfl, hs⟩
      have s1 := hst.carry hs
      have hl := HQ.out.2.1.1
      have HSZ : Hid ((Try.prog.info? 82).map (·.size) = some (((carryE (subL xs ys)).map (Value.int .u64)).toArray).size) := sizeEl hl
      have HZ4 : Hid (([0, 0, 0, 0, 0].map (Value.int .u64)).toArray.size = (((carryE (subL xs ys)).map (Value.int .u64)).toArray).size) := by show _ = _; simp [hl]
      have HRS : Hid (RowW w1 w.heap.size 82 [0, 0, 0, 0, 0]) := s1.res
      have HRO : Hid (RowW w1 (w.heap.size + 1) 82 (carryE (subL xs ys))) := s1.row
      have HBE : Hid (Below w.heap.size w w1) := s1.below
      clear s1 hs hst hl
      generalize carryE (subL xs ys) = es at *
      go_wp2_with (first
        | (refine wpList_load_row rfl 82 (.tmp 5) rfl (w.heap.size + 1) rfl 82 _ (0, 0) _ HRO.out Try.underlying82 rfl HSZ.out ?_)
        | (refine wpList_store_row rfl 82 (.tmp 4) (.tmp 29) rfl w.heap.size ((es.map (Value.int .u64)).toArray) rfl rfl 82 _ HRS.out HSZ.out HZ4.out (all_oneCell_toArray (ints_oneCell _ _)) ?_))
      refine bodyPost_ret (v := .agg (es.map (Value.int .u64)).toArray) (results_cell_row rfl _ _ w.heap.size 82 _ (0, 0) _ rfl (setRow_heap _ _ _ _ _ _ HRS.out) Try.underlying82 rfl HSZ.out) rfl ⟨es, HQ.out.2.1, HQ.out.2.2, rfl, ?_⟩
      exact HBE.out.trans ((Wr.setRow _ _ _).below (Nat.le_refl _))
end Go.Proofs.Ythghkfncpdnpoac
