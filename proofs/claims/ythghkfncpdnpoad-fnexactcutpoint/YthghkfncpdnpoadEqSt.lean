/-
  Own work: states compared (written by wip/mkeq.py).
-/
import Derived.Test.YthghkfncpdnpoadEqB
import Derived.Deep.Cut
namespace Go.Proofs.Ythghkfncpdnpoad
open Go.ChangeShapes Go.WideShapes Go.ChangeAt Go.RowKit
set_option linter.unusedVariables false

set_option maxRecDepth 100000 in
set_option maxHeartbeats 4000000 in
theorem eqSt_any (aD bD aU bU aT bT : Option Addr) (nD cD dD nU cU dU nT cT dT : Nat) (D U T : List Int) (k : Int) (w : World) (hD : D.length = nD) (hU : U.length = nU) (hT : T.length = nT * 2) (mD : nD ≤ 1048576) (mU : nU ≤ 1048576) (mT : nT ≤ 1048576) (AD : At .i64 w aD D) (BD : At .i64 w bD D) (AU : At .i64 w aU U) (BU : At .i64 w bU U) (AT : At .i64 w aT T) (BT : At .i64 w bT T) :
    Calls Try.prog 17 #[.agg #[.slice aD nD cD, .slice aU nU cU, .int .i64 k, .slice aT nT cT], .agg #[.slice bD nD dD, .slice bU nU dU, .int .i64 k, .slice bT nT dT]] w fun e w' => e = .returned (.bool true) ∧ Below w.heap.size w w' := by
  have HE0 : Hid (BE w 38 #[.slice aD nD cD, .slice aU nU cU, .int .i64 k, .slice aT nT cT] #[.slice bD nD dD, .slice bU nU dU, .int .i64 k, .slice bT nT dT] ((w.alloc (.cells #[.slice aD nD cD, .slice aU nU cU, .int .i64 k, .slice aT nT cT] 38)).alloc (.cells #[.slice bD nD dD, .slice bU nU dU, .int .i64 k, .slice bT nT dT] 38))) := BE.start _ _ _ _
  have HAD : Hid (At .i64 w aD D ∧ At .i64 w bD D) := ⟨AD, BD⟩
  have HLD : Hid (D.length = nD) := hD
  have HAU : Hid (At .i64 w aU U ∧ At .i64 w bU U) := ⟨AU, BU⟩
  have HLU : Hid (U.length = nU) := hU
  have HAT : Hid (At .i64 w aT T ∧ At .i64 w bT T) := ⟨AT, BT⟩
  have HLT : Hid (T.length = nT * 2) := hT
  clear AD BD hD AU BU hU AT BT hT
  have nek : (k != k) = false := by simp
  go_enter Try.func17, Try.ntmps17
  go_wp2_with fail
  generalize ((w.alloc (.cells #[.slice aD nD cD, .slice aU nU cU, .int .i64 k, .slice aT nT cT] 38)).alloc (.cells #[.slice bD nD dD, .slice bU nU dU, .int .i64 k, .slice bT nT dT] 38)) = w0 at *
  refine (eqI_any _ _ nD _ _ D _ HLD.out mD (HAD.out.1.below HE0.out.below) (HAD.out.2.below HE0.out.below)).mono ?_
  rintro e w1 ⟨rfl, q0, hq⟩
  have hb : Below w0.heap.size w0 w1 := by rw [hq]; exact below_dq (Below.refl _ _) _
  clear hq
  have HE1 : Hid (BE w 38 #[.slice aD nD cD, .slice aU nU cU, .int .i64 k, .slice aT nT cT] #[.slice bD nD dD, .slice bU nU dU, .int .i64 k, .slice bT nT dT] w1) := HE0.out.call hb
  clear hb HE0
  have x1 : w1.cell? ⟨w.heap.size, 1, none⟩ = some (.slice aU nU cU) := by rw [cell_of_row w1 w.heap.size 1 _ _ _ HE1.out.b0]; rfl
  have y1 : w1.cell? ⟨w.heap.size + 1, 1, none⟩ = some (.slice bU nU dU) := by rw [cell_of_row w1 (w.heap.size + 1) 1 _ _ _ HE1.out.b1]; rfl
  go_wp2_with fail
  clear x1 y1
  refine (eqI_any _ _ nU _ _ U _ HLU.out mU (HAU.out.1.below HE1.out.below) (HAU.out.2.below HE1.out.below)).mono ?_
  rintro e w2 ⟨rfl, q1, hq⟩
  have hb : Below w1.heap.size w1 w2 := by rw [hq]; exact below_dq (Below.refl _ _) _
  clear hq
  have HE2 : Hid (BE w 38 #[.slice aD nD cD, .slice aU nU cU, .int .i64 k, .slice aT nT cT] #[.slice bD nD dD, .slice bU nU dU, .int .i64 k, .slice bT nT dT] w2) := HE1.out.call hb
  clear hb HE1
  have x2 : w2.cell? ⟨w.heap.size, 2, none⟩ = some (.int .i64 k) := by rw [cell_of_row w2 w.heap.size 2 _ _ _ HE2.out.b0]; rfl
  have y2 : w2.cell? ⟨w.heap.size + 1, 2, none⟩ = some (.int .i64 k) := by rw [cell_of_row w2 (w.heap.size + 1) 2 _ _ _ HE2.out.b1]; rfl
  have x3 : w2.cell? ⟨w.heap.size, 3, none⟩ = some (.slice aT nT cT) := by rw [cell_of_row w2 w.heap.size 3 _ _ _ HE2.out.b0]; rfl
  have y3 : w2.cell? ⟨w.heap.size + 1, 3, none⟩ = some (.slice bT nT dT) := by rw [cell_of_row w2 (w.heap.size + 1) 3 _ _ _ HE2.out.b1]; rfl
  go_wp2_with fail
  clear x2 y2 x3 y3
  refine (eqTS_any _ _ nT _ _ T _ HLT.out mT (HAT.out.1.below HE2.out.below) (HAT.out.2.below HE2.out.below)).mono ?_
  rintro e w3 ⟨rfl, hb⟩
  have HE3 : Hid (BE w 38 #[.slice aD nD cD, .slice aU nU cU, .int .i64 k, .slice aT nT cT] #[.slice bD nD dD, .slice bU nU dU, .int .i64 k, .slice bT nT dT] w3) := HE2.out.call hb
  clear hb HE2
  have HF : Hid (Below w.heap.size w w3) := HE3.out.below
  clear HE3
  go_wp2
  go_ret
  exact ⟨rfl, HF.out⟩
end Go.Proofs.Ythghkfncpdnpoad
