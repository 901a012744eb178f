/-
  Own work: snaps compared (written by wip/mkeq.py).
-/
import Derived.Test.YthghkfncpdnpoadEqB
import Derived.Deep.Cut
namespace Go.Proofs.Ythghkfncpdnpoad
open Go.ChangeShapes Go.WideShapes Go.ChangeAt Go.RowKit
set_option linter.unusedVariables false

set_option maxRecDepth 100000 in
set_option maxHeartbeats 4000000 in
theorem eqSn_any (aD bD aU bU : Option Addr) (nD cD dD nU cU dU : Nat) (D U : List Int) (gn tl : Int) (w : World) (hD : D.length = nD) (hU : U.length = nU) (mD : nD ≤ 1048576) (mU : nU ≤ 1048576) (AD : At .i64 w aD D) (BD : At .i64 w bD D) (AU : At .i64 w aU U) (BU : At .i64 w bU U) :
    Calls Try.prog 36 #[.agg #[.int .u32 gn, .int .u32 tl, .slice aD nD cD, .slice aU nU cU], .agg #[.int .u32 gn, .int .u32 tl, .slice bD nD dD, .slice bU nU dU]] w fun e w' => e = .returned (.bool true) ∧ Below w.heap.size w w' := by
  have HE0 : Hid (BE w 34 #[.int .u32 gn, .int .u32 tl, .slice aD nD cD, .slice aU nU cU] #[.int .u32 gn, .int .u32 tl, .slice bD nD dD, .slice bU nU dU] ((w.alloc (.cells #[.int .u32 gn, .int .u32 tl, .slice aD nD cD, .slice aU nU cU] 34)).alloc (.cells #[.int .u32 gn, .int .u32 tl, .slice bD nD dD, .slice bU nU dU] 34))) := BE.start _ _ _ _
  have HAD : Hid (At .i64 w aD D ∧ At .i64 w bD D) := ⟨AD, BD⟩
  have HLD : Hid (D.length = nD) := hD
  have HAU : Hid (At .i64 w aU U ∧ At .i64 w bU U) := ⟨AU, BU⟩
  have HLU : Hid (U.length = nU) := hU
  clear AD BD hD AU BU hU
  have negn : (gn != gn) = false := by simp
  have netl : (tl != tl) = false := by simp
  go_enter Try.func36, Try.ntmps36
  go_wp2_with fail
  generalize ((w.alloc (.cells #[.int .u32 gn, .int .u32 tl, .slice aD nD cD, .slice aU nU cU] 34)).alloc (.cells #[.int .u32 gn, .int .u32 tl, .slice bD nD dD, .slice bU nU dU] 34)) = w0 at *
  refine (eqI_any _ _ nD _ _ D _ HLD.out mD (HAD.out.1.below HE0.out.below) (HAD.out.2.below HE0.out.below)).mono ?_
  rintro e w1 ⟨rfl, q0, hq⟩
  have hb : Below w0.heap.size w0 w1 := by rw [hq]; exact below_dq (Below.refl _ _) _
  clear hq
  have HE1 : Hid (BE w 34 #[.int .u32 gn, .int .u32 tl, .slice aD nD cD, .slice aU nU cU] #[.int .u32 gn, .int .u32 tl, .slice bD nD dD, .slice bU nU dU] w1) := HE0.out.call hb
  clear hb HE0
  have x3 : w1.cell? ⟨w.heap.size, 3, none⟩ = some (.slice aU nU cU) := by rw [cell_of_row w1 w.heap.size 3 _ _ _ HE1.out.b0]; rfl
  have y3 : w1.cell? ⟨w.heap.size + 1, 3, none⟩ = some (.slice bU nU dU) := by rw [cell_of_row w1 (w.heap.size + 1) 3 _ _ _ HE1.out.b1]; rfl
  go_wp2_with fail
  clear x3 y3
  refine (eqI_any _ _ nU _ _ U _ HLU.out mU (HAU.out.1.below HE1.out.below) (HAU.out.2.below HE1.out.below)).mono ?_
  rintro e w2 ⟨rfl, q1, hq⟩
  have hb : Below w1.heap.size w1 w2 := by rw [hq]; exact below_dq (Below.refl _ _) _
  clear hq
  have HE2 : Hid (BE w 34 #[.int .u32 gn, .int .u32 tl, .slice aD nD cD, .slice aU nU cU] #[.int .u32 gn, .int .u32 tl, .slice bD nD dD, .slice bU nU dU] w2) := HE1.out.call hb
  clear hb HE1
  have HF : Hid (Below w.heap.size w w2) := HE2.out.below
  clear HE2
  go_wp2
  go_ret
  exact ⟨rfl, HF.out⟩
end Go.Proofs.Ythghkfncpdnpoad
