/-
  Own work: images compared (written by wip/mkeq.py).
-/
import Derived.Test.YthghkfncpdnpoadEqSn
import Derived.Test.YthghkfncpdnpoadEqSt
import Derived.Test.YthghkfncpdnpoadFrS
import Derived.Deep.Cut
namespace Go.Proofs.Ythghkfncpdnpoad
open Go.ChangeShapes Go.WideShapes Go.ChangeAt Go.RowKit
set_option linter.unusedVariables false

set_option maxRecDepth 100000 in
set_option maxHeartbeats 4000000 in
theorem eqIm_any (asD bsD asU bsU aF bF azD bzD azU bzU azT bzT : Option Addr) (nsD csD dsD nsU csU dsU nF cF dF nzD czD dzD nzU czU dzU nzT czT dzT : Nat) (sD sU F zD zU zT : List Int) (sgn stl zk nx : Int) (ok : Bool) (w : World) (hsD : sD.length = nsD) (hsU : sU.length = nsU) (hF : F.length = nF * 4) (hzD : zD.length = nzD) (hzU : zU.length = nzU) (hzT : zT.length = nzT * 2) (msD : nsD ≤ 1048576) (msU : nsU ≤ 1048576) (mF : nF ≤ 1048576) (mzD : nzD ≤ 1048576) (mzU : nzU ≤ 1048576) (mzT : nzT ≤ 1048576) (AsD : At .i64 w asD sD) (BsD : At .i64 w bsD sD) (AsU : At .i64 w asU sU) (BsU : At .i64 w bsU sU) (AF : FAt w aF F) (BF : FAt w bF F) (AzD : At .i64 w azD zD) (BzD : At .i64 w bzD zD) (AzU : At .i64 w azU zU) (BzU : At .i64 w bzU zU) (AzT : At .i64 w azT zT) (BzT : At .i64 w bzT zT) :
    Calls Try.prog 10 #[.agg #[.bool ok, .int .u32 sgn, .int .u32 stl, .slice asD nsD csD, .slice asU nsU csU, .slice aF nF cF, .slice azD nzD czD, .slice azU nzU czU, .int .i64 zk, .slice azT nzT czT, .int .u32 nx], .agg #[.bool ok, .int .u32 sgn, .int .u32 stl, .slice bsD nsD dsD, .slice bsU nsU dsU, .slice bF nF dF, .slice bzD nzD dzD, .slice bzU nzU dzU, .int .i64 zk, .slice bzT nzT dzT, .int .u32 nx]] w fun e w' => e = .returned (.bool true) ∧ Below w.heap.size w w' := by
  have HE0 : Hid (BE w 40 #[.bool ok, .int .u32 sgn, .int .u32 stl, .slice asD nsD csD, .slice asU nsU csU, .slice aF nF cF, .slice azD nzD czD, .slice azU nzU czU, .int .i64 zk, .slice azT nzT czT, .int .u32 nx] #[.bool ok, .int .u32 sgn, .int .u32 stl, .slice bsD nsD dsD, .slice bsU nsU dsU, .slice bF nF dF, .slice bzD nzD dzD, .slice bzU nzU dzU, .int .i64 zk, .slice bzT nzT dzT, .int .u32 nx] ((w.alloc (.cells #[.bool ok, .int .u32 sgn, .int .u32 stl, .slice asD nsD csD, .slice asU nsU csU, .slice aF nF cF, .slice azD nzD czD, .slice azU nzU czU, .int .i64 zk, .slice azT nzT czT, .int .u32 nx] 40)).alloc (.cells #[.bool ok, .int .u32 sgn, .int .u32 stl, .slice bsD nsD dsD, .slice bsU nsU dsU, .slice bF nF dF, .slice bzD nzD dzD, .slice bzU nzU dzU, .int .i64 zk, .slice bzT nzT dzT, .int .u32 nx] 40))) := BE.start _ _ _ _
  have HAsD : Hid (At .i64 w asD sD ∧ At .i64 w bsD sD) := ⟨AsD, BsD⟩
  have HLsD : Hid (sD.length = nsD) := hsD
  have HAsU : Hid (At .i64 w asU sU ∧ At .i64 w bsU sU) := ⟨AsU, BsU⟩
  have HLsU : Hid (sU.length = nsU) := hsU
  have HAF : Hid (FAt w aF F ∧ FAt w bF F) := ⟨AF, BF⟩
  have HLF : Hid (F.length = nF * 4) := hF
  have HAzD : Hid (At .i64 w azD zD ∧ At .i64 w bzD zD) := ⟨AzD, BzD⟩
  have HLzD : Hid (zD.length = nzD) := hzD
  have HAzU : Hid (At .i64 w azU zU ∧ At .i64 w bzU zU) := ⟨AzU, BzU⟩
  have HLzU : Hid (zU.length = nzU) := hzU
  have HAzT : Hid (At .i64 w azT zT ∧ At .i64 w bzT zT) := ⟨AzT, BzT⟩
  have HLzT : Hid (zT.length = nzT * 2) := hzT
  clear AsD BsD hsD AsU BsU hsU AF BF hF AzD BzD hzD AzU BzU hzU AzT BzT hzT
  have neok : (ok != ok) = false := by simp
  have nesgn : (sgn != sgn) = false := by simp
  have nestl : (stl != stl) = false := by simp
  have nezk : (zk != zk) = false := by simp
  have nenx : (nx != nx) = false := by simp
  go_enter Try.func10, Try.ntmps10
  go_wp2_with fail
  generalize ((w.alloc (.cells #[.bool ok, .int .u32 sgn, .int .u32 stl, .slice asD nsD csD, .slice asU nsU csU, .slice aF nF cF, .slice azD nzD czD, .slice azU nzU czU, .int .i64 zk, .slice azT nzT czT, .int .u32 nx] 40)).alloc (.cells #[.bool ok, .int .u32 sgn, .int .u32 stl, .slice bsD nsD dsD, .slice bsU nsU dsU, .slice bF nF dF, .slice bzD nzD dzD, .slice bzU nzU dzU, .int .i64 zk, .slice bzT nzT dzT, .int .u32 nx] 40)) = w0 at *
  refine (eqSn_any asD bsD asU bsU nsD csD dsD nsU csU dsU sD sU sgn stl _ HLsD.out HLsU.out msD msU (HAsD.out.1.below HE0.out.below) (HAsD.out.2.below HE0.out.below) (HAsU.out.1.below HE0.out.below) (HAsU.out.2.below HE0.out.below)).mono ?_
  rintro e w1 ⟨rfl, hb⟩
  have HE1 : Hid (BE w 40 #[.bool ok, .int .u32 sgn, .int .u32 stl, .slice asD nsD csD, .slice asU nsU csU, .slice aF nF cF, .slice azD nzD czD, .slice azU nzU czU, .int .i64 zk, .slice azT nzT czT, .int .u32 nx] #[.bool ok, .int .u32 sgn, .int .u32 stl, .slice bsD nsD dsD, .slice bsU nsU dsU, .slice bF nF dF, .slice bzD nzD dzD, .slice bzU nzU dzU, .int .i64 zk, .slice bzT nzT dzT, .int .u32 nx] w1) := HE0.out.call hb
  clear hb HE0
  have x5 : w1.cell? ⟨w.heap.size, 5, none⟩ = some (.slice aF nF cF) := by rw [cell_of_row w1 w.heap.size 5 _ _ _ HE1.out.b0]; rfl
  have y5 : w1.cell? ⟨w.heap.size + 1, 5, none⟩ = some (.slice bF nF dF) := by rw [cell_of_row w1 (w.heap.size + 1) 5 _ _ _ HE1.out.b1]; rfl
  go_wp2_with fail
  clear x5 y5
  refine (eqFS_any _ _ nF _ _ F _ HLF.out mF (HAF.out.1.below HE1.out.below) (HAF.out.2.below HE1.out.below)).mono ?_
  rintro e w2 ⟨rfl, hb⟩
  have HE2 : Hid (BE w 40 #[.bool ok, .int .u32 sgn, .int .u32 stl, .slice asD nsD csD, .slice asU nsU csU, .slice aF nF cF, .slice azD nzD czD, .slice azU nzU czU, .int .i64 zk, .slice azT nzT czT, .int .u32 nx] #[.bool ok, .int .u32 sgn, .int .u32 stl, .slice bsD nsD dsD, .slice bsU nsU dsU, .slice bF nF dF, .slice bzD nzD dzD, .slice bzU nzU dzU, .int .i64 zk, .slice bzT nzT dzT, .int .u32 nx] w2) := HE1.out.call hb
  clear hb HE1
  have x6 : w2.cell? ⟨w.heap.size, 6, none⟩ = some (.slice azD nzD czD) := by rw [cell_of_row w2 w.heap.size 6 _ _ _ HE2.out.b0]; rfl
  have y6 : w2.cell? ⟨w.heap.size + 1, 6, none⟩ = some (.slice bzD nzD dzD) := by rw [cell_of_row w2 (w.heap.size + 1) 6 _ _ _ HE2.out.b1]; rfl
  have x7 : w2.cell? ⟨w.heap.size, 7, none⟩ = some (.slice azU nzU czU) := by rw [cell_of_row w2 w.heap.size 7 _ _ _ HE2.out.b0]; rfl
  have y7 : w2.cell? ⟨w.heap.size + 1, 7, none⟩ = some (.slice bzU nzU dzU) := by rw [cell_of_row w2 (w.heap.size + 1) 7 _ _ _ HE2.out.b1]; rfl
  have x8 : w2.cell? ⟨w.heap.size, 8, none⟩ = some (.int .i64 zk) := by rw [cell_of_row w2 w.heap.size 8 _ _ _ HE2.out.b0]; rfl
  have y8 : w2.cell? ⟨w.heap.size + 1, 8, none⟩ = some (.int .i64 zk) := by rw [cell_of_row w2 (w.heap.size + 1) 8 _ _ _ HE2.out.b1]; rfl
  have x9 : w2.cell? ⟨w.heap.size, 9, none⟩ = some (.slice azT nzT czT) := by rw [cell_of_row w2 w.heap.size 9 _ _ _ HE2.out.b0]; rfl
  have y9 : w2.cell? ⟨w.heap.size + 1, 9, none⟩ = some (.slice bzT nzT dzT) := by rw [cell_of_row w2 (w.heap.size + 1) 9 _ _ _ HE2.out.b1]; rfl
  go_wp2_with fail
  clear x6 y6 x7 y7 x8 y8 x9 y9
  refine (eqSt_any azD bzD azU bzU azT bzT nzD czD dzD nzU czU dzU nzT czT dzT zD zU zT zk _ HLzD.out HLzU.out HLzT.out mzD mzU mzT (HAzD.out.1.below HE2.out.below) (HAzD.out.2.below HE2.out.below) (HAzU.out.1.below HE2.out.below) (HAzU.out.2.below HE2.out.below) (HAzT.out.1.below HE2.out.below) (HAzT.out.2.below HE2.out.below)).mono ?_
  rintro e w3 ⟨rfl, hb⟩
  have HE3 : Hid (BE w 40 #[.bool ok, .int .u32 sgn, .int .u32 stl, .slice asD nsD csD, .slice asU nsU csU, .slice aF nF cF, .slice azD nzD czD, .slice azU nzU czU, .int .i64 zk, .slice azT nzT czT, .int .u32 nx] #[.bool ok, .int .u32 sgn, .int .u32 stl, .slice bsD nsD dsD, .slice bsU nsU dsU, .slice bF nF dF, .slice bzD nzD dzD, .slice bzU nzU dzU, .int .i64 zk, .slice bzT nzT dzT, .int .u32 nx] w3) := HE2.out.call hb
  clear hb HE2
  have x10 : w3.cell? ⟨w.heap.size, 10, none⟩ = some (.int .u32 nx) := by rw [cell_of_row w3 w.heap.size 10 _ _ _ HE3.out.b0]; rfl
  have y10 : w3.cell? ⟨w.heap.size + 1, 10, none⟩ = some (.int .u32 nx) := by rw [cell_of_row w3 (w.heap.size + 1) 10 _ _ _ HE3.out.b1]; rfl
  have HF : Hid (Below w.heap.size w w3) := HE3.out.below
  clear HE3
  go_wp2
  go_ret
  exact ⟨rfl, HF.out⟩
end Go.Proofs.Ythghkfncpdnpoad
