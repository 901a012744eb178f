/-
  Own work: an image as the laws copy it (written by wip/mkto.py).
-/
import Derived.Test.YthghkfncpdnpoadToSn
import Derived.Test.YthghkfncpdnpoadToSt
import Derived.Test.YthghkfncpdnpoadFrS
import Derived.Deep.Cut
namespace Go.Proofs.Ythghkfncpdnpoad
open Go.ChangeShapes Go.WideShapes Go.ChangeAt Go.RowKit
set_option linter.unusedVariables false

set_option maxRecDepth 100000 in
set_option maxHeartbeats 4000000 in
theorem toIm_any (asD asU aF azD azU azT : Option Addr) (nsD csD nsU csU nF cF nzD czD nzU czU nzT czT : Nat) (sD sU F zD zU zT : List Int) (sgn stl zk nx : Int) (ok : Bool) (w : World) (hsD : sD.length = nsD) (hsU : sU.length = nsU) (hF : F.length = nF * 4) (hzD : zD.length = nzD) (hzU : zU.length = nzU) (hzT : zT.length = nzT * 2) (msD : nsD ≤ 1048576) (msU : nsU ≤ 1048576) (mF : nF ≤ 1048576) (mzD : nzD ≤ 1048576) (mzU : nzU ≤ 1048576) (mzT : nzT ≤ 1048576) (AsD : At .i64 w asD sD) (AsU : At .i64 w asU sU) (AF : FAt w aF F) (AzD : At .i64 w azD zD) (AzU : At .i64 w azU zU) (AzT : At .i64 w azT zT) :
    Calls Try.prog 8 #[.agg #[.bool ok, .int .u32 sgn, .int .u32 stl, .slice asD nsD csD, .slice asU nsU csU, .slice aF nF cF, .slice azD nzD czD, .slice azU nzU czU, .int .i64 zk, .slice azT nzT czT, .int .u32 nx]] w fun e w' => ∃ gsD gsU gF gzD gzU gzT, e = .returned (.agg #[.bool ok, .int .u32 sgn, .int .u32 stl, .slice (some ⟨gsD, 0, none⟩) nsD nsD, .slice (some ⟨gsU, 0, none⟩) nsU nsU, .slice (some ⟨gF, 0, none⟩) nF nF, .slice (some ⟨gzD, 0, none⟩) nzD nzD, .slice (some ⟨gzU, 0, none⟩) nzU nzU, .int .i64 zk, .slice (some ⟨gzT, 0, none⟩) nzT nzT, .int .u32 nx]) ∧ w.heap.size ≤ gsD ∧ gsD < gsU ∧ gsU < gF ∧ gF < gzD ∧ gzD < gzU ∧ gzU < gzT ∧ RowV w' gsD 2 (iC sD) ∧ RowV w' gsU 2 (iC sU) ∧ RowV w' gF 51 (fC F) ∧ RowV w' gzD 2 (iC zD) ∧ RowV w' gzU 2 (iC zU) ∧ RowV w' gzT 92 (iC zT) ∧ Below w.heap.size w w' := by
  have HE0 : Hid (CE w 31 40 #[.bool ok, .int .u32 sgn, .int .u32 stl, .slice asD nsD csD, .slice asU nsU csU, .slice aF nF cF, .slice azD nzD czD, .slice azU nzU czU, .int .i64 zk, .slice azT nzT czT, .int .u32 nx] #[.bool false, .int .u32 0, .int .u32 0, .slice none 0 0, .slice none 0 0, .slice none 0 0, .slice none 0 0, .slice none 0 0, .int .i64 0, .slice none 0 0, .int .u32 0] #[.bool ok, .int .u32 0, .int .u32 0, .slice none 0 0, .slice none 0 0, .slice none 0 0, .slice none 0 0, .slice none 0 0, .int .i64 0, .slice none 0 0, .int .u32 0] (((w.alloc (.cells #[.bool ok, .int .u32 sgn, .int .u32 stl, .slice asD nsD csD, .slice asU nsU csU, .slice aF nF cF, .slice azD nzD czD, .slice azU nzU czU, .int .i64 zk, .slice azT nzT czT, .int .u32 nx] 31)).alloc (.cells #[.bool false, .int .u32 0, .int .u32 0, .slice none 0 0, .slice none 0 0, .slice none 0 0, .slice none 0 0, .slice none 0 0, .int .i64 0, .slice none 0 0, .int .u32 0] 40)).alloc (.cells #[.bool ok, .int .u32 0, .int .u32 0, .slice none 0 0, .slice none 0 0, .slice none 0 0, .slice none 0 0, .slice none 0 0, .int .i64 0, .slice none 0 0, .int .u32 0] 40))) := CE.start _ _ _ _ _ _
  have HAsD : Hid (At .i64 w asD sD) := AsD
  have HLsD : Hid (sD.length = nsD) := hsD
  have HAsU : Hid (At .i64 w asU sU) := AsU
  have HLsU : Hid (sU.length = nsU) := hsU
  have HAF : Hid (FAt w aF F) := AF
  have HLF : Hid (F.length = nF * 4) := hF
  have HAzD : Hid (At .i64 w azD zD) := AzD
  have HLzD : Hid (zD.length = nzD) := hzD
  have HAzU : Hid (At .i64 w azU zU) := AzU
  have HLzU : Hid (zU.length = nzU) := hzU
  have HAzT : Hid (At .i64 w azT zT) := AzT
  have HLzT : Hid (zT.length = nzT * 2) := hzT
  clear AsD hsD AsU hsU AF hF AzD hzD AzU hzU AzT hzT
  go_enter Try.func8, Try.ntmps8
  go_wp2_with fail
  generalize (((w.alloc (.cells #[.bool ok, .int .u32 sgn, .int .u32 stl, .slice asD nsD csD, .slice asU nsU csU, .slice aF nF cF, .slice azD nzD czD, .slice azU nzU czU, .int .i64 zk, .slice azT nzT czT, .int .u32 nx] 31)).alloc (.cells #[.bool false, .int .u32 0, .int .u32 0, .slice none 0 0, .slice none 0 0, .slice none 0 0, .slice none 0 0, .slice none 0 0, .int .i64 0, .slice none 0 0, .int .u32 0] 40)).alloc (.cells #[.bool ok, .int .u32 0, .int .u32 0, .slice none 0 0, .slice none 0 0, .slice none 0 0, .slice none 0 0, .slice none 0 0, .int .i64 0, .slice none 0 0, .int .u32 0] 40)) = w0 at *
  refine (toSn_any asD asU nsD csD nsU csU sD sU sgn stl _ HLsD.out HLsU.out msD msU (HAsD.out.below HE0.out.below) (HAsU.out.below HE0.out.below)).mono ?_
  rintro e u0 ⟨gsD, gsU, rfl, osD, osU, hRsD, hRsU, hb⟩
  have HF0 : Hid (CE w 31 40 #[.bool ok, .int .u32 sgn, .int .u32 stl, .slice asD nsD csD, .slice asU nsU csU, .slice aF nF cF, .slice azD nzD czD, .slice azU nzU czU, .int .i64 zk, .slice azT nzT czT, .int .u32 nx] #[.bool false, .int .u32 0, .int .u32 0, .slice none 0 0, .slice none 0 0, .slice none 0 0, .slice none 0 0, .slice none 0 0, .int .i64 0, .slice none 0 0, .int .u32 0] #[.bool ok, .int .u32 0, .int .u32 0, .slice none 0 0, .slice none 0 0, .slice none 0 0, .slice none 0 0, .slice none 0 0, .int .i64 0, .slice none 0 0, .int .u32 0] u0) := HE0.out.call hb
  have lt0 : w.heap.size + 1 + 1 < w0.heap.size := HE0.out.lt
  clear hb 
  have VsD : w.heap.size + 1 + 1 < gsD := by omega
  have osD : w.heap.size ≤ gsD := by omega
  have VsU : w.heap.size + 1 + 1 < gsU := by omega
  clear HE0
  have hw : Wr (w.heap.size + 1 + 1) u0 ((((u0.setCell ⟨w.heap.size + 1 + 1, 1, none⟩ (.int .u32 sgn)).setCell ⟨w.heap.size + 1 + 1, 2, none⟩ (.int .u32 stl)).setCell ⟨w.heap.size + 1 + 1, 3, none⟩ (.slice (some ⟨gsD, 0, none⟩) nsD nsD)).setCell ⟨w.heap.size + 1 + 1, 4, none⟩ (.slice (some ⟨gsU, 0, none⟩) nsU nsU)) := (((((Wr.refl _ _).setCell _ _).setCell _ _).setCell _ _).setCell _ _)
  have HE1 : Hid (CE w 31 40 #[.bool ok, .int .u32 sgn, .int .u32 stl, .slice asD nsD csD, .slice asU nsU csU, .slice aF nF cF, .slice azD nzD czD, .slice azU nzU czU, .int .i64 zk, .slice azT nzT czT, .int .u32 nx] #[.bool false, .int .u32 0, .int .u32 0, .slice none 0 0, .slice none 0 0, .slice none 0 0, .slice none 0 0, .slice none 0 0, .int .i64 0, .slice none 0 0, .int .u32 0] #[.bool ok, .int .u32 sgn, .int .u32 stl, .slice (some ⟨gsD, 0, none⟩) nsD nsD, .slice (some ⟨gsU, 0, none⟩) nsU nsU, .slice none 0 0, .slice none 0 0, .slice none 0 0, .int .i64 0, .slice none 0 0, .int .u32 0] ((((u0.setCell ⟨w.heap.size + 1 + 1, 1, none⟩ (.int .u32 sgn)).setCell ⟨w.heap.size + 1 + 1, 2, none⟩ (.int .u32 stl)).setCell ⟨w.heap.size + 1 + 1, 3, none⟩ (.slice (some ⟨gsD, 0, none⟩) nsD nsD)).setCell ⟨w.heap.size + 1 + 1, 4, none⟩ (.slice (some ⟨gsU, 0, none⟩) nsU nsU))) := ((((HF0.out.put 1 _).put 2 _).put 3 _).put 4 _)
  have HRsD : Hid (RowV ((((u0.setCell ⟨w.heap.size + 1 + 1, 1, none⟩ (.int .u32 sgn)).setCell ⟨w.heap.size + 1 + 1, 2, none⟩ (.int .u32 stl)).setCell ⟨w.heap.size + 1 + 1, 3, none⟩ (.slice (some ⟨gsD, 0, none⟩) nsD nsD)).setCell ⟨w.heap.size + 1 + 1, 4, none⟩ (.slice (some ⟨gsU, 0, none⟩) nsU nsU)) gsD 2 (iC sD)) := hRsD.wr hw VsD
  have HRsU : Hid (RowV ((((u0.setCell ⟨w.heap.size + 1 + 1, 1, none⟩ (.int .u32 sgn)).setCell ⟨w.heap.size + 1 + 1, 2, none⟩ (.int .u32 stl)).setCell ⟨w.heap.size + 1 + 1, 3, none⟩ (.slice (some ⟨gsD, 0, none⟩) nsD nsD)).setCell ⟨w.heap.size + 1 + 1, 4, none⟩ (.slice (some ⟨gsU, 0, none⟩) nsU nsU)) gsU 2 (iC sU)) := hRsU.wr hw VsU
  have lgsU : gsU < ((((u0.setCell ⟨w.heap.size + 1 + 1, 1, none⟩ (.int .u32 sgn)).setCell ⟨w.heap.size + 1 + 1, 2, none⟩ (.int .u32 stl)).setCell ⟨w.heap.size + 1 + 1, 3, none⟩ (.slice (some ⟨gsD, 0, none⟩) nsD nsD)).setCell ⟨w.heap.size + 1 + 1, 4, none⟩ (.slice (some ⟨gsU, 0, none⟩) nsU nsU)).heap.size := HRsU.out.lt
  have v1 : u0.cell? ⟨w.heap.size + 1 + 1, 1, none⟩ = some (.int .u32 0) := by rw [cell_of_row u0 _ 1 _ _ _ HF0.out.var]; rfl
  have f1 := frozen_of_row u0 (w.heap.size + 1 + 1) 1 _ _ HF0.out.var
  have v2 : u0.cell? ⟨w.heap.size + 1 + 1, 2, none⟩ = some (.int .u32 0) := by rw [cell_of_row u0 _ 2 _ _ _ HF0.out.var]; rfl
  have f2 := frozen_of_row u0 (w.heap.size + 1 + 1) 2 _ _ HF0.out.var
  have v3 : u0.cell? ⟨w.heap.size + 1 + 1, 3, none⟩ = some (.slice none 0 0) := by rw [cell_of_row u0 _ 3 _ _ _ HF0.out.var]; rfl
  have f3 := frozen_of_row u0 (w.heap.size + 1 + 1) 3 _ _ HF0.out.var
  have v4 : u0.cell? ⟨w.heap.size + 1 + 1, 4, none⟩ = some (.slice none 0 0) := by rw [cell_of_row u0 _ 4 _ _ _ HF0.out.var]; rfl
  have f4 := frozen_of_row u0 (w.heap.size + 1 + 1) 4 _ _ HF0.out.var
  have x5 : u0.cell? ⟨w.heap.size, 5, none⟩ = some (.slice aF nF cF) := by rw [cell_of_row u0 w.heap.size 5 _ _ _ HF0.out.box]; rfl
  clear hw HF0 hRsD hRsU
  go_wp2_with fail
  generalize ((((u0.setCell ⟨w.heap.size + 1 + 1, 1, none⟩ (.int .u32 sgn)).setCell ⟨w.heap.size + 1 + 1, 2, none⟩ (.int .u32 stl)).setCell ⟨w.heap.size + 1 + 1, 3, none⟩ (.slice (some ⟨gsD, 0, none⟩) nsD nsD)).setCell ⟨w.heap.size + 1 + 1, 4, none⟩ (.slice (some ⟨gsU, 0, none⟩) nsU nsU)) = w1 at *
  clear v1 f1 v2 f2 v3 f3 v4 f4 x5
  refine (toFR_any aF nF cF F _ HLF.out mF (HAF.out.below HE1.out.below)).mono ?_
  rintro e u1 ⟨rfl, hRF, hb⟩
  have HF1 : Hid (CE w 31 40 #[.bool ok, .int .u32 sgn, .int .u32 stl, .slice asD nsD csD, .slice asU nsU csU, .slice aF nF cF, .slice azD nzD czD, .slice azU nzU czU, .int .i64 zk, .slice azT nzT czT, .int .u32 nx] #[.bool false, .int .u32 0, .int .u32 0, .slice none 0 0, .slice none 0 0, .slice none 0 0, .slice none 0 0, .slice none 0 0, .int .i64 0, .slice none 0 0, .int .u32 0] #[.bool ok, .int .u32 sgn, .int .u32 stl, .slice (some ⟨gsD, 0, none⟩) nsD nsD, .slice (some ⟨gsU, 0, none⟩) nsU nsU, .slice none 0 0, .slice none 0 0, .slice none 0 0, .int .i64 0, .slice none 0 0, .int .u32 0] u1) := HE1.out.call hb
  have lt1 : w.heap.size + 1 + 1 < w1.heap.size := HE1.out.lt
  have hRsD : RowV u1 gsD 2 (iC sD) := HRsD.out.below hb
  have hRsU : RowV u1 gsU 2 (iC sU) := HRsU.out.below hb
  clear hb HRsD HRsU
  have oF : gsU < w1.heap.size := lgsU
  clear lgsU
  have VF : w.heap.size + 1 + 1 < w1.heap.size := lt1
  clear HE1
  generalize w1.heap.size = gF at *
  have hw : Wr (w.heap.size + 1 + 1) u1 (u1.setCell ⟨w.heap.size + 1 + 1, 5, none⟩ (.slice (some ⟨gF, 0, none⟩) nF nF)) := ((Wr.refl _ _).setCell _ _)
  have HE2 : Hid (CE w 31 40 #[.bool ok, .int .u32 sgn, .int .u32 stl, .slice asD nsD csD, .slice asU nsU csU, .slice aF nF cF, .slice azD nzD czD, .slice azU nzU czU, .int .i64 zk, .slice azT nzT czT, .int .u32 nx] #[.bool false, .int .u32 0, .int .u32 0, .slice none 0 0, .slice none 0 0, .slice none 0 0, .slice none 0 0, .slice none 0 0, .int .i64 0, .slice none 0 0, .int .u32 0] #[.bool ok, .int .u32 sgn, .int .u32 stl, .slice (some ⟨gsD, 0, none⟩) nsD nsD, .slice (some ⟨gsU, 0, none⟩) nsU nsU, .slice (some ⟨gF, 0, none⟩) nF nF, .slice none 0 0, .slice none 0 0, .int .i64 0, .slice none 0 0, .int .u32 0] (u1.setCell ⟨w.heap.size + 1 + 1, 5, none⟩ (.slice (some ⟨gF, 0, none⟩) nF nF))) := (HF1.out.put 5 _)
  have HRsD : Hid (RowV (u1.setCell ⟨w.heap.size + 1 + 1, 5, none⟩ (.slice (some ⟨gF, 0, none⟩) nF nF)) gsD 2 (iC sD)) := hRsD.wr hw VsD
  have HRsU : Hid (RowV (u1.setCell ⟨w.heap.size + 1 + 1, 5, none⟩ (.slice (some ⟨gF, 0, none⟩) nF nF)) gsU 2 (iC sU)) := hRsU.wr hw VsU
  have HRF : Hid (RowV (u1.setCell ⟨w.heap.size + 1 + 1, 5, none⟩ (.slice (some ⟨gF, 0, none⟩) nF nF)) gF 51 (fC F)) := hRF.wr hw VF
  have lgF : gF < (u1.setCell ⟨w.heap.size + 1 + 1, 5, none⟩ (.slice (some ⟨gF, 0, none⟩) nF nF)).heap.size := HRF.out.lt
  have v5 : u1.cell? ⟨w.heap.size + 1 + 1, 5, none⟩ = some (.slice none 0 0) := by rw [cell_of_row u1 _ 5 _ _ _ HF1.out.var]; rfl
  have f5 := frozen_of_row u1 (w.heap.size + 1 + 1) 5 _ _ HF1.out.var
  have x6 : u1.cell? ⟨w.heap.size, 6, none⟩ = some (.slice azD nzD czD) := by rw [cell_of_row u1 w.heap.size 6 _ _ _ HF1.out.box]; rfl
  have x7 : u1.cell? ⟨w.heap.size, 7, none⟩ = some (.slice azU nzU czU) := by rw [cell_of_row u1 w.heap.size 7 _ _ _ HF1.out.box]; rfl
  have x8 : u1.cell? ⟨w.heap.size, 8, none⟩ = some (.int .i64 zk) := by rw [cell_of_row u1 w.heap.size 8 _ _ _ HF1.out.box]; rfl
  have x9 : u1.cell? ⟨w.heap.size, 9, none⟩ = some (.slice azT nzT czT) := by rw [cell_of_row u1 w.heap.size 9 _ _ _ HF1.out.box]; rfl
  clear hw HF1 hRsD hRsU hRF
  go_wp2_with fail
  generalize (u1.setCell ⟨w.heap.size + 1 + 1, 5, none⟩ (.slice (some ⟨gF, 0, none⟩) nF nF)) = w2 at *
  clear v5 f5 x6 x7 x8 x9
  refine (toSt_any azD azU azT nzD czD nzU czU nzT czT zD zU zT zk _ HLzD.out HLzU.out HLzT.out mzD mzU mzT (HAzD.out.below HE2.out.below) (HAzU.out.below HE2.out.below) (HAzT.out.below HE2.out.below)).mono ?_
  rintro e u2 ⟨gzD, gzU, gzT, rfl, ozD, ozU, ozT, hRzD, hRzU, hRzT, hb⟩
  have HF2 : Hid (CE w 31 40 #[.bool ok, .int .u32 sgn, .int .u32 stl, .slice asD nsD csD, .slice asU nsU csU, .slice aF nF cF, .slice azD nzD czD, .slice azU nzU czU, .int .i64 zk, .slice azT nzT czT, .int .u32 nx] #[.bool false, .int .u32 0, .int .u32 0, .slice none 0 0, .slice none 0 0, .slice none 0 0, .slice none 0 0, .slice none 0 0, .int .i64 0, .slice none 0 0, .int .u32 0] #[.bool ok, .int .u32 sgn, .int .u32 stl, .slice (some ⟨gsD, 0, none⟩) nsD nsD, .slice (some ⟨gsU, 0, none⟩) nsU nsU, .slice (some ⟨gF, 0, none⟩) nF nF, .slice none 0 0, .slice none 0 0, .int .i64 0, .slice none 0 0, .int .u32 0] u2) := HE2.out.call hb
  have lt2 : w.heap.size + 1 + 1 < w2.heap.size := HE2.out.lt
  have hRsD : RowV u2 gsD 2 (iC sD) := HRsD.out.below hb
  have hRsU : RowV u2 gsU 2 (iC sU) := HRsU.out.below hb
  have hRF : RowV u2 gF 51 (fC F) := HRF.out.below hb
  clear hb HRsD HRsU HRF
  have VzD : w.heap.size + 1 + 1 < gzD := by omega
  have ozD : gF < gzD := by have := lgF; omega
  clear lgF
  have VzU : w.heap.size + 1 + 1 < gzU := by omega
  have VzT : w.heap.size + 1 + 1 < gzT := by omega
  clear HE2
  have hw : Wr (w.heap.size + 1 + 1) u2 (((((u2.setCell ⟨w.heap.size + 1 + 1, 6, none⟩ (.slice (some ⟨gzD, 0, none⟩) nzD nzD)).setCell ⟨w.heap.size + 1 + 1, 7, none⟩ (.slice (some ⟨gzU, 0, none⟩) nzU nzU)).setCell ⟨w.heap.size + 1 + 1, 8, none⟩ (.int .i64 zk)).setCell ⟨w.heap.size + 1 + 1, 9, none⟩ (.slice (some ⟨gzT, 0, none⟩) nzT nzT)).setCell ⟨w.heap.size + 1 + 1, 10, none⟩ (.int .u32 nx)) := ((((((Wr.refl _ _).setCell _ _).setCell _ _).setCell _ _).setCell _ _).setCell _ _)
  have HE3 : Hid (CE w 31 40 #[.bool ok, .int .u32 sgn, .int .u32 stl, .slice asD nsD csD, .slice asU nsU csU, .slice aF nF cF, .slice azD nzD czD, .slice azU nzU czU, .int .i64 zk, .slice azT nzT czT, .int .u32 nx] #[.bool false, .int .u32 0, .int .u32 0, .slice none 0 0, .slice none 0 0, .slice none 0 0, .slice none 0 0, .slice none 0 0, .int .i64 0, .slice none 0 0, .int .u32 0] #[.bool ok, .int .u32 sgn, .int .u32 stl, .slice (some ⟨gsD, 0, none⟩) nsD nsD, .slice (some ⟨gsU, 0, none⟩) nsU nsU, .slice (some ⟨gF, 0, none⟩) nF nF, .slice (some ⟨gzD, 0, none⟩) nzD nzD, .slice (some ⟨gzU, 0, none⟩) nzU nzU, .int .i64 zk, .slice (some ⟨gzT, 0, none⟩) nzT nzT, .int .u32 nx] (((((u2.setCell ⟨w.heap.size + 1 + 1, 6, none⟩ (.slice (some ⟨gzD, 0, none⟩) nzD nzD)).setCell ⟨w.heap.size + 1 + 1, 7, none⟩ (.slice (some ⟨gzU, 0, none⟩) nzU nzU)).setCell ⟨w.heap.size + 1 + 1, 8, none⟩ (.int .i64 zk)).setCell ⟨w.heap.size + 1 + 1, 9, none⟩ (.slice (some ⟨gzT, 0, none⟩) nzT nzT)).setCell ⟨w.heap.size + 1 + 1, 10, none⟩ (.int .u32 nx))) := (((((HF2.out.put 6 _).put 7 _).put 8 _).put 9 _).put 10 _)
  have HRsD : Hid (RowV (((((u2.setCell ⟨w.heap.size + 1 + 1, 6, none⟩ (.slice (some ⟨gzD, 0, none⟩) nzD nzD)).setCell ⟨w.heap.size + 1 + 1, 7, none⟩ (.slice (some ⟨gzU, 0, none⟩) nzU nzU)).setCell ⟨w.heap.size + 1 + 1, 8, none⟩ (.int .i64 zk)).setCell ⟨w.heap.size + 1 + 1, 9, none⟩ (.slice (some ⟨gzT, 0, none⟩) nzT nzT)).setCell ⟨w.heap.size + 1 + 1, 10, none⟩ (.int .u32 nx)) gsD 2 (iC sD)) := hRsD.wr hw VsD
  have HRsU : Hid (RowV (((((u2.setCell ⟨w.heap.size + 1 + 1, 6, none⟩ (.slice (some ⟨gzD, 0, none⟩) nzD nzD)).setCell ⟨w.heap.size + 1 + 1, 7, none⟩ (.slice (some ⟨gzU, 0, none⟩) nzU nzU)).setCell ⟨w.heap.size + 1 + 1, 8, none⟩ (.int .i64 zk)).setCell ⟨w.heap.size + 1 + 1, 9, none⟩ (.slice (some ⟨gzT, 0, none⟩) nzT nzT)).setCell ⟨w.heap.size + 1 + 1, 10, none⟩ (.int .u32 nx)) gsU 2 (iC sU)) := hRsU.wr hw VsU
  have HRF : Hid (RowV (((((u2.setCell ⟨w.heap.size + 1 + 1, 6, none⟩ (.slice (some ⟨gzD, 0, none⟩) nzD nzD)).setCell ⟨w.heap.size + 1 + 1, 7, none⟩ (.slice (some ⟨gzU, 0, none⟩) nzU nzU)).setCell ⟨w.heap.size + 1 + 1, 8, none⟩ (.int .i64 zk)).setCell ⟨w.heap.size + 1 + 1, 9, none⟩ (.slice (some ⟨gzT, 0, none⟩) nzT nzT)).setCell ⟨w.heap.size + 1 + 1, 10, none⟩ (.int .u32 nx)) gF 51 (fC F)) := hRF.wr hw VF
  have HRzD : Hid (RowV (((((u2.setCell ⟨w.heap.size + 1 + 1, 6, none⟩ (.slice (some ⟨gzD, 0, none⟩) nzD nzD)).setCell ⟨w.heap.size + 1 + 1, 7, none⟩ (.slice (some ⟨gzU, 0, none⟩) nzU nzU)).setCell ⟨w.heap.size + 1 + 1, 8, none⟩ (.int .i64 zk)).setCell ⟨w.heap.size + 1 + 1, 9, none⟩ (.slice (some ⟨gzT, 0, none⟩) nzT nzT)).setCell ⟨w.heap.size + 1 + 1, 10, none⟩ (.int .u32 nx)) gzD 2 (iC zD)) := hRzD.wr hw VzD
  have HRzU : Hid (RowV (((((u2.setCell ⟨w.heap.size + 1 + 1, 6, none⟩ (.slice (some ⟨gzD, 0, none⟩) nzD nzD)).setCell ⟨w.heap.size + 1 + 1, 7, none⟩ (.slice (some ⟨gzU, 0, none⟩) nzU nzU)).setCell ⟨w.heap.size + 1 + 1, 8, none⟩ (.int .i64 zk)).setCell ⟨w.heap.size + 1 + 1, 9, none⟩ (.slice (some ⟨gzT, 0, none⟩) nzT nzT)).setCell ⟨w.heap.size + 1 + 1, 10, none⟩ (.int .u32 nx)) gzU 2 (iC zU)) := hRzU.wr hw VzU
  have HRzT : Hid (RowV (((((u2.setCell ⟨w.heap.size + 1 + 1, 6, none⟩ (.slice (some ⟨gzD, 0, none⟩) nzD nzD)).setCell ⟨w.heap.size + 1 + 1, 7, none⟩ (.slice (some ⟨gzU, 0, none⟩) nzU nzU)).setCell ⟨w.heap.size + 1 + 1, 8, none⟩ (.int .i64 zk)).setCell ⟨w.heap.size + 1 + 1, 9, none⟩ (.slice (some ⟨gzT, 0, none⟩) nzT nzT)).setCell ⟨w.heap.size + 1 + 1, 10, none⟩ (.int .u32 nx)) gzT 92 (iC zT)) := hRzT.wr hw VzT
  have v6 : u2.cell? ⟨w.heap.size + 1 + 1, 6, none⟩ = some (.slice none 0 0) := by rw [cell_of_row u2 _ 6 _ _ _ HF2.out.var]; rfl
  have f6 := frozen_of_row u2 (w.heap.size + 1 + 1) 6 _ _ HF2.out.var
  have v7 : u2.cell? ⟨w.heap.size + 1 + 1, 7, none⟩ = some (.slice none 0 0) := by rw [cell_of_row u2 _ 7 _ _ _ HF2.out.var]; rfl
  have f7 := frozen_of_row u2 (w.heap.size + 1 + 1) 7 _ _ HF2.out.var
  have v8 : u2.cell? ⟨w.heap.size + 1 + 1, 8, none⟩ = some (.int .i64 0) := by rw [cell_of_row u2 _ 8 _ _ _ HF2.out.var]; rfl
  have f8 := frozen_of_row u2 (w.heap.size + 1 + 1) 8 _ _ HF2.out.var
  have v9 : u2.cell? ⟨w.heap.size + 1 + 1, 9, none⟩ = some (.slice none 0 0) := by rw [cell_of_row u2 _ 9 _ _ _ HF2.out.var]; rfl
  have f9 := frozen_of_row u2 (w.heap.size + 1 + 1) 9 _ _ HF2.out.var
  have v10 : u2.cell? ⟨w.heap.size + 1 + 1, 10, none⟩ = some (.int .u32 0) := by rw [cell_of_row u2 _ 10 _ _ _ HF2.out.var]; rfl
  have f10 := frozen_of_row u2 (w.heap.size + 1 + 1) 10 _ _ HF2.out.var
  have x10 : u2.cell? ⟨w.heap.size, 10, none⟩ = some (.int .u32 nx) := by rw [cell_of_row u2 w.heap.size 10 _ _ _ HF2.out.box]; rfl
  clear hw HF2 hRsD hRsU hRF hRzD hRzU hRzT
  have HSZ : Hid ((Try.prog.info? 40).map (·.size) = some 11) := by show _ = _; kernel_rfl
  have HVR : Hid ((((((u2.setCell ⟨w.heap.size + 1 + 1, 6, none⟩ (.slice (some ⟨gzD, 0, none⟩) nzD nzD)).setCell ⟨w.heap.size + 1 + 1, 7, none⟩ (.slice (some ⟨gzU, 0, none⟩) nzU nzU)).setCell ⟨w.heap.size + 1 + 1, 8, none⟩ (.int .i64 zk)).setCell ⟨w.heap.size + 1 + 1, 9, none⟩ (.slice (some ⟨gzT, 0, none⟩) nzT nzT)).setCell ⟨w.heap.size + 1 + 1, 10, none⟩ (.int .u32 nx)).heap[w.heap.size + 1 + 1]? = some (.cells #[.bool ok, .int .u32 sgn, .int .u32 stl, .slice (some ⟨gsD, 0, none⟩) nsD nsD, .slice (some ⟨gsU, 0, none⟩) nsU nsU, .slice (some ⟨gF, 0, none⟩) nF nF, .slice (some ⟨gzD, 0, none⟩) nzD nzD, .slice (some ⟨gzU, 0, none⟩) nzU nzU, .int .i64 zk, .slice (some ⟨gzT, 0, none⟩) nzT nzT, .int .u32 nx] 40 (0, 0))) := HE3.out.var
  have HRR : Hid ((((((u2.setCell ⟨w.heap.size + 1 + 1, 6, none⟩ (.slice (some ⟨gzD, 0, none⟩) nzD nzD)).setCell ⟨w.heap.size + 1 + 1, 7, none⟩ (.slice (some ⟨gzU, 0, none⟩) nzU nzU)).setCell ⟨w.heap.size + 1 + 1, 8, none⟩ (.int .i64 zk)).setCell ⟨w.heap.size + 1 + 1, 9, none⟩ (.slice (some ⟨gzT, 0, none⟩) nzT nzT)).setCell ⟨w.heap.size + 1 + 1, 10, none⟩ (.int .u32 nx)).heap[w.heap.size + 1]? = some (.cells #[.bool false, .int .u32 0, .int .u32 0, .slice none 0 0, .slice none 0 0, .slice none 0 0, .slice none 0 0, .slice none 0 0, .int .i64 0, .slice none 0 0, .int .u32 0] 40 (0, 0))) := HE3.out.res
  go_upto_region 7 with fail
  generalize (((((u2.setCell ⟨w.heap.size + 1 + 1, 6, none⟩ (.slice (some ⟨gzD, 0, none⟩) nzD nzD)).setCell ⟨w.heap.size + 1 + 1, 7, none⟩ (.slice (some ⟨gzU, 0, none⟩) nzU nzU)).setCell ⟨w.heap.size + 1 + 1, 8, none⟩ (.int .i64 zk)).setCell ⟨w.heap.size + 1 + 1, 9, none⟩ (.slice (some ⟨gzT, 0, none⟩) nzT nzT)).setCell ⟨w.heap.size + 1 + 1, 10, none⟩ (.int .u32 nx)) = wz at *
  clear v6 f6 v7 f7 v8 f8 v9 f9 v10 f10 x10
  go_wp2_with (first
    | (refine wpList_load_row rfl 40 (.tmp 3) rfl (w.heap.size + 1 + 1) rfl 40 _ (0, 0) _ HVR.out Try.underlying40 rfl HSZ.out ?_)
    | (refine wpList_store_row rfl 40 (.tmp 2) (.tmp 22) rfl (w.heap.size + 1) #[.bool ok, .int .u32 sgn, .int .u32 stl, .slice (some ⟨gsD, 0, none⟩) nsD nsD, .slice (some ⟨gsU, 0, none⟩) nsU nsU, .slice (some ⟨gF, 0, none⟩) nF nF, .slice (some ⟨gzD, 0, none⟩) nzD nzD, .slice (some ⟨gzU, 0, none⟩) nzU nzU, .int .i64 zk, .slice (some ⟨gzT, 0, none⟩) nzT nzT, .int .u32 nx] rfl rfl 40 _ HRR.out HSZ.out rfl (by simp [Value.oneCell']) ?_)
    | fail)
  refine bodyPost_ret (v := .agg #[.bool ok, .int .u32 sgn, .int .u32 stl, .slice (some ⟨gsD, 0, none⟩) nsD nsD, .slice (some ⟨gsU, 0, none⟩) nsU nsU, .slice (some ⟨gF, 0, none⟩) nF nF, .slice (some ⟨gzD, 0, none⟩) nzD nzD, .slice (some ⟨gzU, 0, none⟩) nzU nzU, .int .i64 zk, .slice (some ⟨gzT, 0, none⟩) nzT nzT, .int .u32 nx]) (results_cell_row rfl _ _ (w.heap.size + 1) 40 _ (0, 0) _ rfl (setRow_heap _ _ _ _ _ _ HRR.out) Try.underlying40 rfl HSZ.out) rfl ?_
  have hwz : Wr (w.heap.size + 1) wz (wz.setRow (w.heap.size + 1) #[.bool ok, .int .u32 sgn, .int .u32 stl, .slice (some ⟨gsD, 0, none⟩) nsD nsD, .slice (some ⟨gsU, 0, none⟩) nsU nsU, .slice (some ⟨gF, 0, none⟩) nF nF, .slice (some ⟨gzD, 0, none⟩) nzD nzD, .slice (some ⟨gzU, 0, none⟩) nzU nzU, .int .i64 zk, .slice (some ⟨gzT, 0, none⟩) nzT nzT, .int .u32 nx]) := Wr.setRow _ _ _
  exact ⟨gsD, gsU, gF, gzD, gzU, gzT, rfl, by omega, osU, oF, ozD, ozU, ozT, HRsD.out.wr hwz (by omega), HRsU.out.wr hwz (by omega), HRF.out.wr hwz (by omega), HRzD.out.wr hwz (by omega), HRzU.out.wr hwz (by omega), HRzT.out.wr hwz (by omega), HE3.out.below.trans (hwz.below (by omega))⟩
end Go.Proofs.Ythghkfncpdnpoad
