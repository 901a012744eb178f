/-
  Own work: a snap as the laws copy it (written by wip/mkto.py).
-/
import Derived.Test.YthghkfncpdnpoadCpe
import Derived.Deep.Cut
namespace Go.Proofs.Ythghkfncpdnpoad
open Go.ChangeShapes Go.WideShapes Go.ChangeAt Go.RowKit
set_option linter.unusedVariables false

set_option maxRecDepth 100000 in
set_option maxHeartbeats 4000000 in
theorem toSn_any (aD aU : Option Addr) (nD cD nU cU : Nat) (D U : List Int) (gn tl : Int) (w : World) (hD : D.length = nD) (hU : U.length = nU) (mD : nD ≤ 1048576) (mU : nU ≤ 1048576) (AD : At .i64 w aD D) (AU : At .i64 w aU U) :
    Calls Try.prog 34 #[.agg #[.int .u32 gn, .int .u32 tl, .slice aD nD cD, .slice aU nU cU]] w fun e w' => ∃ gD gU, e = .returned (.agg #[.int .u32 gn, .int .u32 tl, .slice (some ⟨gD, 0, none⟩) nD nD, .slice (some ⟨gU, 0, none⟩) nU nU]) ∧ w.heap.size ≤ gD ∧ gD < gU ∧ RowV w' gD 2 (iC D) ∧ RowV w' gU 2 (iC U) ∧ Below w.heap.size w w' := by
  have HE0 : Hid (CE w 25 34 #[.int .u32 gn, .int .u32 tl, .slice aD nD cD, .slice aU nU cU] #[.int .u32 0, .int .u32 0, .slice none 0 0, .slice none 0 0] #[.int .u32 gn, .int .u32 tl, .slice none 0 0, .slice none 0 0] (((w.alloc (.cells #[.int .u32 gn, .int .u32 tl, .slice aD nD cD, .slice aU nU cU] 25)).alloc (.cells #[.int .u32 0, .int .u32 0, .slice none 0 0, .slice none 0 0] 34)).alloc (.cells #[.int .u32 gn, .int .u32 tl, .slice none 0 0, .slice none 0 0] 34))) := CE.start _ _ _ _ _ _
  have HAD : Hid (At .i64 w aD D) := AD
  have HLD : Hid (D.length = nD) := hD
  have HAU : Hid (At .i64 w aU U) := AU
  have HLU : Hid (U.length = nU) := hU
  clear AD hD AU hU
  go_enter Try.func34, Try.ntmps34
  go_wp2_with fail
  generalize (((w.alloc (.cells #[.int .u32 gn, .int .u32 tl, .slice aD nD cD, .slice aU nU cU] 25)).alloc (.cells #[.int .u32 0, .int .u32 0, .slice none 0 0, .slice none 0 0] 34)).alloc (.cells #[.int .u32 gn, .int .u32 tl, .slice none 0 0, .slice none 0 0] 34)) = w0 at *
  refine (toIR_any aD nD cD D _ HLD.out mD (HAD.out.below HE0.out.below)).mono ?_
  rintro e u0 ⟨rfl, hRD, hb⟩
  have HF0 : Hid (CE w 25 34 #[.int .u32 gn, .int .u32 tl, .slice aD nD cD, .slice aU nU cU] #[.int .u32 0, .int .u32 0, .slice none 0 0, .slice none 0 0] #[.int .u32 gn, .int .u32 tl, .slice none 0 0, .slice none 0 0] u0) := HE0.out.call hb
  have lt0 : w.heap.size + 1 + 1 < w0.heap.size := HE0.out.lt
  clear hb 
  have oD : w.heap.size ≤ w0.heap.size := by omega
  have VD : w.heap.size + 1 + 1 < w0.heap.size := lt0
  clear HE0
  generalize w0.heap.size = gD at *
  have hw : Wr (w.heap.size + 1 + 1) u0 (u0.setCell ⟨w.heap.size + 1 + 1, 2, none⟩ (.slice (some ⟨gD, 0, none⟩) nD nD)) := ((Wr.refl _ _).setCell _ _)
  have HE1 : Hid (CE w 25 34 #[.int .u32 gn, .int .u32 tl, .slice aD nD cD, .slice aU nU cU] #[.int .u32 0, .int .u32 0, .slice none 0 0, .slice none 0 0] #[.int .u32 gn, .int .u32 tl, .slice (some ⟨gD, 0, none⟩) nD nD, .slice none 0 0] (u0.setCell ⟨w.heap.size + 1 + 1, 2, none⟩ (.slice (some ⟨gD, 0, none⟩) nD nD))) := (HF0.out.put 2 _)
  have HRD : Hid (RowV (u0.setCell ⟨w.heap.size + 1 + 1, 2, none⟩ (.slice (some ⟨gD, 0, none⟩) nD nD)) gD 2 (iC D)) := hRD.wr hw VD
  have lgD : gD < (u0.setCell ⟨w.heap.size + 1 + 1, 2, none⟩ (.slice (some ⟨gD, 0, none⟩) nD nD)).heap.size := HRD.out.lt
  have v2 : u0.cell? ⟨w.heap.size + 1 + 1, 2, none⟩ = some (.slice none 0 0) := by rw [cell_of_row u0 _ 2 _ _ _ HF0.out.var]; rfl
  have f2 := frozen_of_row u0 (w.heap.size + 1 + 1) 2 _ _ HF0.out.var
  have x3 : u0.cell? ⟨w.heap.size, 3, none⟩ = some (.slice aU nU cU) := by rw [cell_of_row u0 w.heap.size 3 _ _ _ HF0.out.box]; rfl
  clear hw HF0 hRD
  go_wp2_with fail
  generalize (u0.setCell ⟨w.heap.size + 1 + 1, 2, none⟩ (.slice (some ⟨gD, 0, none⟩) nD nD)) = w1 at *
  clear v2 f2 x3
  refine (toIR_any aU nU cU U _ HLU.out mU (HAU.out.below HE1.out.below)).mono ?_
  rintro e u1 ⟨rfl, hRU, hb⟩
  have HF1 : Hid (CE w 25 34 #[.int .u32 gn, .int .u32 tl, .slice aD nD cD, .slice aU nU cU] #[.int .u32 0, .int .u32 0, .slice none 0 0, .slice none 0 0] #[.int .u32 gn, .int .u32 tl, .slice (some ⟨gD, 0, none⟩) nD nD, .slice none 0 0] u1) := HE1.out.call hb
  have lt1 : w.heap.size + 1 + 1 < w1.heap.size := HE1.out.lt
  have hRD : RowV u1 gD 2 (iC D) := HRD.out.below hb
  clear hb HRD
  have oU : gD < w1.heap.size := lgD
  clear lgD
  have VU : w.heap.size + 1 + 1 < w1.heap.size := lt1
  clear HE1
  generalize w1.heap.size = gU at *
  have hw : Wr (w.heap.size + 1 + 1) u1 (u1.setCell ⟨w.heap.size + 1 + 1, 3, none⟩ (.slice (some ⟨gU, 0, none⟩) nU nU)) := ((Wr.refl _ _).setCell _ _)
  have HE2 : Hid (CE w 25 34 #[.int .u32 gn, .int .u32 tl, .slice aD nD cD, .slice aU nU cU] #[.int .u32 0, .int .u32 0, .slice none 0 0, .slice none 0 0] #[.int .u32 gn, .int .u32 tl, .slice (some ⟨gD, 0, none⟩) nD nD, .slice (some ⟨gU, 0, none⟩) nU nU] (u1.setCell ⟨w.heap.size + 1 + 1, 3, none⟩ (.slice (some ⟨gU, 0, none⟩) nU nU))) := (HF1.out.put 3 _)
  have HRD : Hid (RowV (u1.setCell ⟨w.heap.size + 1 + 1, 3, none⟩ (.slice (some ⟨gU, 0, none⟩) nU nU)) gD 2 (iC D)) := hRD.wr hw VD
  have HRU : Hid (RowV (u1.setCell ⟨w.heap.size + 1 + 1, 3, none⟩ (.slice (some ⟨gU, 0, none⟩) nU nU)) gU 2 (iC U)) := hRU.wr hw VU
  have v3 : u1.cell? ⟨w.heap.size + 1 + 1, 3, none⟩ = some (.slice none 0 0) := by rw [cell_of_row u1 _ 3 _ _ _ HF1.out.var]; rfl
  have f3 := frozen_of_row u1 (w.heap.size + 1 + 1) 3 _ _ HF1.out.var
  clear hw HF1 hRD hRU
  have HSZ : Hid ((Try.prog.info? 34).map (·.size) = some 4) := by show _ = _; kernel_rfl
  have HVR : Hid ((u1.setCell ⟨w.heap.size + 1 + 1, 3, none⟩ (.slice (some ⟨gU, 0, none⟩) nU nU)).heap[w.heap.size + 1 + 1]? = some (.cells #[.int .u32 gn, .int .u32 tl, .slice (some ⟨gD, 0, none⟩) nD nD, .slice (some ⟨gU, 0, none⟩) nU nU] 34 (0, 0))) := HE2.out.var
  have HRR : Hid ((u1.setCell ⟨w.heap.size + 1 + 1, 3, none⟩ (.slice (some ⟨gU, 0, none⟩) nU nU)).heap[w.heap.size + 1]? = some (.cells #[.int .u32 0, .int .u32 0, .slice none 0 0, .slice none 0 0] 34 (0, 0))) := HE2.out.res
  go_upto_region 6 with fail
  generalize (u1.setCell ⟨w.heap.size + 1 + 1, 3, none⟩ (.slice (some ⟨gU, 0, none⟩) nU nU)) = wz at *
  clear v3 f3 
  go_wp2_with (first
    | (refine wpList_load_row rfl 34 (.tmp 3) rfl (w.heap.size + 1 + 1) rfl 34 _ (0, 0) _ HVR.out Try.underlying34 rfl HSZ.out ?_)
    | (refine wpList_store_row rfl 34 (.tmp 2) (.tmp 18) rfl (w.heap.size + 1) #[.int .u32 gn, .int .u32 tl, .slice (some ⟨gD, 0, none⟩) nD nD, .slice (some ⟨gU, 0, none⟩) nU nU] rfl rfl 34 _ HRR.out HSZ.out rfl (by simp [Value.oneCell']) ?_)
    | fail)
  refine bodyPost_ret (v := .agg #[.int .u32 gn, .int .u32 tl, .slice (some ⟨gD, 0, none⟩) nD nD, .slice (some ⟨gU, 0, none⟩) nU nU]) (results_cell_row rfl _ _ (w.heap.size + 1) 34 _ (0, 0) _ rfl (setRow_heap _ _ _ _ _ _ HRR.out) Try.underlying34 rfl HSZ.out) rfl ?_
  have hwz : Wr (w.heap.size + 1) wz (wz.setRow (w.heap.size + 1) #[.int .u32 gn, .int .u32 tl, .slice (some ⟨gD, 0, none⟩) nD nD, .slice (some ⟨gU, 0, none⟩) nU nU]) := Wr.setRow _ _ _
  exact ⟨gD, gU, rfl, by omega, oU, HRD.out.wr hwz (by omega), HRU.out.wr hwz (by omega), HE2.out.below.trans (hwz.below (by omega))⟩
end Go.Proofs.Ythghkfncpdnpoad
