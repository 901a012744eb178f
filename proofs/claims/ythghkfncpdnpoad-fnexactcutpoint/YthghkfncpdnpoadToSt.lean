/-
  Own work: a state as the laws copy it (written by wip/mkto.py).
-/
import Derived.Test.YthghkfncpdnpoadCpe
import Derived.Deep.Cut
namespace Go.Proofs.Ythghkfncpdnpoad
open Go.ChangeShapes Go.WideShapes Go.ChangeAt Go.RowKit
set_option linter.unusedVariables false

set_option maxRecDepth 100000 in
set_option maxHeartbeats 4000000 in
theorem toSt_any (aD aU aT : Option Addr) (nD cD nU cU nT cT : Nat) (D U T : List Int) (k : Int) (w : World) (hD : D.length = nD) (hU : U.length = nU) (hT : T.length = nT * 2) (mD : nD ≤ 1048576) (mU : nU ≤ 1048576) (mT : nT ≤ 1048576) (AD : At .i64 w aD D) (AU : At .i64 w aU U) (AT : At .i64 w aT T) :
    Calls Try.prog 13 #[.agg #[.slice aD nD cD, .slice aU nU cU, .int .i64 k, .slice aT nT cT]] w fun e w' => ∃ gD gU gT, e = .returned (.agg #[.slice (some ⟨gD, 0, none⟩) nD nD, .slice (some ⟨gU, 0, none⟩) nU nU, .int .i64 k, .slice (some ⟨gT, 0, none⟩) nT nT]) ∧ w.heap.size ≤ gD ∧ gD < gU ∧ gU < gT ∧ RowV w' gD 2 (iC D) ∧ RowV w' gU 2 (iC U) ∧ RowV w' gT 92 (iC T) ∧ Below w.heap.size w w' := by
  have HE0 : Hid (CE w 29 38 #[.slice aD nD cD, .slice aU nU cU, .int .i64 k, .slice aT nT cT] #[.slice none 0 0, .slice none 0 0, .int .i64 0, .slice none 0 0] #[.slice none 0 0, .slice none 0 0, .int .i64 0, .slice none 0 0] (((w.alloc (.cells #[.slice aD nD cD, .slice aU nU cU, .int .i64 k, .slice aT nT cT] 29)).alloc (.cells #[.slice none 0 0, .slice none 0 0, .int .i64 0, .slice none 0 0] 38)).alloc (.cells #[.slice none 0 0, .slice none 0 0, .int .i64 0, .slice none 0 0] 38))) := CE.start _ _ _ _ _ _
  have HAD : Hid (At .i64 w aD D) := AD
  have HLD : Hid (D.length = nD) := hD
  have HAU : Hid (At .i64 w aU U) := AU
  have HLU : Hid (U.length = nU) := hU
  have HAT : Hid (At .i64 w aT T) := AT
  have HLT : Hid (T.length = nT * 2) := hT
  clear AD hD AU hU AT hT
  go_enter Try.func13, Try.ntmps13
  go_wp2_with fail
  generalize (((w.alloc (.cells #[.slice aD nD cD, .slice aU nU cU, .int .i64 k, .slice aT nT cT] 29)).alloc (.cells #[.slice none 0 0, .slice none 0 0, .int .i64 0, .slice none 0 0] 38)).alloc (.cells #[.slice none 0 0, .slice none 0 0, .int .i64 0, .slice none 0 0] 38)) = w0 at *
  refine (toIR_any aD nD cD D _ HLD.out mD (HAD.out.below HE0.out.below)).mono ?_
  rintro e u0 ⟨rfl, hRD, hb⟩
  have HF0 : Hid (CE w 29 38 #[.slice aD nD cD, .slice aU nU cU, .int .i64 k, .slice aT nT cT] #[.slice none 0 0, .slice none 0 0, .int .i64 0, .slice none 0 0] #[.slice none 0 0, .slice none 0 0, .int .i64 0, .slice none 0 0] u0) := HE0.out.call hb
  have lt0 : w.heap.size + 1 + 1 < w0.heap.size := HE0.out.lt
  clear hb 
  have oD : w.heap.size ≤ w0.heap.size := by omega
  have VD : w.heap.size + 1 + 1 < w0.heap.size := lt0
  clear HE0
  generalize w0.heap.size = gD at *
  have hw : Wr (w.heap.size + 1 + 1) u0 (u0.setCell ⟨w.heap.size + 1 + 1, 0, none⟩ (.slice (some ⟨gD, 0, none⟩) nD nD)) := ((Wr.refl _ _).setCell _ _)
  have HE1 : Hid (CE w 29 38 #[.slice aD nD cD, .slice aU nU cU, .int .i64 k, .slice aT nT cT] #[.slice none 0 0, .slice none 0 0, .int .i64 0, .slice none 0 0] #[.slice (some ⟨gD, 0, none⟩) nD nD, .slice none 0 0, .int .i64 0, .slice none 0 0] (u0.setCell ⟨w.heap.size + 1 + 1, 0, none⟩ (.slice (some ⟨gD, 0, none⟩) nD nD))) := (HF0.out.put 0 _)
  have HRD : Hid (RowV (u0.setCell ⟨w.heap.size + 1 + 1, 0, none⟩ (.slice (some ⟨gD, 0, none⟩) nD nD)) gD 2 (iC D)) := hRD.wr hw VD
  have lgD : gD < (u0.setCell ⟨w.heap.size + 1 + 1, 0, none⟩ (.slice (some ⟨gD, 0, none⟩) nD nD)).heap.size := HRD.out.lt
  have v0 : u0.cell? ⟨w.heap.size + 1 + 1, 0, none⟩ = some (.slice none 0 0) := by rw [cell_of_row u0 _ 0 _ _ _ HF0.out.var]; rfl
  have f0 := frozen_of_row u0 (w.heap.size + 1 + 1) 0 _ _ HF0.out.var
  have x1 : u0.cell? ⟨w.heap.size, 1, none⟩ = some (.slice aU nU cU) := by rw [cell_of_row u0 w.heap.size 1 _ _ _ HF0.out.box]; rfl
  clear hw HF0 hRD
  go_wp2_with fail
  generalize (u0.setCell ⟨w.heap.size + 1 + 1, 0, none⟩ (.slice (some ⟨gD, 0, none⟩) nD nD)) = w1 at *
  clear v0 f0 x1
  refine (toIR_any aU nU cU U _ HLU.out mU (HAU.out.below HE1.out.below)).mono ?_
  rintro e u1 ⟨rfl, hRU, hb⟩
  have HF1 : Hid (CE w 29 38 #[.slice aD nD cD, .slice aU nU cU, .int .i64 k, .slice aT nT cT] #[.slice none 0 0, .slice none 0 0, .int .i64 0, .slice none 0 0] #[.slice (some ⟨gD, 0, none⟩) nD nD, .slice none 0 0, .int .i64 0, .slice none 0 0] u1) := HE1.out.call hb
  have lt1 : w.heap.size + 1 + 1 < w1.heap.size := HE1.out.lt
  have hRD : RowV u1 gD 2 (iC D) := HRD.out.below hb
  clear hb HRD
  have oU : gD < w1.heap.size := lgD
  clear lgD
  have VU : w.heap.size + 1 + 1 < w1.heap.size := lt1
  clear HE1
  generalize w1.heap.size = gU at *
  have hw : Wr (w.heap.size + 1 + 1) u1 ((u1.setCell ⟨w.heap.size + 1 + 1, 1, none⟩ (.slice (some ⟨gU, 0, none⟩) nU nU)).setCell ⟨w.heap.size + 1 + 1, 2, none⟩ (.int .i64 k)) := (((Wr.refl _ _).setCell _ _).setCell _ _)
  have HE2 : Hid (CE w 29 38 #[.slice aD nD cD, .slice aU nU cU, .int .i64 k, .slice aT nT cT] #[.slice none 0 0, .slice none 0 0, .int .i64 0, .slice none 0 0] #[.slice (some ⟨gD, 0, none⟩) nD nD, .slice (some ⟨gU, 0, none⟩) nU nU, .int .i64 k, .slice none 0 0] ((u1.setCell ⟨w.heap.size + 1 + 1, 1, none⟩ (.slice (some ⟨gU, 0, none⟩) nU nU)).setCell ⟨w.heap.size + 1 + 1, 2, none⟩ (.int .i64 k))) := ((HF1.out.put 1 _).put 2 _)
  have HRD : Hid (RowV ((u1.setCell ⟨w.heap.size + 1 + 1, 1, none⟩ (.slice (some ⟨gU, 0, none⟩) nU nU)).setCell ⟨w.heap.size + 1 + 1, 2, none⟩ (.int .i64 k)) gD 2 (iC D)) := hRD.wr hw VD
  have HRU : Hid (RowV ((u1.setCell ⟨w.heap.size + 1 + 1, 1, none⟩ (.slice (some ⟨gU, 0, none⟩) nU nU)).setCell ⟨w.heap.size + 1 + 1, 2, none⟩ (.int .i64 k)) gU 2 (iC U)) := hRU.wr hw VU
  have lgU : gU < ((u1.setCell ⟨w.heap.size + 1 + 1, 1, none⟩ (.slice (some ⟨gU, 0, none⟩) nU nU)).setCell ⟨w.heap.size + 1 + 1, 2, none⟩ (.int .i64 k)).heap.size := HRU.out.lt
  have v1 : u1.cell? ⟨w.heap.size + 1 + 1, 1, none⟩ = some (.slice none 0 0) := by rw [cell_of_row u1 _ 1 _ _ _ HF1.out.var]; rfl
  have f1 := frozen_of_row u1 (w.heap.size + 1 + 1) 1 _ _ HF1.out.var
  have v2 : u1.cell? ⟨w.heap.size + 1 + 1, 2, none⟩ = some (.int .i64 0) := by rw [cell_of_row u1 _ 2 _ _ _ HF1.out.var]; rfl
  have f2 := frozen_of_row u1 (w.heap.size + 1 + 1) 2 _ _ HF1.out.var
  have x2 : u1.cell? ⟨w.heap.size, 2, none⟩ = some (.int .i64 k) := by rw [cell_of_row u1 w.heap.size 2 _ _ _ HF1.out.box]; rfl
  have x3 : u1.cell? ⟨w.heap.size, 3, none⟩ = some (.slice aT nT cT) := by rw [cell_of_row u1 w.heap.size 3 _ _ _ HF1.out.box]; rfl
  clear hw HF1 hRD hRU
  go_wp2_with fail
  generalize ((u1.setCell ⟨w.heap.size + 1 + 1, 1, none⟩ (.slice (some ⟨gU, 0, none⟩) nU nU)).setCell ⟨w.heap.size + 1 + 1, 2, none⟩ (.int .i64 k)) = w2 at *
  clear v1 f1 v2 f2 x2 x3
  refine (toTR_any aT nT cT T _ HLT.out mT (HAT.out.below HE2.out.below)).mono ?_
  rintro e u2 ⟨rfl, hRT, hb⟩
  have HF2 : Hid (CE w 29 38 #[.slice aD nD cD, .slice aU nU cU, .int .i64 k, .slice aT nT cT] #[.slice none 0 0, .slice none 0 0, .int .i64 0, .slice none 0 0] #[.slice (some ⟨gD, 0, none⟩) nD nD, .slice (some ⟨gU, 0, none⟩) nU nU, .int .i64 k, .slice none 0 0] u2) := HE2.out.call hb
  have lt2 : w.heap.size + 1 + 1 < w2.heap.size := HE2.out.lt
  have hRD : RowV u2 gD 2 (iC D) := HRD.out.below hb
  have hRU : RowV u2 gU 2 (iC U) := HRU.out.below hb
  clear hb HRD HRU
  have oT : gU < w2.heap.size := lgU
  clear lgU
  have VT : w.heap.size + 1 + 1 < w2.heap.size := lt2
  clear HE2
  generalize w2.heap.size = gT at *
  have hw : Wr (w.heap.size + 1 + 1) u2 (u2.setCell ⟨w.heap.size + 1 + 1, 3, none⟩ (.slice (some ⟨gT, 0, none⟩) nT nT)) := ((Wr.refl _ _).setCell _ _)
  have HE3 : Hid (CE w 29 38 #[.slice aD nD cD, .slice aU nU cU, .int .i64 k, .slice aT nT cT] #[.slice none 0 0, .slice none 0 0, .int .i64 0, .slice none 0 0] #[.slice (some ⟨gD, 0, none⟩) nD nD, .slice (some ⟨gU, 0, none⟩) nU nU, .int .i64 k, .slice (some ⟨gT, 0, none⟩) nT nT] (u2.setCell ⟨w.heap.size + 1 + 1, 3, none⟩ (.slice (some ⟨gT, 0, none⟩) nT nT))) := (HF2.out.put 3 _)
  have HRD : Hid (RowV (u2.setCell ⟨w.heap.size + 1 + 1, 3, none⟩ (.slice (some ⟨gT, 0, none⟩) nT nT)) gD 2 (iC D)) := hRD.wr hw VD
  have HRU : Hid (RowV (u2.setCell ⟨w.heap.size + 1 + 1, 3, none⟩ (.slice (some ⟨gT, 0, none⟩) nT nT)) gU 2 (iC U)) := hRU.wr hw VU
  have HRT : Hid (RowV (u2.setCell ⟨w.heap.size + 1 + 1, 3, none⟩ (.slice (some ⟨gT, 0, none⟩) nT nT)) gT 92 (iC T)) := hRT.wr hw VT
  have v3 : u2.cell? ⟨w.heap.size + 1 + 1, 3, none⟩ = some (.slice none 0 0) := by rw [cell_of_row u2 _ 3 _ _ _ HF2.out.var]; rfl
  have f3 := frozen_of_row u2 (w.heap.size + 1 + 1) 3 _ _ HF2.out.var
  clear hw HF2 hRD hRU hRT
  have HSZ : Hid ((Try.prog.info? 38).map (·.size) = some 4) := by show _ = _; kernel_rfl
  have HVR : Hid ((u2.setCell ⟨w.heap.size + 1 + 1, 3, none⟩ (.slice (some ⟨gT, 0, none⟩) nT nT)).heap[w.heap.size + 1 + 1]? = some (.cells #[.slice (some ⟨gD, 0, none⟩) nD nD, .slice (some ⟨gU, 0, none⟩) nU nU, .int .i64 k, .slice (some ⟨gT, 0, none⟩) nT nT] 38 (0, 0))) := HE3.out.var
  have HRR : Hid ((u2.setCell ⟨w.heap.size + 1 + 1, 3, none⟩ (.slice (some ⟨gT, 0, none⟩) nT nT)).heap[w.heap.size + 1]? = some (.cells #[.slice none 0 0, .slice none 0 0, .int .i64 0, .slice none 0 0] 38 (0, 0))) := HE3.out.res
  go_upto_region 6 with fail
  generalize (u2.setCell ⟨w.heap.size + 1 + 1, 3, none⟩ (.slice (some ⟨gT, 0, none⟩) nT nT)) = wz at *
  clear v3 f3 
  go_wp2_with (first
    | (refine wpList_load_row rfl 38 (.tmp 3) rfl (w.heap.size + 1 + 1) rfl 38 _ (0, 0) _ HVR.out Try.underlying38 rfl HSZ.out ?_)
    | (refine wpList_store_row rfl 38 (.tmp 2) (.tmp 19) rfl (w.heap.size + 1) #[.slice (some ⟨gD, 0, none⟩) nD nD, .slice (some ⟨gU, 0, none⟩) nU nU, .int .i64 k, .slice (some ⟨gT, 0, none⟩) nT nT] rfl rfl 38 _ HRR.out HSZ.out rfl (by simp [Value.oneCell']) ?_)
    | fail)
  refine bodyPost_ret (v := .agg #[.slice (some ⟨gD, 0, none⟩) nD nD, .slice (some ⟨gU, 0, none⟩) nU nU, .int .i64 k, .slice (some ⟨gT, 0, none⟩) nT nT]) (results_cell_row rfl _ _ (w.heap.size + 1) 38 _ (0, 0) _ rfl (setRow_heap _ _ _ _ _ _ HRR.out) Try.underlying38 rfl HSZ.out) rfl ?_
  have hwz : Wr (w.heap.size + 1) wz (wz.setRow (w.heap.size + 1) #[.slice (some ⟨gD, 0, none⟩) nD nD, .slice (some ⟨gU, 0, none⟩) nU nU, .int .i64 k, .slice (some ⟨gT, 0, none⟩) nT nT]) := Wr.setRow _ _ _
  exact ⟨gD, gU, gT, rfl, by omega, oU, oT, HRD.out.wr hwz (by omega), HRU.out.wr hwz (by omega), HRT.out.wr hwz (by omega), HE3.out.below.trans (hwz.below (by omega))⟩
end Go.Proofs.Ythghkfncpdnpoad
