/-
  Own work: boxes (written by wip/mkeq.py).
-/
import Derived.Test.YtpbjhihpkfkobaeMCpe
import Derived.Deep.Cut
namespace Go.Proofs.Ytpbjhihpkfkobae
open Go.ChangeShapes Go.WideShapes Go.ChangeAt Go.RowKit
set_option linter.unusedVariables false

/-- Two boxes of a comparison. -/
structure BE (w : World) (t : TypeId) (sa sb : Array Value) (wr : World) : Prop where
  below : Below w.heap.size w wr
  b0 : wr.heap[w.heap.size]? = some (.cells sa t (0, 0))
  b1 : wr.heap[w.heap.size + 1]? = some (.cells sb t (0, 0))
theorem BE.start (w : World) (t : TypeId) (sa sb : Array Value) : BE w t sa sb ((w.alloc (.cells sa t)).alloc (.cells sb t)) := by
  refine ⟨((Below.refl _ _).alloc (Nat.le_refl _) _).alloc (by simp) _, ?_, ?_⟩
  · rw [Below.heap_alloc _ _ w.heap.size (by simp)]; exact heap_alloc_new w _
  · have := heap_alloc_new (w.alloc (.cells sa t)) (.cells sb t)
    rwa [show (w.alloc (.cells sa t)).heap.size = w.heap.size + 1 by simp] at this
theorem BE.call {w wr w' : World} {t : TypeId} {sa sb : Array Value} (h : BE w t sa sb wr) (b : Below wr.heap.size wr w') : BE w t sa sb w' := by
  have := (Array.getElem?_eq_some_iff.1 h.b1).1
  exact ⟨h.below.trans (b.mono h.below.size), by rw [b.block _ (by omega)]; exact h.b0, by rw [b.block _ (by omega)]; exact h.b1⟩
/-- One box. -/
structure OE (w : World) (t : TypeId) (sa : Array Value) (wr : World) : Prop where
  below : Below w.heap.size w wr
  b0 : wr.heap[w.heap.size]? = some (.cells sa t (0, 0))
theorem OE.start (w : World) (t : TypeId) (sa : Array Value) : OE w t sa (w.alloc (.cells sa t)) := ⟨(Below.refl _ _).alloc (Nat.le_refl _) _, heap_alloc_new w _⟩
theorem OE.lt {w wr : World} {t : TypeId} {sa : Array Value} (h : OE w t sa wr) : w.heap.size < wr.heap.size := (Array.getElem?_eq_some_iff.1 h.b0).1
theorem OE.call {w wr w' : World} {t : TypeId} {sa : Array Value} (h : OE w t sa wr) (b : Below wr.heap.size wr w') : OE w t sa w' := by
  have := (Array.getElem?_eq_some_iff.1 h.b0).1
  exact ⟨h.below.trans (b.mono h.below.size), by rw [b.block _ (by omega)]; exact h.b0⟩
end Go.Proofs.Ytpbjhihpkfkobae
namespace Go.Proofs.Ytpbjhihpkfkobae
open Go.ChangeShapes Go.WideShapes Go.ChangeAt Go.RowKit
set_option linter.unusedVariables false

set_option maxRecDepth 100000 in
set_option maxHeartbeats 4000000 in
theorem eqSt_any (aD bD aU bU aT bT : Option Addr) (nD cD dD nU cU dU nT cT dT : Nat) (D U T : List Int) (k : Int) (w : World) (hD : D.length = nD) (hU : U.length = nU) (hT : T.length = nT * 2) (mD : nD ≤ 1048576) (mU : nU ≤ 1048576) (mT : nT ≤ 1048576) (AD : At .i64 w aD D) (BD : At .i64 w bD D) (AU : At .i64 w aU U) (BU : At .i64 w bU U) (AT : At .i64 w aT T) (BT : At .i64 w bT T) :
    Calls Try.prog 36 #[.agg #[.slice aD nD cD, .slice aU nU cU, .int .i64 k, .slice aT nT cT], .agg #[.slice bD nD dD, .slice bU nU dU, .int .i64 k, .slice bT nT dT]] w fun e w' => e = .returned (.bool true) ∧ Below w.heap.size w w' := by
  have HE0 : Hid (BE w 59 #[.slice aD nD cD, .slice aU nU cU, .int .i64 k, .slice aT nT cT] #[.slice bD nD dD, .slice bU nU dU, .int .i64 k, .slice bT nT dT] ((w.alloc (.cells #[.slice aD nD cD, .slice aU nU cU, .int .i64 k, .slice aT nT cT] 59)).alloc (.cells #[.slice bD nD dD, .slice bU nU dU, .int .i64 k, .slice bT nT dT] 59))) := BE.start _ _ _ _
  have HAD : Hid (At .i64 w aD D ∧ At .i64 w bD D) := ⟨AD, BD⟩
  have HLD : Hid (D.length = nD) := hD
  have HAU : Hid (At .i64 w aU U ∧ At .i64 w bU U) := ⟨AU, BU⟩
  have HLU : Hid (U.length = nU) := hU
  have HAT : Hid (At .i64 w aT T ∧ At .i64 w bT T) := ⟨AT, BT⟩
  have HLT : Hid (T.length = nT * 2) := hT
  clear AD BD hD AU BU hU AT BT hT
  have nek : (k != k) = false := by simp
  go_enter Try.func36, Try.ntmps36
  go_wp2_with fail
  generalize ((w.alloc (.cells #[.slice aD nD cD, .slice aU nU cU, .int .i64 k, .slice aT nT cT] 59)).alloc (.cells #[.slice bD nD dD, .slice bU nU dU, .int .i64 k, .slice bT nT dT] 59)) = w0 at *
  refine (eqI_any _ _ nD _ _ D _ HLD.out mD (HAD.out.1.below HE0.out.below) (HAD.out.2.below HE0.out.below)).mono ?_
  rintro e w1 ⟨rfl, q0, hq⟩
  have hb : Below w0.heap.size w0 w1 := by rw [hq]; exact below_dq (Below.refl _ _) _
  clear hq
  have HE1 : Hid (BE w 59 #[.slice aD nD cD, .slice aU nU cU, .int .i64 k, .slice aT nT cT] #[.slice bD nD dD, .slice bU nU dU, .int .i64 k, .slice bT nT dT] w1) := HE0.out.call hb
  clear hb HE0
  have x1 : w1.cell? ⟨w.heap.size, 1, none⟩ = some (.slice aU nU cU) := by rw [cell_of_row w1 w.heap.size 1 _ _ _ HE1.out.b0]; rfl
  have y1 : w1.cell? ⟨w.heap.size + 1, 1, none⟩ = some (.slice bU nU dU) := by rw [cell_of_row w1 (w.heap.size + 1) 1 _ _ _ HE1.out.b1]; rfl
  go_wp2_with fail
  clear x1 y1
  refine (eqI_any _ _ nU _ _ U _ HLU.out mU (HAU.out.1.below HE1.out.below) (HAU.out.2.below HE1.out.below)).mono ?_
  rintro e w2 ⟨rfl, q1, hq⟩
  have hb : Below w1.heap.size w1 w2 := by rw [hq]; exact below_dq (Below.refl _ _) _
  clear hq
  have HE2 : Hid (BE w 59 #[.slice aD nD cD, .slice aU nU cU, .int .i64 k, .slice aT nT cT] #[.slice bD nD dD, .slice bU nU dU, .int .i64 k, .slice bT nT dT] w2) := HE1.out.call hb
  clear hb HE1
  have x2 : w2.cell? ⟨w.heap.size, 2, none⟩ = some (.int .i64 k) := by rw [cell_of_row w2 w.heap.size 2 _ _ _ HE2.out.b0]; rfl
  have y2 : w2.cell? ⟨w.heap.size + 1, 2, none⟩ = some (.int .i64 k) := by rw [cell_of_row w2 (w.heap.size + 1) 2 _ _ _ HE2.out.b1]; rfl
  have x3 : w2.cell? ⟨w.heap.size, 3, none⟩ = some (.slice aT nT cT) := by rw [cell_of_row w2 w.heap.size 3 _ _ _ HE2.out.b0]; rfl
  have y3 : w2.cell? ⟨w.heap.size + 1, 3, none⟩ = some (.slice bT nT dT) := by rw [cell_of_row w2 (w.heap.size + 1) 3 _ _ _ HE2.out.b1]; rfl
  go_wp2_with fail
  clear x2 y2 x3 y3
  refine (eqTS_any _ _ nT _ _ T _ HLT.out mT (HAT.out.1.below HE2.out.below) (HAT.out.2.below HE2.out.below)).mono ?_
  rintro e w3 ⟨rfl, hb⟩
  have HE3 : Hid (BE w 59 #[.slice aD nD cD, .slice aU nU cU, .int .i64 k, .slice aT nT cT] #[.slice bD nD dD, .slice bU nU dU, .int .i64 k, .slice bT nT dT] w3) := HE2.out.call hb
  clear hb HE2
  have HF : Hid (Below w.heap.size w w3) := HE3.out.below
  clear HE3
  go_wp2
  go_ret
  exact ⟨rfl, HF.out⟩
end Go.Proofs.Ytpbjhihpkfkobae
namespace Go.Proofs.Ytpbjhihpkfkobae
open Go.ChangeShapes Go.WideShapes Go.ChangeAt Go.RowKit
set_option linter.unusedVariables false

set_option maxRecDepth 100000 in
set_option maxHeartbeats 4000000 in
theorem toSt_any (aD aU aT : Option Addr) (nD cD nU cU nT cT : Nat) (D U T : List Int) (k : Int) (w : World) (hD : D.length = nD) (hU : U.length = nU) (hT : T.length = nT * 2) (mD : nD ≤ 1048576) (mU : nU ≤ 1048576) (mT : nT ≤ 1048576) (AD : At .i64 w aD D) (AU : At .i64 w aU U) (AT : At .i64 w aT T) :
    Calls Try.prog 32 #[.agg #[.slice aD nD cD, .slice aU nU cU, .int .i64 k, .slice aT nT cT]] w fun e w' => ∃ gD gU gT, e = .returned (.agg #[.slice (some ⟨gD, 0, none⟩) nD nD, .slice (some ⟨gU, 0, none⟩) nU nU, .int .i64 k, .slice (some ⟨gT, 0, none⟩) nT nT]) ∧ w.heap.size ≤ gD ∧ gD < gU ∧ gU < gT ∧ RowV w' gD 2 (iC D) ∧ RowV w' gU 2 (iC U) ∧ RowV w' gT 126 (iC T) ∧ Below w.heap.size w w' := by
  have HE0 : Hid (CE w 53 59 #[.slice aD nD cD, .slice aU nU cU, .int .i64 k, .slice aT nT cT] #[.slice none 0 0, .slice none 0 0, .int .i64 0, .slice none 0 0] #[.slice none 0 0, .slice none 0 0, .int .i64 0, .slice none 0 0] (((w.alloc (.cells #[.slice aD nD cD, .slice aU nU cU, .int .i64 k, .slice aT nT cT] 53)).alloc (.cells #[.slice none 0 0, .slice none 0 0, .int .i64 0, .slice none 0 0] 59)).alloc (.cells #[.slice none 0 0, .slice none 0 0, .int .i64 0, .slice none 0 0] 59))) := CE.start _ _ _ _ _ _
  have HAD : Hid (At .i64 w aD D) := AD
  have HLD : Hid (D.length = nD) := hD
  have HAU : Hid (At .i64 w aU U) := AU
  have HLU : Hid (U.length = nU) := hU
  have HAT : Hid (At .i64 w aT T) := AT
  have HLT : Hid (T.length = nT * 2) := hT
  clear AD hD AU hU AT hT
  go_enter Try.func32, Try.ntmps32
  go_wp2_with fail
  generalize (((w.alloc (.cells #[.slice aD nD cD, .slice aU nU cU, .int .i64 k, .slice aT nT cT] 53)).alloc (.cells #[.slice none 0 0, .slice none 0 0, .int .i64 0, .slice none 0 0] 59)).alloc (.cells #[.slice none 0 0, .slice none 0 0, .int .i64 0, .slice none 0 0] 59)) = w0 at *
  refine (toIR_any aD nD cD D _ HLD.out mD (HAD.out.below HE0.out.below)).mono ?_
  rintro e u0 ⟨rfl, hRD, hb⟩
  have HF0 : Hid (CE w 53 59 #[.slice aD nD cD, .slice aU nU cU, .int .i64 k, .slice aT nT cT] #[.slice none 0 0, .slice none 0 0, .int .i64 0, .slice none 0 0] #[.slice none 0 0, .slice none 0 0, .int .i64 0, .slice none 0 0] u0) := HE0.out.call hb
  have lt0 : w.heap.size + 1 + 1 < w0.heap.size := HE0.out.lt
  clear hb 
  have oD : w.heap.size ≤ w0.heap.size := by omega
  have VD : w.heap.size + 1 + 1 < w0.heap.size := lt0
  clear HE0
  generalize w0.heap.size = gD at *
  have hw : Wr (w.heap.size + 1 + 1) u0 (u0.setCell ⟨w.heap.size + 1 + 1, 0, none⟩ (.slice (some ⟨gD, 0, none⟩) nD nD)) := ((Wr.refl _ _).setCell _ _)
  have HE1 : Hid (CE w 53 59 #[.slice aD nD cD, .slice aU nU cU, .int .i64 k, .slice aT nT cT] #[.slice none 0 0, .slice none 0 0, .int .i64 0, .slice none 0 0] #[.slice (some ⟨gD, 0, none⟩) nD nD, .slice none 0 0, .int .i64 0, .slice none 0 0] (u0.setCell ⟨w.heap.size + 1 + 1, 0, none⟩ (.slice (some ⟨gD, 0, none⟩) nD nD))) := (HF0.out.put 0 _)
  have HRD : Hid (RowV (u0.setCell ⟨w.heap.size + 1 + 1, 0, none⟩ (.slice (some ⟨gD, 0, none⟩) nD nD)) gD 2 (iC D)) := hRD.wr hw VD
  have lgD : gD < (u0.setCell ⟨w.heap.size + 1 + 1, 0, none⟩ (.slice (some ⟨gD, 0, none⟩) nD nD)).heap.size := HRD.out.lt
  have v0 : u0.cell? ⟨w.heap.size + 1 + 1, 0, none⟩ = some (.slice none 0 0) := by rw [cell_of_row u0 _ 0 _ _ _ HF0.out.var]; rfl
  have f0 := frozen_of_row u0 (w.heap.size + 1 + 1) 0 _ _ HF0.out.var
  have x1 : u0.cell? ⟨w.heap.size, 1, none⟩ = some (.slice aU nU cU) := by rw [cell_of_row u0 w.heap.size 1 _ _ _ HF0.out.box]; rfl
  clear hw HF0 hRD
  go_wp2_with fail
  generalize (u0.setCell ⟨w.heap.size + 1 + 1, 0, none⟩ (.slice (some ⟨gD, 0, none⟩) nD nD)) = w1 at *
  clear v0 f0 x1
  refine (toIR_any aU nU cU U _ HLU.out mU (HAU.out.below HE1.out.below)).mono ?_
  rintro e u1 ⟨rfl, hRU, hb⟩
  have HF1 : Hid (CE w 53 59 #[.slice aD nD cD, .slice aU nU cU, .int .i64 k, .slice aT nT cT] #[.slice none 0 0, .slice none 0 0, .int .i64 0, .slice none 0 0] #[.slice (some ⟨gD, 0, none⟩) nD nD, .slice none 0 0, .int .i64 0, .slice none 0 0] u1) := HE1.out.call hb
  have lt1 : w.heap.size + 1 + 1 < w1.heap.size := HE1.out.lt
  have hRD : RowV u1 gD 2 (iC D) := HRD.out.below hb
  clear hb HRD
  have oU : gD < w1.heap.size := lgD
  clear lgD
  have VU : w.heap.size + 1 + 1 < w1.heap.size := lt1
  clear HE1
  generalize w1.heap.size = gU at *
  have hw : Wr (w.heap.size + 1 + 1) u1 ((u1.setCell ⟨w.heap.size + 1 + 1, 1, none⟩ (.slice (some ⟨gU, 0, none⟩) nU nU)).setCell ⟨w.heap.size + 1 + 1, 2, none⟩ (.int .i64 k)) := (((Wr.refl _ _).setCell _ _).setCell _ _)
  have HE2 : Hid (CE w 53 59 #[.slice aD nD cD, .slice aU nU cU, .int .i64 k, .slice aT nT cT] #[.slice none 0 0, .slice none 0 0, .int .i64 0, .slice none 0 0] #[.slice (some ⟨gD, 0, none⟩) nD nD, .slice (some ⟨gU, 0, none⟩) nU nU, .int .i64 k, .slice none 0 0] ((u1.setCell ⟨w.heap.size + 1 + 1, 1, none⟩ (.slice (some ⟨gU, 0, none⟩) nU nU)).setCell ⟨w.heap.size + 1 + 1, 2, none⟩ (.int .i64 k))) := ((HF1.out.put 1 _).put 2 _)
  have HRD : Hid (RowV ((u1.setCell ⟨w.heap.size + 1 + 1, 1, none⟩ (.slice (some ⟨gU, 0, none⟩) nU nU)).setCell ⟨w.heap.size + 1 + 1, 2, none⟩ (.int .i64 k)) gD 2 (iC D)) := hRD.wr hw VD
  have HRU : Hid (RowV ((u1.setCell ⟨w.heap.size + 1 + 1, 1, none⟩ (.slice (some ⟨gU, 0, none⟩) nU nU)).setCell ⟨w.heap.size + 1 + 1, 2, none⟩ (.int .i64 k)) gU 2 (iC U)) := hRU.wr hw VU
  have lgU : gU < ((u1.setCell ⟨w.heap.size + 1 + 1, 1, none⟩ (.slice (some ⟨gU, 0, none⟩) nU nU)).setCell ⟨w.heap.size + 1 + 1, 2, none⟩ (.int .i64 k)).heap.size := HRU.out.lt
  have v1 : u1.cell? ⟨w.heap.size + 1 + 1, 1, none⟩ = some (.slice none 0 0) := by rw [cell_of_row u1 _ 1 _ _ _ HF1.out.var]; rfl
  have f1 := frozen_of_row u1 (w.heap.size + 1 + 1) 1 _ _ HF1.out.var
  have v2 : u1.cell? ⟨w.heap.size + 1 + 1, 2, none⟩ = some (.int .i64 0) := by rw [cell_of_row u1 _ 2 _ _ _ HF1.out.var]; rfl
  have f2 := frozen_of_row u1 (w.heap.size + 1 + 1) 2 _ _ HF1.out.var
  have x2 : u1.cell? ⟨w.heap.size, 2, none⟩ = some (.int .i64 k) := by rw [cell_of_row u1 w.heap.size 2 _ _ _ HF1.out.box]; rfl
  have x3 : u1.cell? ⟨w.heap.size, 3, none⟩ = some (.slice aT nT cT) := by rw [cell_of_row u1 w.heap.size 3 _ _ _ HF1.out.box]; rfl
  clear hw HF1 hRD hRU
  go_wp2_with fail
  generalize ((u1.setCell ⟨w.heap.size + 1 + 1, 1, none⟩ (.slice (some ⟨gU, 0, none⟩) nU nU)).setCell ⟨w.heap.size + 1 + 1, 2, none⟩ (.int .i64 k)) = w2 at *
  clear v1 f1 v2 f2 x2 x3
  refine (toTR_any aT nT cT T _ HLT.out mT (HAT.out.below HE2.out.below)).mono ?_
  rintro e u2 ⟨rfl, hRT, hb⟩
  have HF2 : Hid (CE w 53 59 #[.slice aD nD cD, .slice aU nU cU, .int .i64 k, .slice aT nT cT] #[.slice none 0 0, .slice none 0 0, .int .i64 0, .slice none 0 0] #[.slice (some ⟨gD, 0, none⟩) nD nD, .slice (some ⟨gU, 0, none⟩) nU nU, .int .i64 k, .slice none 0 0] u2) := HE2.out.call hb
  have lt2 : w.heap.size + 1 + 1 < w2.heap.size := HE2.out.lt
  have hRD : RowV u2 gD 2 (iC D) := HRD.out.below hb
  have hRU : RowV u2 gU 2 (iC U) := HRU.out.below hb
  clear hb HRD HRU
  have oT : gU < w2.heap.size := lgU
  clear lgU
  have VT : w.heap.size + 1 + 1 < w2.heap.size := lt2
  clear HE2
  generalize w2.heap.size = gT at *
  have hw : Wr (w.heap.size + 1 + 1) u2 (u2.setCell ⟨w.heap.size + 1 + 1, 3, none⟩ (.slice (some ⟨gT, 0, none⟩) nT nT)) := ((Wr.refl _ _).setCell _ _)
  have HE3 : Hid (CE w 53 59 #[.slice aD nD cD, .slice aU nU cU, .int .i64 k, .slice aT nT cT] #[.slice none 0 0, .slice none 0 0, .int .i64 0, .slice none 0 0] #[.slice (some ⟨gD, 0, none⟩) nD nD, .slice (some ⟨gU, 0, none⟩) nU nU, .int .i64 k, .slice (some ⟨gT, 0, none⟩) nT nT] (u2.setCell ⟨w.heap.size + 1 + 1, 3, none⟩ (.slice (some ⟨gT, 0, none⟩) nT nT))) := (HF2.out.put 3 _)
  have HRD : Hid (RowV (u2.setCell ⟨w.heap.size + 1 + 1, 3, none⟩ (.slice (some ⟨gT, 0, none⟩) nT nT)) gD 2 (iC D)) := hRD.wr hw VD
  have HRU : Hid (RowV (u2.setCell ⟨w.heap.size + 1 + 1, 3, none⟩ (.slice (some ⟨gT, 0, none⟩) nT nT)) gU 2 (iC U)) := hRU.wr hw VU
  have HRT : Hid (RowV (u2.setCell ⟨w.heap.size + 1 + 1, 3, none⟩ (.slice (some ⟨gT, 0, none⟩) nT nT)) gT 126 (iC T)) := hRT.wr hw VT
  have v3 : u2.cell? ⟨w.heap.size + 1 + 1, 3, none⟩ = some (.slice none 0 0) := by rw [cell_of_row u2 _ 3 _ _ _ HF2.out.var]; rfl
  have f3 := frozen_of_row u2 (w.heap.size + 1 + 1) 3 _ _ HF2.out.var
  clear hw HF2 hRD hRU hRT
  have HSZ : Hid ((Try.prog.info? 59).map (·.size) = some 4) := by show _ = _; kernel_rfl
  have HVR : Hid ((u2.setCell ⟨w.heap.size + 1 + 1, 3, none⟩ (.slice (some ⟨gT, 0, none⟩) nT nT)).heap[w.heap.size + 1 + 1]? = some (.cells #[.slice (some ⟨gD, 0, none⟩) nD nD, .slice (some ⟨gU, 0, none⟩) nU nU, .int .i64 k, .slice (some ⟨gT, 0, none⟩) nT nT] 59 (0, 0))) := HE3.out.var
  have HRR : Hid ((u2.setCell ⟨w.heap.size + 1 + 1, 3, none⟩ (.slice (some ⟨gT, 0, none⟩) nT nT)).heap[w.heap.size + 1]? = some (.cells #[.slice none 0 0, .slice none 0 0, .int .i64 0, .slice none 0 0] 59 (0, 0))) := HE3.out.res
  go_upto_region 6 with fail
  generalize (u2.setCell ⟨w.heap.size + 1 + 1, 3, none⟩ (.slice (some ⟨gT, 0, none⟩) nT nT)) = wz at *
  clear v3 f3 
  go_wp2_with (first
    | (refine wpList_load_row rfl 59 (.tmp 3) rfl (w.heap.size + 1 + 1) rfl 59 _ (0, 0) _ HVR.out Try.underlying59 rfl HSZ.out ?_)
    | (refine wpList_store_row rfl 59 (.tmp 2) (.tmp 19) rfl (w.heap.size + 1) #[.slice (some ⟨gD, 0, none⟩) nD nD, .slice (some ⟨gU, 0, none⟩) nU nU, .int .i64 k, .slice (some ⟨gT, 0, none⟩) nT nT] rfl rfl 59 _ HRR.out HSZ.out rfl (by simp [Value.oneCell']) ?_)
    | fail)
  refine bodyPost_ret (v := .agg #[.slice (some ⟨gD, 0, none⟩) nD nD, .slice (some ⟨gU, 0, none⟩) nU nU, .int .i64 k, .slice (some ⟨gT, 0, none⟩) nT nT]) (results_cell_row rfl _ _ (w.heap.size + 1) 59 _ (0, 0) _ rfl (setRow_heap _ _ _ _ _ _ HRR.out) Try.underlying59 rfl HSZ.out) rfl ?_
  have hwz : Wr (w.heap.size + 1) wz (wz.setRow (w.heap.size + 1) #[.slice (some ⟨gD, 0, none⟩) nD nD, .slice (some ⟨gU, 0, none⟩) nU nU, .int .i64 k, .slice (some ⟨gT, 0, none⟩) nT nT]) := Wr.setRow _ _ _
  exact ⟨gD, gU, gT, rfl, by omega, oU, oT, HRD.out.wr hwz (by omega), HRU.out.wr hwz (by omega), HRT.out.wr hwz (by omega), HE3.out.below.trans (hwz.below (by omega))⟩
end Go.Proofs.Ytpbjhihpkfkobae
