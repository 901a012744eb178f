/-
  Own work: snaps compared (written by wip/mkeq.py).
-/
import Derived.Test.YtmnoelfabldpfaaMEqB
import Derived.Deep.Cut
import Derived.Test.YtmnoelfabldpfaaDkP
import Derived.Test.YtmnoelfabldpfaaSwH
namespace Go.Proofs.Ytmnoelfabldpfaa
open Go.ChangeShapes Go.WideShapes Go.ChangeAt Go.RowKit
set_option linter.unusedVariables false

set_option maxRecDepth 100000 in
set_option maxHeartbeats 4000000 in
theorem eqSn_any (aD bD aU bU : Option Addr) (nD cD dD nU cU dU : Nat) (D U : List Int) (gn tl : Int) (w : World) (hD : D.length = nD) (hU : U.length = nU) (mD : nD ≤ 1048576) (mU : nU ≤ 1048576) (AD : At .i64 w aD D) (BD : At .i64 w bD D) (AU : At .i64 w aU U) (BU : At .i64 w bU U) :
    Calls Try.prog 22 #[.agg #[.int .u32 gn, .int .u32 tl, .slice aD nD cD, .slice aU nU cU], .agg #[.int .u32 gn, .int .u32 tl, .slice bD nD dD, .slice bU nU dU]] w fun e w' => e = .returned (.bool true) ∧ Below w.heap.size w w' := by
  have HE0 : Hid (BE w 26 #[.int .u32 gn, .int .u32 tl, .slice aD nD cD, .slice aU nU cU] #[.int .u32 gn, .int .u32 tl, .slice bD nD dD, .slice bU nU dU] ((w.alloc (.cells #[.int .u32 gn, .int .u32 tl, .slice aD nD cD, .slice aU nU cU] 26)).alloc (.cells #[.int .u32 gn, .int .u32 tl, .slice bD nD dD, .slice bU nU dU] 26))) := BE.start _ _ _ _
  have HAD : Hid (At .i64 w aD D ∧ At .i64 w bD D) := ⟨AD, BD⟩
  have HLD : Hid (D.length = nD) := hD
  have HAU : Hid (At .i64 w aU U ∧ At .i64 w bU U) := ⟨AU, BU⟩
  have HLU : Hid (U.length = nU) := hU
  clear AD BD hD AU BU hU
  have negn : (gn != gn) = false := by simp
  have netl : (tl != tl) = false := by simp
  go_enter Try.func22, Try.ntmps22
  go_wp2_with fail
  generalize ((w.alloc (.cells #[.int .u32 gn, .int .u32 tl, .slice aD nD cD, .slice aU nU cU] 26)).alloc (.cells #[.int .u32 gn, .int .u32 tl, .slice bD nD dD, .slice bU nU dU] 26)) = w0 at *
  refine (eqI_any _ _ nD _ _ D _ HLD.out mD (HAD.out.1.below HE0.out.below) (HAD.out.2.below HE0.out.below)).mono ?_
  rintro e w1 ⟨rfl, q0, hq⟩
  have hb : Below w0.heap.size w0 w1 := by rw [hq]; exact below_dq (Below.refl _ _) _
  clear hq
  have HE1 : Hid (BE w 26 #[.int .u32 gn, .int .u32 tl, .slice aD nD cD, .slice aU nU cU] #[.int .u32 gn, .int .u32 tl, .slice bD nD dD, .slice bU nU dU] w1) := HE0.out.call hb
  clear hb HE0
  have x3 : w1.cell? ⟨w.heap.size, 3, none⟩ = some (.slice aU nU cU) := by rw [cell_of_row w1 w.heap.size 3 _ _ _ HE1.out.b0]; rfl
  have y3 : w1.cell? ⟨w.heap.size + 1, 3, none⟩ = some (.slice bU nU dU) := by rw [cell_of_row w1 (w.heap.size + 1) 3 _ _ _ HE1.out.b1]; rfl
  go_wp2_with fail
  clear x3 y3
  refine (eqI_any _ _ nU _ _ U _ HLU.out mU (HAU.out.1.below HE1.out.below) (HAU.out.2.below HE1.out.below)).mono ?_
  rintro e w2 ⟨rfl, q1, hq⟩
  have hb : Below w1.heap.size w1 w2 := by rw [hq]; exact below_dq (Below.refl _ _) _
  clear hq
  have HE2 : Hid (BE w 26 #[.int .u32 gn, .int .u32 tl, .slice aD nD cD, .slice aU nU cU] #[.int .u32 gn, .int .u32 tl, .slice bD nD dD, .slice bU nU dU] w2) := HE1.out.call hb
  clear hb HE1
  have HF : Hid (Below w.heap.size w w2) := HE2.out.below
  clear HE2
  go_wp2
  go_ret
  exact ⟨rfl, HF.out⟩
end Go.Proofs.Ytmnoelfabldpfaa
namespace Go.Proofs.Ytmnoelfabldpfaa
open Go.ChangeShapes Go.WideShapes Go.ChangeAt Go.RowKit
set_option linter.unusedVariables false

structure MB2 (lo : Nat) (w : World) (sc : Array Value) (wr : World) : Prop where
  below : Below lo w wr
  box : wr.heap[w.heap.size]? = some (.cells sc 26 (0, 0))
theorem MB2.wro {lo : Nat} {w wr w' : World} {sc : Array Value} (h : MB2 lo w sc wr) {a : Option Addr} (hl : Lies lo w a) (hw : WrO a wr w') : MB2 lo w sc w' :=
  ⟨h.below.trans (hw.below lo (fun ad e => (hl ad e).1)), by rw [hw.block _ (fun ad e => by have := hl ad e; omega)]; exact h.box⟩
section
variable (ok : Bool) (gn tl : Int) (aD aU : Option Addr) (nD cD nU cU : Nat) (k : Int) (w : World)
set_option maxRecDepth 100000 in
set_option maxHeartbeats 1000000 in
theorem markN_any (lo : Nat) (hlo : lo ≤ w.heap.size) (oD : Open w aD nD) (oU : Open w aU nU) (lD : Lies lo w aD) (lU : Lies lo w aU) (dU : Aprt aD aU) (hk : 0 ≤ k) (hk' : k + nD + nU ≤ 1099511627776) :
    Calls Try.prog 23 #[.agg #[.int .u32 gn, .int .u32 tl, .slice aD nD cD, .slice aU nU cU], .int .i64 k] w fun e w' => e = .returned (.int .i64 (k + nD + nU)) ∧ At .i64 w' aD (mks k nD) ∧ At .i64 w' aU (mks (k + nD) nU) ∧ Below lo w w' ∧ ∀ j, j < w.heap.size → NotIn j aD → NotIn j aU → w'.heap[j]? = w.heap[j]? := by
  have b1 := below_new w (.cells #[.int .u32 gn, .int .u32 tl, .slice aD nD cD, .slice aU nU cU] 26)
  have HM1 : Hid (MB2 lo w #[.int .u32 gn, .int .u32 tl, .slice aD nD cD, .slice aU nU cU] (w.alloc (.cells #[.int .u32 gn, .int .u32 tl, .slice aD nD cD, .slice aU nU cU] 26))) := ⟨b1.mono hlo, heap_alloc_new w _⟩
  have HO : Hid (Open (w.alloc (.cells #[.int .u32 gn, .int .u32 tl, .slice aD nD cD, .slice aU nU cU] 26)) aD nD ∧ Open (w.alloc (.cells #[.int .u32 gn, .int .u32 tl, .slice aD nD cD, .slice aU nU cU] 26)) aU nU) := ⟨oD.below b1, oU.below b1⟩
  have HL : Hid (Lies lo w aD ∧ Lies lo w aU) := ⟨lD, lU⟩
  have HP : Hid (Aprt aD aU) := dU
  have HN1 : Hid (∀ j, j < w.heap.size → (w.alloc (.cells #[.int .u32 gn, .int .u32 tl, .slice aD nD cD, .slice aU nU cU] 26)).heap[j]? = w.heap[j]?) := fun j hj => b1.block j hj
  clear oD oU lD lU dU b1
  go_enter Try.func23, Try.ntmps23
  go_wp2_with fail
  refine (markI_any aD nD cD k _ HO.out.1 hk (by omega)).mono ?_
  rintro e w2 ⟨rfl, hA, hw⟩
  generalize w.alloc (.cells #[.int .u32 gn, .int .u32 tl, .slice aD nD cD, .slice aU nU cU] 26) = w1 at *
  have HM2 : Hid (MB2 lo w #[.int .u32 gn, .int .u32 tl, .slice aD nD cD, .slice aU nU cU] w2) := HM1.out.wro HL.out.1 hw
  have HO2 : Hid (Open w2 aU nU) := HO.out.2.keep (by rw [hw.size]; exact Nat.le_refl _) (hw.kept HP.out)
  have HA2 : Hid (At .i64 w2 aD (mks k nD)) := hA
  have HN2 : Hid (∀ j, j < w.heap.size → NotIn j aD → w2.heap[j]? = w.heap[j]?) := fun j hj h1 => (hw.block j (fun ad e => h1 ad e)).trans (HN1.out j hj)
  have x3 : w2.cell? ⟨w.heap.size, 3, none⟩ = some (.slice aU nU cU) := by rw [cell_of_row w2 w.heap.size 3 _ _ _ HM2.out.box]; rfl
  clear hA hw HM1 HO
  go_wp2_with fail
  refine (markI_any aU nU cU (k + nD) _ HO2.out (by omega) (by omega)).mono ?_
  rintro e w3 ⟨rfl, hA, hw⟩
  have HM3 : Hid (Below lo w w3) := (HM2.out.wro HL.out.2 hw).below
  have HA3 : Hid (At .i64 w3 aD (mks k nD) ∧ At .i64 w3 aU (mks (k + nD) nU)) := ⟨HA2.out.keep (by rw [hw.size]; exact Nat.le_refl _) (hw.kept (fun x y hx hy => (HP.out y x hy hx).symm)), hA⟩
  have HN3 : Hid (∀ j, j < w.heap.size → NotIn j aD → NotIn j aU → w3.heap[j]? = w.heap[j]?) := fun j hj h1 h2 => (hw.block j (fun ad e => h2 ad e)).trans (HN2.out j hj h1)
  clear hA hw HM2 HO2 HA2 x3
  go_wp2
  go_ret
  exact ⟨rfl, HA3.out.1, HA3.out.2, HM3.out, HN3.out⟩
set_option maxRecDepth 100000 in
set_option maxHeartbeats 1000000 in
theorem heldN_any (hD : At .i64 w aD (mks k nD)) (hU : At .i64 w aU (mks (k + nD) nU)) (hk : 0 ≤ k) (hk' : k + nD + nU ≤ 1099511627776) :
    Calls Try.prog 24 #[.agg #[.int .u32 gn, .int .u32 tl, .slice aD nD cD, .slice aU nU cU], .int .i64 k] w fun e w' => e = .returned (.int .i64 (k + nD + nU)) ∧ Below w.heap.size w w' := by
  have b1 := below_new w (.cells #[.int .u32 gn, .int .u32 tl, .slice aD nD cD, .slice aU nU cU] 26)
  have HB : Hid (Below w.heap.size w (w.alloc (.cells #[.int .u32 gn, .int .u32 tl, .slice aD nD cD, .slice aU nU cU] 26))) := b1
  have HA : Hid (At .i64 (w.alloc (.cells #[.int .u32 gn, .int .u32 tl, .slice aD nD cD, .slice aU nU cU] 26)) aD (mks k nD) ∧ At .i64 (w.alloc (.cells #[.int .u32 gn, .int .u32 tl, .slice aD nD cD, .slice aU nU cU] 26)) aU (mks (k + nD) nU)) := ⟨hD.below b1, hU.below b1⟩
  have g1 : ¬ (k + (nD : Int) < 0) := by omega
  have g2 : ¬ (k + (nD : Int) + nU < 0) := by omega
  clear hD hU b1
  go_enter Try.func24, Try.ntmps24
  go_wp2_with fail
  refine (heldI_any aD nD cD k _ HA.out.1 hk (by omega)).mono ?_
  rintro e w2 ⟨rfl, rfl⟩
  go_wp2_with fail
  refine (heldI_any aU nU cU (k + nD) _ HA.out.2 (by omega) (by omega)).mono ?_
  rintro e w3 ⟨rfl, rfl⟩
  go_wp2
  go_ret
  exact ⟨rfl, HB.out⟩
set_option maxRecDepth 100000 in
set_option maxHeartbeats 1000000 in
theorem markR_any (lo : Nat) (hlo : lo ≤ w.heap.size) (oD : Open w aD nD) (oU : Open w aU nU) (lD : Lies lo w aD) (lU : Lies lo w aU) (dU : Aprt aD aU) (hk : 0 ≤ k) (hk' : k + nD + nU ≤ 1099511627776) :
    Calls Try.prog 11 #[.agg #[.bool ok, .int .u32 gn, .int .u32 tl, .slice aD nD cD, .slice aU nU cU], .int .i64 k] w fun e w' => e = .returned (.int .i64 (k + nD + nU)) ∧ At .i64 w' aD (mks k nD) ∧ At .i64 w' aU (mks (k + nD) nU) ∧ Below lo w w' ∧ ∀ j, j < w.heap.size → NotIn j aD → NotIn j aU → w'.heap[j]? = w.heap[j]? := by
  have b1 := below_new w (.cells #[.bool ok, .int .u32 gn, .int .u32 tl, .slice aD nD cD, .slice aU nU cU] 28)
  have HC := markN_any gn tl aD aU nD cD nU cU k _ lo (Nat.le_trans hlo b1.size) (oD.below b1) (oU.below b1) (lD.mono (Nat.le_refl _) b1.size) (lU.mono (Nat.le_refl _) b1.size) dU hk hk'
  have HB1 : Hid (Below w.heap.size w (w.alloc (.cells #[.bool ok, .int .u32 gn, .int .u32 tl, .slice aD nD cD, .slice aU nU cU] 28))) := b1
  clear oD oU lD lU dU b1
  go_enter Try.func11, Try.ntmps11
  go_wp2_with fail
  refine HC.mono ?_
  rintro e w2 ⟨rfl, h1, h2, hb, hn⟩
  have HF : Hid (At .i64 w2 aD (mks k nD) ∧ At .i64 w2 aU (mks (k + nD) nU) ∧ Below lo w w2 ∧ ∀ j, j < w.heap.size → NotIn j aD → NotIn j aU → w2.heap[j]? = w.heap[j]?) :=
    ⟨h1, h2, (HB1.out.mono hlo).trans hb, fun j hj q1 q2 => (hn j (Nat.lt_of_lt_of_le hj HB1.out.size) q1 q2).trans (HB1.out.block j hj)⟩
  clear h1 h2 hb hn HC HB1
  go_wp2
  go_ret
  exact ⟨rfl, HF.out⟩
set_option maxRecDepth 100000 in
set_option maxHeartbeats 1000000 in
theorem heldR_any (hD : At .i64 w aD (mks k nD)) (hU : At .i64 w aU (mks (k + nD) nU)) (hk : 0 ≤ k) (hk' : k + nD + nU ≤ 1099511627776) :
    Calls Try.prog 12 #[.agg #[.bool ok, .int .u32 gn, .int .u32 tl, .slice aD nD cD, .slice aU nU cU], .int .i64 k] w fun e w' => e = .returned (.int .i64 (k + nD + nU)) ∧ Below w.heap.size w w' := by
  have b1 := below_new w (.cells #[.bool ok, .int .u32 gn, .int .u32 tl, .slice aD nD cD, .slice aU nU cU] 28)
  have HC := heldN_any gn tl aD aU nD cD nU cU k _ (hD.below b1) (hU.below b1) hk hk'
  have HB1 : Hid (Below w.heap.size w (w.alloc (.cells #[.bool ok, .int .u32 gn, .int .u32 tl, .slice aD nD cD, .slice aU nU cU] 28))) := b1
  have g3 : ¬ (k + (nD : Int) + nU < 0) := by omega
  clear hD hU b1
  go_enter Try.func12, Try.ntmps12
  go_wp2_with fail
  refine HC.mono ?_
  rintro e w2 ⟨rfl, hb⟩
  have HF : Hid (Below w.heap.size w w2) := HB1.out.trans (hb.mono HB1.out.size)
  clear hb HC HB1
  go_wp2
  go_ret
  exact ⟨rfl, HF.out⟩
end
set_option maxRecDepth 100000 in
set_option maxHeartbeats 1000000 in
theorem eqR_any (ok : Bool) (gn tl : Int) (aD bD aU bU : Option Addr) (nD cD dD nU cU dU : Nat) (D U : List Int) (w : World) (hD : D.length = nD) (hU : U.length = nU) (mD : nD ≤ 1048576) (mU : nU ≤ 1048576)
    (AD : At .i64 w aD D) (BD : At .i64 w bD D) (AU : At .i64 w aU U) (BU : At .i64 w bU U) :
    Calls Try.prog 8 #[.agg #[.bool ok, .int .u32 gn, .int .u32 tl, .slice aD nD cD, .slice aU nU cU], .agg #[.bool ok, .int .u32 gn, .int .u32 tl, .slice bD nD dD, .slice bU nU dU]] w fun e w' => e = .returned (.bool true) ∧ Below w.heap.size w w' := by
  have b1 : Below w.heap.size w ((w.alloc (.cells #[.bool ok, .int .u32 gn, .int .u32 tl, .slice aD nD cD, .slice aU nU cU] 28)).alloc (.cells #[.bool ok, .int .u32 gn, .int .u32 tl, .slice bD nD dD, .slice bU nU dU] 28)) := ((Below.refl _ _).alloc (Nat.le_refl _) _).alloc (by simp) _
  have HC := eqSn_any aD bD aU bU nD cD dD nU cU dU D U gn tl _ hD hU mD mU (AD.below b1) (BD.below b1) (AU.below b1) (BU.below b1)
  have HB1 : Hid (Below w.heap.size w ((w.alloc (.cells #[.bool ok, .int .u32 gn, .int .u32 tl, .slice aD nD cD, .slice aU nU cU] 28)).alloc (.cells #[.bool ok, .int .u32 gn, .int .u32 tl, .slice bD nD dD, .slice bU nU dU] 28))) := b1
  have ne : (ok != ok) = false := by simp
  clear AD BD AU BU b1 hD hU
  go_enter Try.func8, Try.ntmps8
  go_wp2_with fail
  refine HC.mono ?_
  rintro e w2 ⟨rfl, hb⟩
  have HF : Hid (Below w.heap.size w w2) := HB1.out.trans (hb.mono HB1.out.size)
  clear hb HC HB1
  go_wp2
  go_ret
  exact ⟨rfl, HF.out⟩
end Go.Proofs.Ytmnoelfabldpfaa
