/-
  Own work: what the laws do with answers of ApplyFrame.
-/
import Derived.Test.YthghkfncpdnpoadSwL
import Derived.Test.YthghkfncpdnpoadMEqB
import Derived.Test.YthghkfncpdnpoadToSt
import Derived.Test.YthghkfncpdnpoadSzSt
import Derived.Test.YthghkfncpdnpoadRegF
namespace Go.Proofs.Ythghkfncpdnpoad
open Go.ChangeShapes Go.WideShapes Go.ChangeAt Go.RowKit
set_option linter.unusedVariables false

theorem SerP.len {xs : List Int} (h : SerP xs) : xs.length ≤ 256 := by
  have e := h.eq_upTo (fun v => decide ((v : Int) ∈ xs)) (fun v _ => by simp)
  rw [← e]; exact upTo_len _ _
theorem apR_T {D U : List Int} {k : Int} {T : List Int} {n : Nat} {kind : Int} {a b : Nat} : (apR D U k T n kind a b).T.length ≤ T.length + 2 := by
  unfold apR
  split
  · split
    · simp
    · simp [apNo]
  · split
    · split
      · simp
      · split
        · simp
        · simp [apNo]
    · split
      · split
        · simp; omega
        · simp [apNo]
      · simp [apNo]
theorem apF_len {D U : List Int} {k : Int} {T : List Int} {n : Nat} {kind : Int} {a b : Nat} (hT : T.length = n * 2) : (apF D U k T n kind a b).D.length ≤ 256 ∧ (apF D U k T n kind a b).U.length ≤ 256 ∧ (apF D U k T n kind a b).T.length ≤ 514 := by
  unfold apF
  split
  · rename_i h
    have hs := stP_of h
    have h1 := apR_ser (k := k) (T := T) (n := n) (kind := kind) (a := a) (b := b) hs.1 hs.2.2.1
    have h2 := hs.2.2.1.len
    have h3 := hs.2.2.2.2.1
    have h4 := hs.2.2.2.1
    refine ⟨h1.1.len, h1.2.len, Nat.le_trans apR_T ?_⟩
    omega
  · simp [apNo]
section
variable (ok : Bool) (aD aU aT : Option Addr) (nD cD nU cU nT cT : Nat) (k0 k : Int) (w : World)
set_option maxRecDepth 100000 in
set_option maxHeartbeats 1000000 in
theorem markA_any (lo : Nat) (hlo : lo ≤ w.heap.size)
    (oD : Open w aD nD) (oU : Open w aU nU) (oT : Open w aT (nT * 2)) (lD : Lies lo w aD) (lU : Lies lo w aU) (lT : Lies lo w aT) (dU : Aprt aD aU) (dT : Aprt aD aT) (uT : Aprt aU aT) (hk : 0 ≤ k) (hk' : k + nD + nU + nT * 2 ≤ 1099511627776) :
    Calls Try.prog 19 #[.agg #[.bool ok, .slice aD nD cD, .slice aU nU cU, .int .i64 k0, .slice aT nT cT], .int .i64 k] w fun e w' => e = .returned (.int .i64 (k + nD + nU + nT * 2)) ∧ At .i64 w' aD (mks k nD) ∧ At .i64 w' aU (mks (k + nD) nU) ∧ At .i64 w' aT (mks (k + nD + nU) (nT * 2)) ∧ Below lo w w' ∧ ∀ j, j < w.heap.size → NotIn j aD → NotIn j aU → NotIn j aT → w'.heap[j]? = w.heap[j]? := by
  have b1 : Below w.heap.size w (w.alloc (.cells #[.bool ok, .slice aD nD cD, .slice aU nU cU, .int .i64 k0, .slice aT nT cT] 48)) := (Below.refl _ _).alloc (Nat.le_refl _) _
  have HC := markS_any aD aU aT nD cD nU cU nT cT k0 k _ lo (Nat.le_trans hlo b1.size) (oD.below b1) (oU.below b1) (oT.below b1) (lD.mono (Nat.le_refl _) b1.size) (lU.mono (Nat.le_refl _) b1.size) (lT.mono (Nat.le_refl _) b1.size) dU dT uT hk hk'
  have HB1 : Hid (Below w.heap.size w (w.alloc (.cells #[.bool ok, .slice aD nD cD, .slice aU nU cU, .int .i64 k0, .slice aT nT cT] 48))) := b1
  clear oD oU oT lD lU lT dU dT uT b1
  go_enter Try.func19, Try.ntmps19
  go_wp2_with fail
  refine HC.mono ?_
  rintro e w2 ⟨rfl, h1, h2, h3, hb, hn⟩
  have HF : Hid (At .i64 w2 aD (mks k nD) ∧ At .i64 w2 aU (mks (k + nD) nU) ∧ At .i64 w2 aT (mks (k + nD + nU) (nT * 2)) ∧ Below lo w w2 ∧ ∀ j, j < w.heap.size → NotIn j aD → NotIn j aU → NotIn j aT → w2.heap[j]? = w.heap[j]?) :=
    ⟨h1, h2, h3, (HB1.out.mono hlo).trans hb, fun j hj q1 q2 q3 => (hn j (Nat.lt_of_lt_of_le hj HB1.out.size) q1 q2 q3).trans (HB1.out.block j hj)⟩
  clear h1 h2 h3 hb hn HC HB1
  go_wp2
  go_ret
  exact ⟨rfl, HF.out⟩
set_option maxRecDepth 100000 in
set_option maxHeartbeats 1000000 in
theorem heldA_any (hD : At .i64 w aD (mks k nD)) (hU : At .i64 w aU (mks (k + nD) nU)) (hT : At .i64 w aT (mks (k + nD + nU) (nT * 2))) (hk : 0 ≤ k) (hk' : k + nD + nU + nT * 2 ≤ 1099511627776) :
    Calls Try.prog 20 #[.agg #[.bool ok, .slice aD nD cD, .slice aU nU cU, .int .i64 k0, .slice aT nT cT], .int .i64 k] w fun e w' => e = .returned (.int .i64 (k + nD + nU + nT * 2)) ∧ Below w.heap.size w w' := by
  have b1 : Below w.heap.size w (w.alloc (.cells #[.bool ok, .slice aD nD cD, .slice aU nU cU, .int .i64 k0, .slice aT nT cT] 48)) := (Below.refl _ _).alloc (Nat.le_refl _) _
  have HC := heldS_any aD aU aT nD cD nU cU nT cT k0 k _ (hD.below b1) (hU.below b1) (hT.below b1) hk hk'
  have HB1 : Hid (Below w.heap.size w (w.alloc (.cells #[.bool ok, .slice aD nD cD, .slice aU nU cU, .int .i64 k0, .slice aT nT cT] 48))) := b1
  have g3 : ¬ (k + (nD : Int) + nU + nT * 2 < 0) := by omega
  clear hD hU hT b1
  go_enter Try.func20, Try.ntmps20
  go_wp2_with fail
  refine HC.mono ?_
  rintro e w2 ⟨rfl, hb⟩
  have HF : Hid (Below w.heap.size w w2) := HB1.out.trans (hb.mono HB1.out.size)
  clear hb HC HB1
  go_wp2
  go_ret
  exact ⟨rfl, HF.out⟩
end
set_option maxRecDepth 100000 in
set_option maxHeartbeats 1000000 in
theorem eqA_any (ok : Bool) (aD bD aU bU aT bT : Option Addr) (nD cD dD nU cU dU nT cT dT : Nat) (D U T : List Int) (k : Int) (w : World) (hD : D.length = nD) (hU : U.length = nU) (hT : T.length = nT * 2) (mD : nD ≤ 1048576) (mU : nU ≤ 1048576) (mT : nT ≤ 1048576)
    (AD : At .i64 w aD D) (BD : At .i64 w bD D) (AU : At .i64 w aU U) (BU : At .i64 w bU U) (AT : At .i64 w aT T) (BT : At .i64 w bT T) :
    Calls Try.prog 16 #[.agg #[.bool ok, .slice aD nD cD, .slice aU nU cU, .int .i64 k, .slice aT nT cT], .agg #[.bool ok, .slice bD nD dD, .slice bU nU dU, .int .i64 k, .slice bT nT dT]] w fun e w' => e = .returned (.bool true) ∧ Below w.heap.size w w' := by
  have b1 : Below w.heap.size w ((w.alloc (.cells #[.bool ok, .slice aD nD cD, .slice aU nU cU, .int .i64 k, .slice aT nT cT] 48)).alloc (.cells #[.bool ok, .slice bD nD dD, .slice bU nU dU, .int .i64 k, .slice bT nT dT] 48)) := ((Below.refl _ _).alloc (Nat.le_refl _) _).alloc (by simp) _
  have HC := eqSt_any aD bD aU bU aT bT nD cD dD nU cU dU nT cT dT D U T k _ hD hU hT mD mU mT (AD.below b1) (BD.below b1) (AU.below b1) (BU.below b1) (AT.below b1) (BT.below b1)
  have HB1 : Hid (Below w.heap.size w ((w.alloc (.cells #[.bool ok, .slice aD nD cD, .slice aU nU cU, .int .i64 k, .slice aT nT cT] 48)).alloc (.cells #[.bool ok, .slice bD nD dD, .slice bU nU dU, .int .i64 k, .slice bT nT dT] 48))) := b1
  have ne : (ok != ok) = false := by simp
  clear AD BD AU BU AT BT b1 hD hU hT
  go_enter Try.func16, Try.ntmps16
  go_wp2_with fail
  refine HC.mono ?_
  rintro e w2 ⟨rfl, hb⟩
  have HF : Hid (Below w.heap.size w w2) := HB1.out.trans (hb.mono HB1.out.size)
  clear hb HC HB1
  go_wp2
  go_ret
  exact ⟨rfl, HF.out⟩
end Go.Proofs.Ythghkfncpdnpoad
