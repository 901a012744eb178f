/-
  Own work: sizes of states (written by wip/mkeq.py).
-/
import Derived.Test.YthghkfncpdnpoadEqB
import Derived.Deep.Cut
namespace Go.Proofs.Ythghkfncpdnpoad
open Go.ChangeShapes Go.WideShapes Go.ChangeAt Go.RowKit
set_option linter.unusedVariables false

set_option maxRecDepth 100000 in
set_option maxHeartbeats 4000000 in
theorem szSt_any (aD aU aT : Option Addr) (nD cD nU cU nT cT : Nat) (k : Int) (left : Int) (w : World) (h0 : 0 ≤ left) (h1 : left ≤ 1048576) (mD : nD ≤ 9223372036854775807) (mU : nU ≤ 9223372036854775807) (mT : nT ≤ 9223372036854775807) :
    Calls Try.prog 11 #[.agg #[.slice aD nD cD, .slice aU nU cU, .int .i64 k, .slice aT nT cT], .int .i64 left] w fun e w' => e = .returned (.int .i64 (szQ left (nD + nU + nT))) ∧ Below w.heap.size w w' := by
  have HZ : Hid (∀ left n, szQ left n = if left < n then -1 else left - n) := fun _ _ => rfl
  have HE0 : Hid (OE w 29 #[.slice aD nD cD, .slice aU nU cU, .int .i64 k, .slice aT nT cT] (w.alloc (.cells #[.slice aD nD cD, .slice aU nU cU, .int .i64 k, .slice aT nT cT] 29))) := OE.start _ _ _
  go_enter Try.func11, Try.ntmps11
  go_wp2_with fail
  generalize (w.alloc (.cells #[.slice aD nD cD, .slice aU nU cU, .int .i64 k, .slice aT nT cT] 29)) = w0 at *
  refine (szI_any _ _ _ _ _ h0 h1 mD).mono ?_
  rintro e w1 ⟨rfl, rfl⟩
  have HE1 : Hid (OE w 29 #[.slice aD nD cD, .slice aU nU cU, .int .i64 k, .slice aT nT cT] w1) := HE0.out
  clear HE0
  by_cases k0 : left < ((nD : Nat) : Int)
  · have r : szQ (left) (nD) = -1 := by rw [HZ.out, if_pos k0]
    have HR : Hid (szQ left (nD + nU + nT) = -1) := by show _ = _; rw [HZ.out, if_pos (by omega)]
    have HF : Hid (Below w.heap.size w w1) := HE1.out.below
    rw [r]
    clear r k0 HE1
    go_wp2
    go_ret
    exact ⟨ret_int HR.out.symm, HF.out⟩
  have r : szQ (left) (nD) = left - ((nD : Nat) : Int) := by rw [HZ.out, if_neg k0]
  rw [r]
  clear r
  have q0 : ¬ (left - ((nD : Nat) : Int) < 0) := by omega
  have z0 : 0 ≤ left - ((nD : Nat) : Int) := by omega
  have zz0 : left - ((nD : Nat) : Int) ≤ 1048576 := by omega
  generalize el0 : left - ((nD : Nat) : Int) = l0 at *
  have HQ0 : Hid (left - ((nD : Nat) : Int) = l0) := el0
  clear el0
  have x1 : w1.cell? ⟨w.heap.size, 1, none⟩ = some (.slice aU nU cU) := by rw [cell_of_row w1 w.heap.size 1 _ _ _ HE1.out.b0]; rfl
  go_wp2_with fail
  clear x1 q0
  refine (szI_any _ _ _ _ _ z0 zz0 mU).mono ?_
  rintro e w2 ⟨rfl, rfl⟩
  have HE2 : Hid (OE w 29 #[.slice aD nD cD, .slice aU nU cU, .int .i64 k, .slice aT nT cT] w2) := HE1.out
  clear HE1
  by_cases k1 : l0 < ((nU : Nat) : Int)
  · have r : szQ (l0) (nU) = -1 := by rw [HZ.out, if_pos k1]
    have HR : Hid (szQ left (nD + nU + nT) = -1) := by show _ = _; have := HQ0.out; rw [HZ.out, if_pos (by omega)]
    have HF : Hid (Below w.heap.size w w2) := HE2.out.below
    rw [r]
    clear r k1 HE2
    go_wp2
    go_ret
    exact ⟨ret_int HR.out.symm, HF.out⟩
  have r : szQ (l0) (nU) = l0 - ((nU : Nat) : Int) := by rw [HZ.out, if_neg k1]
  rw [r]
  clear r
  have q1 : ¬ (l0 - ((nU : Nat) : Int) < 0) := by omega
  have z1 : 0 ≤ l0 - ((nU : Nat) : Int) := by omega
  have zz1 : l0 - ((nU : Nat) : Int) ≤ 1048576 := by omega
  generalize el1 : l0 - ((nU : Nat) : Int) = l1 at *
  have HQ1 : Hid (l0 - ((nU : Nat) : Int) = l1) := el1
  clear el1
  have x3 : w2.cell? ⟨w.heap.size, 3, none⟩ = some (.slice aT nT cT) := by rw [cell_of_row w2 w.heap.size 3 _ _ _ HE2.out.b0]; rfl
  go_wp2_with fail
  clear x3 q1
  refine (szT_any _ _ _ _ _ z1 zz1 mT).mono ?_
  rintro e w3 ⟨rfl, rfl⟩
  have HE3 : Hid (OE w 29 #[.slice aD nD cD, .slice aU nU cU, .int .i64 k, .slice aT nT cT] w3) := HE2.out
  clear HE2
  by_cases k2 : l1 < ((nT : Nat) : Int)
  · have r : szQ (l1) (nT) = -1 := by rw [HZ.out, if_pos k2]
    have HR : Hid (szQ left (nD + nU + nT) = -1) := by show _ = _; have := HQ0.out; have := HQ1.out; rw [HZ.out, if_pos (by omega)]
    have HF : Hid (Below w.heap.size w w3) := HE3.out.below
    rw [r]
    clear r k2 HE3
    go_wp2
    go_ret
    exact ⟨ret_int HR.out.symm, HF.out⟩
  have r : szQ (l1) (nT) = l1 - ((nT : Nat) : Int) := by rw [HZ.out, if_neg k2]
  rw [r]
  clear r
  have q2 : ¬ (l1 - ((nT : Nat) : Int) < 0) := by omega
  have z2 : 0 ≤ l1 - ((nT : Nat) : Int) := by omega
  have zz2 : l1 - ((nT : Nat) : Int) ≤ 1048576 := by omega
  generalize el2 : l1 - ((nT : Nat) : Int) = l2 at *
  have HQ2 : Hid (l1 - ((nT : Nat) : Int) = l2) := el2
  clear el2
  have HR : Hid (szQ left (nD + nU + nT) = l2) := by show _ = _; rw [HZ.out]; have := HQ0.out; have := HQ1.out; have := HQ2.out; rw [if_neg (by omega)]; omega
  have HF : Hid (Below w.heap.size w w3) := HE3.out.below
  clear HE3
  go_wp2
  go_ret
  exact ⟨ret_int HR.out.symm, HF.out⟩
end Go.Proofs.Ythghkfncpdnpoad
