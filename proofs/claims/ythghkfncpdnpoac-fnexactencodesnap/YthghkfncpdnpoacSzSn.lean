/-
  Own work: sizes of snaps (written by wip/mkeq.py).
-/
import Derived.Test.YthghkfncpdnpoacEqB
import Derived.Deep.Cut
namespace Go.Proofs.Ythghkfncpdnpoac
open Go.ChangeShapes Go.WideShapes Go.ChangeAt Go.RowKit
set_option linter.unusedVariables false

set_option maxRecDepth 100000 in
set_option maxHeartbeats 4000000 in
theorem szSn_any (aD aU : Option Addr) (nD cD nU cU : Nat) (gn tl : Int) (left : Int) (w : World) (h0 : 0 ≤ left) (h1 : left ≤ 1048576) (mD : nD ≤ 9223372036854775807) (mU : nU ≤ 9223372036854775807) :
    Calls Try.prog 31 #[.agg #[.int .u32 gn, .int .u32 tl, .slice aD nD cD, .slice aU nU cU], .int .i64 left] w fun e w' => e = .returned (.int .i64 (szQ left (nD + nU))) ∧ Below w.heap.size w w' := by
  have HZ : Hid (∀ left n, szQ left n = if left < n then -1 else left - n) := fun _ _ => rfl
  have HE0 : Hid (OE w 50 #[.int .u32 gn, .int .u32 tl, .slice aD nD cD, .slice aU nU cU] (w.alloc (.cells #[.int .u32 gn, .int .u32 tl, .slice aD nD cD, .slice aU nU cU] 50))) := OE.start _ _ _
  go_enter Try.func31, Try.ntmps31
  go_wp2_with fail
  generalize (w.alloc (.cells #[.int .u32 gn, .int .u32 tl, .slice aD nD cD, .slice aU nU cU] 50)) = w0 at *
  refine (szI_any _ _ _ _ _ h0 h1 mD).mono ?_
  rintro e w1 ⟨rfl, rfl⟩
  have HE1 : Hid (OE w 50 #[.int .u32 gn, .int .u32 tl, .slice aD nD cD, .slice aU nU cU] w1) := HE0.out
  clear HE0
  by_cases k0 : left < ((nD : Nat) : Int)
  · have r : szQ (left) (nD) = -1 := by rw [HZ.out, if_pos k0]
    have HR : Hid (szQ left (nD + nU) = -1) := by show _ = _; rw [HZ.out, if_pos (by omega)]
    have HF : Hid (Below w.heap.size w w1) := HE1.out.below
    rw [r]
    clear r k0 HE1
    go_wp2
    go_ret
    exact ⟨ret_int HR.out.symm, HF.out⟩
  have r : szQ (left) (nD) = left - ((nD : Nat) : Int) := by rw [HZ.out, if_neg k0]
  rw [r]
  clear r
  have q0 : ¬ (left - ((nD : Nat) : Int) < 0) := by omega
  have z0 : 0 ≤ left - ((nD : Nat) : Int) := by omega
  have zz0 : left - ((nD : Nat) : Int) ≤ 1048576 := by omega
  generalize el0 : left - ((nD : Nat) : Int) = l0 at *
  have HQ0 : Hid (left - ((nD : Nat) : Int) = l0) := el0
  clear el0
  have x3 : w1.cell? ⟨w.heap.size, 3, none⟩ = some (.slice aU nU cU) := by rw [cell_of_row w1 w.heap.size 3 _ _ _ HE1.out.b0]; rfl
  go_wp2_with fail
  clear x3 q0
  refine (szI_any _ _ _ _ _ z0 zz0 mU).mono ?_
  rintro e w2 ⟨rfl, rfl⟩
  have HE2 : Hid (OE w 50 #[.int .u32 gn, .int .u32 tl, .slice aD nD cD, .slice aU nU cU] w2) := HE1.out
  clear HE1
  by_cases k1 : l0 < ((nU : Nat) : Int)
  · have r : szQ (l0) (nU) = -1 := by rw [HZ.out, if_pos k1]
    have HR : Hid (szQ left (nD + nU) = -1) := by show _ = _; have := HQ0.out; rw [HZ.out, if_pos (by omega)]
    have HF : Hid (Below w.heap.size w w2) := HE2.out.below
    rw [r]
    clear r k1 HE2
    go_wp2
    go_ret
    exact ⟨ret_int HR.out.symm, HF.out⟩
  have r : szQ (l0) (nU) = l0 - ((nU : Nat) : Int) := by rw [HZ.out, if_neg k1]
  rw [r]
  clear r
  have q1 : ¬ (l0 - ((nU : Nat) : Int) < 0) := by omega
  have z1 : 0 ≤ l0 - ((nU : Nat) : Int) := by omega
  have zz1 : l0 - ((nU : Nat) : Int) ≤ 1048576 := by omega
  generalize el1 : l0 - ((nU : Nat) : Int) = l1 at *
  have HQ1 : Hid (l0 - ((nU : Nat) : Int) = l1) := el1
  clear el1
  have HR : Hid (szQ left (nD + nU) = l1) := by show _ = _; rw [HZ.out]; have := HQ0.out; have := HQ1.out; rw [if_neg (by omega)]; omega
  have HF : Hid (Below w.heap.size w w2) := HE2.out.below
  clear HE2
  go_wp2
  go_ret
  exact ⟨ret_int HR.out.symm, HF.out⟩
end Go.Proofs.Ythghkfncpdnpoac
