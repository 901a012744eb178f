/-
  Own work: sizes of images (written by wip/mkeq.py).
-/
import Derived.Test.YthghkfncpdnpoadSzSn
import Derived.Test.YthghkfncpdnpoadSzSt
import Derived.Test.YthghkfncpdnpoadFrS
import Derived.Deep.Cut
namespace Go.Proofs.Ythghkfncpdnpoad
open Go.ChangeShapes Go.WideShapes Go.ChangeAt Go.RowKit
set_option linter.unusedVariables false

set_option maxRecDepth 100000 in
set_option maxHeartbeats 4000000 in
theorem szIm_any (asD asU aF azD azU azT : Option Addr) (nsD csD nsU csU nF cF nzD czD nzU czU nzT czT : Nat) (sgn stl zk nx : Int) (ok : Bool) (left : Int) (w : World) (h0 : 0 ≤ left) (h1 : left ≤ 1048576) (msD : nsD ≤ 9223372036854775807) (msU : nsU ≤ 9223372036854775807) (mF : nF ≤ 9223372036854775807) (mzD : nzD ≤ 9223372036854775807) (mzU : nzU ≤ 9223372036854775807) (mzT : nzT ≤ 9223372036854775807) :
    Calls Try.prog 6 #[.agg #[.bool ok, .int .u32 sgn, .int .u32 stl, .slice asD nsD csD, .slice asU nsU csU, .slice aF nF cF, .slice azD nzD czD, .slice azU nzU czU, .int .i64 zk, .slice azT nzT czT, .int .u32 nx], .int .i64 left] w fun e w' => e = .returned (.int .i64 (szQ left (nsD + nsU + nF + nzD + nzU + nzT))) ∧ Below w.heap.size w w' := by
  have HZ : Hid (∀ left n, szQ left n = if left < n then -1 else left - n) := fun _ _ => rfl
  have HE0 : Hid (OE w 31 #[.bool ok, .int .u32 sgn, .int .u32 stl, .slice asD nsD csD, .slice asU nsU csU, .slice aF nF cF, .slice azD nzD czD, .slice azU nzU czU, .int .i64 zk, .slice azT nzT czT, .int .u32 nx] (w.alloc (.cells #[.bool ok, .int .u32 sgn, .int .u32 stl, .slice asD nsD csD, .slice asU nsU csU, .slice aF nF cF, .slice azD nzD czD, .slice azU nzU czU, .int .i64 zk, .slice azT nzT czT, .int .u32 nx] 31))) := OE.start _ _ _
  go_enter Try.func6, Try.ntmps6
  go_wp2_with fail
  generalize (w.alloc (.cells #[.bool ok, .int .u32 sgn, .int .u32 stl, .slice asD nsD csD, .slice asU nsU csU, .slice aF nF cF, .slice azD nzD czD, .slice azU nzU czU, .int .i64 zk, .slice azT nzT czT, .int .u32 nx] 31)) = w0 at *
  refine (szSn_any asD asU nsD csD nsU csU sgn stl  _ _ h0 h1 msD msU).mono ?_
  rintro e w1 ⟨rfl, hb⟩
  have HE1 : Hid (OE w 31 #[.bool ok, .int .u32 sgn, .int .u32 stl, .slice asD nsD csD, .slice asU nsU csU, .slice aF nF cF, .slice azD nzD czD, .slice azU nzU czU, .int .i64 zk, .slice azT nzT czT, .int .u32 nx] w1) := HE0.out.call hb
  clear HE0 hb
  by_cases k0 : left < ((nsD + nsU : Nat) : Int)
  · have r : szQ (left) (nsD + nsU) = -1 := by rw [HZ.out, if_pos k0]
    have HR : Hid (szQ left (nsD + nsU + nF + nzD + nzU + nzT) = -1) := by show _ = _; rw [HZ.out, if_pos (by omega)]
    have HF : Hid (Below w.heap.size w w1) := HE1.out.below
    rw [r]
    clear r k0 HE1
    go_wp2
    go_ret
    exact ⟨ret_int HR.out.symm, HF.out⟩
  have r : szQ (left) (nsD + nsU) = left - ((nsD + nsU : Nat) : Int) := by rw [HZ.out, if_neg k0]
  rw [r]
  clear r
  have q0 : ¬ (left - ((nsD + nsU : Nat) : Int) < 0) := by omega
  have z0 : 0 ≤ left - ((nsD + nsU : Nat) : Int) := by omega
  have zz0 : left - ((nsD + nsU : Nat) : Int) ≤ 1048576 := by omega
  generalize el0 : left - ((nsD + nsU : Nat) : Int) = l0 at *
  have HQ0 : Hid (left - ((nsD + nsU : Nat) : Int) = l0) := el0
  clear el0
  have x5 : w1.cell? ⟨w.heap.size, 5, none⟩ = some (.slice aF nF cF) := by rw [cell_of_row w1 w.heap.size 5 _ _ _ HE1.out.b0]; rfl
  go_wp2_with fail
  clear x5 q0
  refine (szF_any _ _ _ _ _ z0 zz0 mF).mono ?_
  rintro e w2 ⟨rfl, rfl⟩
  have HE2 : Hid (OE w 31 #[.bool ok, .int .u32 sgn, .int .u32 stl, .slice asD nsD csD, .slice asU nsU csU, .slice aF nF cF, .slice azD nzD czD, .slice azU nzU czU, .int .i64 zk, .slice azT nzT czT, .int .u32 nx] w2) := HE1.out
  clear HE1
  by_cases k1 : l0 < ((nF : Nat) : Int)
  · have r : szQ (l0) (nF) = -1 := by rw [HZ.out, if_pos k1]
    have HR : Hid (szQ left (nsD + nsU + nF + nzD + nzU + nzT) = -1) := by show _ = _; have := HQ0.out; rw [HZ.out, if_pos (by omega)]
    have HF : Hid (Below w.heap.size w w2) := HE2.out.below
    rw [r]
    clear r k1 HE2
    go_wp2
    go_ret
    exact ⟨ret_int HR.out.symm, HF.out⟩
  have r : szQ (l0) (nF) = l0 - ((nF : Nat) : Int) := by rw [HZ.out, if_neg k1]
  rw [r]
  clear r
  have q1 : ¬ (l0 - ((nF : Nat) : Int) < 0) := by omega
  have z1 : 0 ≤ l0 - ((nF : Nat) : Int) := by omega
  have zz1 : l0 - ((nF : Nat) : Int) ≤ 1048576 := by omega
  generalize el1 : l0 - ((nF : Nat) : Int) = l1 at *
  have HQ1 : Hid (l0 - ((nF : Nat) : Int) = l1) := el1
  clear el1
  have x6 : w2.cell? ⟨w.heap.size, 6, none⟩ = some (.slice azD nzD czD) := by rw [cell_of_row w2 w.heap.size 6 _ _ _ HE2.out.b0]; rfl
  have x7 : w2.cell? ⟨w.heap.size, 7, none⟩ = some (.slice azU nzU czU) := by rw [cell_of_row w2 w.heap.size 7 _ _ _ HE2.out.b0]; rfl
  have x8 : w2.cell? ⟨w.heap.size, 8, none⟩ = some (.int .i64 zk) := by rw [cell_of_row w2 w.heap.size 8 _ _ _ HE2.out.b0]; rfl
  have x9 : w2.cell? ⟨w.heap.size, 9, none⟩ = some (.slice azT nzT czT) := by rw [cell_of_row w2 w.heap.size 9 _ _ _ HE2.out.b0]; rfl
  go_wp2_with fail
  clear x6 x7 x8 x9 q1
  refine (szSt_any azD azU azT nzD czD nzU czU nzT czT zk  _ _ z1 zz1 mzD mzU mzT).mono ?_
  rintro e w3 ⟨rfl, hb⟩
  have HE3 : Hid (OE w 31 #[.bool ok, .int .u32 sgn, .int .u32 stl, .slice asD nsD csD, .slice asU nsU csU, .slice aF nF cF, .slice azD nzD czD, .slice azU nzU czU, .int .i64 zk, .slice azT nzT czT, .int .u32 nx] w3) := HE2.out.call hb
  clear HE2 hb
  by_cases k2 : l1 < ((nzD + nzU + nzT : Nat) : Int)
  · have r : szQ (l1) (nzD + nzU + nzT) = -1 := by rw [HZ.out, if_pos k2]
    have HR : Hid (szQ left (nsD + nsU + nF + nzD + nzU + nzT) = -1) := by show _ = _; have := HQ0.out; have := HQ1.out; rw [HZ.out, if_pos (by omega)]
    have HF : Hid (Below w.heap.size w w3) := HE3.out.below
    rw [r]
    clear r k2 HE3
    go_wp2
    go_ret
    exact ⟨ret_int HR.out.symm, HF.out⟩
  have r : szQ (l1) (nzD + nzU + nzT) = l1 - ((nzD + nzU + nzT : Nat) : Int) := by rw [HZ.out, if_neg k2]
  rw [r]
  clear r
  have q2 : ¬ (l1 - ((nzD + nzU + nzT : Nat) : Int) < 0) := by omega
  have z2 : 0 ≤ l1 - ((nzD + nzU + nzT : Nat) : Int) := by omega
  have zz2 : l1 - ((nzD + nzU + nzT : Nat) : Int) ≤ 1048576 := by omega
  generalize el2 : l1 - ((nzD + nzU + nzT : Nat) : Int) = l2 at *
  have HQ2 : Hid (l1 - ((nzD + nzU + nzT : Nat) : Int) = l2) := el2
  clear el2
  have HR : Hid (szQ left (nsD + nsU + nF + nzD + nzU + nzT) = l2) := by show _ = _; rw [HZ.out]; have := HQ0.out; have := HQ1.out; have := HQ2.out; rw [if_neg (by omega)]; omega
  have HF : Hid (Below w.heap.size w w3) := HE3.out.below
  clear HE3
  go_wp2
  go_ret
  exact ⟨ret_int HR.out.symm, HF.out⟩
end Go.Proofs.Ythghkfncpdnpoad
