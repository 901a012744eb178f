/-
  Own work: the program's step of fuel; the guard against a loss of power.
-/
import Derived.Test.YtiignammhieidaaStp
import Derived.Defers
import Derived.Recover
import Derived.WalkLawsBesides
namespace Go.Proofs.Ytiignammhieidaa
open Go.ChangeShapes Go.WideShapes Go.ChangeAt Go.RowKit
set_option linter.unusedVariables false

def lossV : Value := .iface 62 (.agg #[])
set_option maxHeartbeats 400000 in
set_option maxRecDepth 100000 in
theorem burn_yes (D : Nat) (a b : Value) (f : Int) (d : Bool) (w : World) (h : w.heap[D]? = some (.cells #[a, b, .int .i64 f, .bool d] 29 (0, 0))) (hf : f = -1 ∨ 0 < f) (hf2 : f ≤ 9223372036854775807) :
    Calls Try.prog 42 #[.pointer (some ⟨D, 0, none⟩)] w fun e w' => e = .returned (.tuple #[]) ∧ w'.heap[D]? = some (.cells #[a, b, .int .i64 (stF f), .bool d] 29 (0, 0)) ∧ Wr D w w' := by
  obtain ⟨c0, c1, c2, c3⟩ := row4 h
  have f2 := frozen_of_row w D 2 _ _ h
  rcases hf with rfl | hf
  · have HH : Hid _ := h
    clear h
    go_enter Try.func42, Try.ntmps42
    go_wp2
    first | go_end0 | go_ret
    exact ⟨rfl, HH.out, Wr.refl _ _⟩
  · have e1 : stF f = f - 1 := by unfold stF; rw [if_pos hf]
    have hne : (f == 0) = false := by simp; omega
    have hne1 : (f != -1) = true := by simp; omega
    have hwr : IntKind.i64.wrap (f - 1) = f - 1 := by rw [IntKind.wrap_i64]; omega
    have HH : Hid ((w.setCell ⟨D, 2, none⟩ (.int .i64 (f - 1))).heap[D]? = some (.cells #[a, b, .int .i64 (stF f), .bool d] 29 (0, 0))) := by
      unfold Hid; rw [e1]; exact row_setCell (i := 2) _ h rfl
    have HW : Hid (Wr D w (w.setCell ⟨D, 2, none⟩ (.int .i64 (f - 1)))) := (Wr.refl D w).setCell 2 _
    clear h e1
    go_enter Try.func42, Try.ntmps42
    go_wp2
    first | go_end0 | go_ret
    exact ⟨rfl, HH.out, HW.out⟩
set_option maxHeartbeats 400000 in
set_option maxRecDepth 100000 in
theorem burn_no (D : Nat) (a b : Value) (d : Bool) (w : World) (h : w.heap[D]? = some (.cells #[a, b, .int .i64 0, .bool d] 29 (0, 0))) :
    Calls Try.prog 42 #[.pointer (some ⟨D, 0, none⟩)] w fun e w' => e = .panicked [{ v := lossV, recovered := false }] ∧ w'.heap[D]? = some (.cells #[a, b, .int .i64 0, .bool true] 29 (0, 0)) ∧ Wr D w w' := by
  obtain ⟨c0, c1, c2, c3⟩ := row4 h
  have f3 := frozen_of_row w D 3 _ _ h
  have HH : Hid ((w.setCell ⟨D, 3, none⟩ (.bool true)).heap[D]? = some (.cells #[a, b, .int .i64 0, .bool true] 29 (0, 0))) := row_setCell (i := 3) _ h rfl
  have HW : Hid (Wr D w (w.setCell ⟨D, 3, none⟩ (.bool true))) := (Wr.refl D w).setCell 3 _
  clear h
  go_enter Try.func42, Try.ntmps42
  go_wp2
  exact ⟨rfl, rfl, HH.out, HW.out⟩

theorem Try.infoPL : (Try.prog.info? 62).map (fun i => (i.zero, i.size, i.bytes)) = some (some (.agg #[]), 0, 0) := by kernel_rfl
theorem run_taNil (xT : TypeId) (w : World) : (Instr.typeAssert Value.nilIface xT 62 true).run Try.prog w = .ok (.tuple #[.agg #[], .bool false]) w := by
  obtain ⟨i0, hi, hz0, hz1, hz2⟩ := info_parts Try.infoPL
  simp [Instr.typeAssert, run_underlying Try.underlying62, zeroValue, typeInfo, hi, hz0]
theorem run_taYes (xT : TypeId) (w : World) : (Instr.typeAssert (.iface 62 (.agg #[])) xT 62 true).run Try.prog w = .ok (.tuple #[.agg #[], .bool true]) w := by
  simp [Instr.typeAssert, run_underlying Try.underlying62]
set_option maxHeartbeats 400000 in
set_option maxRecDepth 100000 in
theorem ipl_nil (w : World) : Calls Try.prog 41 #[.nilIface] w fun e w' => e = .returned (.bool false) ∧ Below w.heap.size w w' := by
  have h1 := run_taNil
  go_enter Try.func41, Try.ntmps41
  go_wp2
  go_ret
  exact ⟨rfl, (Below.refl _ _).alloc (Nat.le_refl _) _⟩
set_option maxHeartbeats 400000 in
set_option maxRecDepth 100000 in
theorem ipl_loss (w : World) : Calls Try.prog 41 #[lossV] w fun e w' => e = .returned (.bool true) ∧ Below w.heap.size w w' := by
  unfold lossV
  have h1 := run_taYes
  go_enter Try.func41, Try.ntmps41
  go_wp2
  go_ret
  exact ⟨rfl, (Below.refl _ _).alloc (Nat.le_refl _) _⟩
set_option maxHeartbeats 400000 in
set_option maxRecDepth 100000 in
theorem catch_idle (w : World) :
    CallsD Try.prog 40 #[] .returning w fun e u' w' => e = .returned (.tuple #[]) ∧ u' = .returning ∧ Below w.heap.size w w' := by
  refine callsD_of_wpS Try.func40 rfl fun c₀ cs hu => ?_
  apply wpS_region
  simp [wpOpsS, go_sem, recoverD, hu, Try.ntmps40]
  refine (ipl_nil w).mono ?_
  rintro e w' ⟨rfl, hb⟩
  exact ⟨rfl, .returning, by rw [← hu], .tuple #[], results_none rfl _ _ _, rfl, rfl, hb⟩
set_option maxHeartbeats 400000 in
set_option maxRecDepth 100000 in
theorem catch_loss (w : World) :
    CallsD Try.prog 40 #[] (.panicking [{ v := lossV, recovered := false }]) w fun e u' w' => e = .returned (.tuple #[]) ∧ u' = .panicking [{ v := lossV, recovered := true }] ∧ Below w.heap.size w w' := by
  refine callsD_of_wpS Try.func40 rfl fun c₀ cs hu => ?_
  unfold lossV at *
  apply wpS_region
  simp [wpOpsS, go_sem, recoverD, hu, Try.ntmps40]
  refine (ipl_loss w).mono ?_
  rintro e w' ⟨rfl, hb⟩
  exact ⟨rfl, _, rfl, .tuple #[], results_none rfl _ _ _, rfl, rfl, hb⟩
set_option maxHeartbeats 400000 in
set_option maxRecDepth 100000 in
theorem upl_any (F : Nat) (A : Nat) (w : World) (R : World → Prop) (h : Calls Try.prog 36 #[.pointer (some ⟨A, 0, none⟩)] w fun e w' => (e = .returned (.tuple #[]) ∨ e = .panicked [{ v := lossV, recovered := false }]) ∧ R w') :
    Calls Try.prog 27 #[.func (Fn.func 36) #[.pointer (some ⟨A, 0, none⟩)] #[]] w fun e w' => e = .returned (.tuple #[]) ∧ ∃ w1, R w1 ∧ Below w1.heap.size w1 w' := by
  have hmf : ∀ (fn : Fn) (first cap : Array Value) (w : World), (Instr.makeFunc fn first cap).run Try.prog w = .ok (.func fn first cap) w := fun _ _ _ _ => rfl
  go_enter_defers Try.func27, Try.ntmps27
  go_wp2_with fail
  refine h.mono ?_
  clear h
  rintro e w1 ⟨rfl | rfl, hR⟩
  · have HR : Hid _ := hR
    clear hR
    go_wp2
    refine leaves_cons (f := 40) (args := #[]) (by simp) (by simp [go_sem]) ?_
    refine (catch_idle _).mono ?_
    rintro e u' w'' ⟨rfl, rfl, hb⟩
    have hfin : ∃ w1, R w1 ∧ Below w1.heap.size w1 w'' := ⟨w1, HR.out, hb⟩
    simp [Leaves, settle, results, Try.results27, go_sem]
    exact hfin
  · have HR : Hid _ := hR
    clear hR
    refine leaves_cons (f := 40) (args := #[]) (by simp) (by simp [go_sem]) ?_
    refine (catch_loss _).mono ?_
    rintro e u' w'' ⟨rfl, rfl, hb⟩
    have hfin : ∃ w1, R w1 ∧ Below w1.heap.size w1 w'' := ⟨w1, HR.out, hb⟩
    simp [Leaves, settle, results, Try.results27, go_sem]
    exact hfin
end Go.Proofs.Ytiignammhieidaa
