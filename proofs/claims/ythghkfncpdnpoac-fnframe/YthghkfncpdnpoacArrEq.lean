/-
  Own work: two sectors compared as values.
-/
import Derived.Test.YthghkfncpdnpoacRows8
namespace Go.Proofs.Ythghkfncpdnpoac
open Go.ChangeShapes Go.WideShapes Go.ChangeAt Go.RowKit
set_option linter.unusedVariables false

theorem part_u8 (w : World) (xs : List Int) (i : Nat) (hi : i < xs.length) : (part 5 (xs.map (Value.int .u8)).toArray i).run Try.prog w = .ok (.int .u8 (xs.getD i 0)) w := by
  have hagg : (isAgg 5).run Try.prog w = .ok false w := by
    unfold isAgg
    rw [Sem.run_bind, run_underlying Try.underlying5 w]; rfl
  simp [part, hagg, hi]

theorem sizeU8 (w : World) : (sizeOf 5).run Try.prog w = .ok 1 w := by
  have h : (Try.prog.info? 5).map (·.size) = some 1 := by kernel_rfl
  cases hq : Try.prog.info? 5 with
  | none => simp [hq] at h
  | some i =>
    have hs : i.size = 1 := by simpa [hq] using h
    simp [sizeOf, typeInfo, hq, hs]

theorem run_eqArr (w : World) (d : Nat) (xs ys : List Int) (hx : xs.length = 64) (hy : ys.length = 64) :
    (Op.equalIn (d + 2) 64 (.agg (xs.map (Value.int .u8)).toArray) (.agg (ys.map (Value.int .u8)).toArray)).run Try.prog w = .ok (decide (xs = ys)) w := by
  have key : decide (xs = ys) = (List.range' 0 64).all (fun i => xs.getD i 0 == ys.getD i 0) := by
    rw [Bool.eq_iff_iff]
    simp only [decide_eq_true_eq, List.all_eq_true, List.mem_range', beq_iff_eq]
    constructor
    · rintro rfl _ _; rfl
    · intro h
      apply List.ext_getElem (by omega)
      intro i h1 h2
      have := h i ⟨i, by omega, by omega⟩
      simpa [h1, h2] using this
  rw [key]
  unfold Op.equalIn
  simp only [Sem.run_bind, run_underlying Try.underlying64, Result.andThen_ok, sizeU8, Nat.mul_one, Std.Legacy.Range.forIn_eq_forIn_range', Std.Legacy.Range.size, Nat.sub_zero, Nat.add_sub_cancel, Nat.div_one]
  have hl : ∀ i ∈ List.range' 0 64, i < 64 := fun i hi => by rw [List.mem_range'] at hi; obtain ⟨j, _, rfl⟩ := hi; omega
  revert hl
  generalize List.range' 0 64 = l
  intro hl
  induction l with
  | nil => simp
  | cons i l ih =>
    have hi := hl i (List.mem_cons_self ..)
    have ih' := ih (fun j hj => hl j (List.mem_cons_of_mem _ hj))
    simp only [List.forIn_cons, Sem.run_bind, part_u8 w xs i (by omega), part_u8 w ys i (by omega), Result.andThen_ok, run_equalIn_int w d 5 .u8 .u8 _ _ Try.underlying5, List.all_cons]
    cases hb : (xs.getD i 0 == ys.getD i 0)
    · simp
    · simp only [Bool.not_true, Bool.false_eq_true, if_false, Sem.run_pure, Result.andThen_ok, Bool.true_and]
      exact ih'

theorem run_neqArr (w : World) (xs ys : List Int) (hx : xs.length = 64) (hy : ys.length = 64) :
    (binOp .neq 64 (.agg (xs.map (Value.int .u8)).toArray) (.agg (ys.map (Value.int .u8)).toArray)).run Try.prog w = .ok (.bool (!decide (xs = ys))) w := by
  rw [run_neq_struct, run_eqArr w 9998 xs ys hx hy]; rfl
theorem run_neqGuard (w : World) (x y : Operand) (xs ys : Array Value) : (eqGuard .neq 64 x y (.agg xs) (.agg ys)).run Try.prog w = .ok () w :=
  run_eqGuard_agg w .neq 64 x y xs ys (by kernel_rfl)
end Go.Proofs.Ythghkfncpdnpoac
