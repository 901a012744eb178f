/-
  Own work: two sectors compared as values.
-/
import Derived.Test.YtmnoelfabldpfaaMRowB
namespace Go.Proofs.Ytmnoelfabldpfaa
open Go.ChangeShapes Go.WideShapes Go.ChangeAt Go.RowKit
set_option linter.unusedVariables false

theorem part_u8 (w : World) (xs : List Int) (i : Nat) (hi : i < xs.length) : (part 5 (xs.map (Value.int .u8)).toArray i).run Try.prog w = .ok (.int .u8 (xs.getD i 0)) w := by
  have hagg : (isAgg 5).run Try.prog w = .ok false w := by
    unfold isAgg
    rw [Sem.run_bind, run_underlying Try.underlying5 w]; rfl
  simp [part, hagg, hi]

theorem sizeU8 (w : World) : (sizeOf 5).run Try.prog w = .ok 1 w := by
  have h : (Try.prog.info? 5).map (·.size) = some 1 := by kernel_rfl
  cases hq : Try.prog.info? 5 with
  | none => simp [hq] at h
  | some i =>
    have hs : i.size = 1 := by simpa [hq] using h
    simp [sizeOf, typeInfo, hq, hs]

theorem run_eqArr (w : World) (d : Nat) (xs ys : List Int) (hx : xs.length = 64) (hy : ys.length = 64) :
    (Op.equalIn (d + 2) 42 (.agg (xs.map (Value.int .u8)).toArray) (.agg (ys.map (Value.int .u8)).toArray)).run Try.prog w = .ok (decide (xs = ys)) w := by
  have key : decide (xs = ys) = (List.range' 0 64).all (fun i => xs.getD i 0 == ys.getD i 0) := by
    rw [Bool.eq_iff_iff]
    simp only [decide_eq_true_eq, List.all_eq_true, List.mem_range', beq_iff_eq]
    constructor
    · rintro rfl _ _; rfl
    · intro h
      apply List.ext_getElem (by omega)
      intro i h1 h2
      have := h i ⟨i, by omega, by omega⟩
      simpa [h1, h2] using this
  rw [key]
  unfold Op.equalIn
  simp only [Sem.run_bind, run_underlying Try.underlying42, Result.andThen_ok, sizeU8, Nat.mul_one, Std.Legacy.Range.forIn_eq_forIn_range', Std.Legacy.Range.size, Nat.sub_zero, Nat.add_sub_cancel, Nat.div_one]
  have hl : ∀ i ∈ List.range' 0 64, i < 64 := fun i hi => by rw [List.mem_range'] at hi; obtain ⟨j, _, rfl⟩ := hi; omega
  revert hl
  generalize List.range' 0 64 = l
  intro hl
  induction l with
  | nil => simp
  | cons i l ih =>
    have hi := hl i (List.mem_cons_self ..)
    have ih' := ih (fun j hj => hl j (List.mem_cons_of_mem _ hj))
    simp only [List.forIn_cons, Sem.run_bind, part_u8 w xs i (by omega), part_u8 w ys i (by omega), Result.andThen_ok, run_equalIn_int w d 5 .u8 .u8 _ _ Try.underlying5, List.all_cons]
    cases hb : (xs.getD i 0 == ys.getD i 0)
    · simp
    · simp only [Bool.not_true, Bool.false_eq_true, if_false, Sem.run_pure, Result.andThen_ok, Bool.true_and]
      exact ih'

theorem run_neqArr (w : World) (xs ys : List Int) (hx : xs.length = 64) (hy : ys.length = 64) :
    (binOp .neq 42 (.agg (xs.map (Value.int .u8)).toArray) (.agg (ys.map (Value.int .u8)).toArray)).run Try.prog w = .ok (.bool (!decide (xs = ys))) w := by
  rw [run_neq_struct, run_eqArr w 9998 xs ys hx hy]; rfl
theorem run_neqGuard (w : World) (x y : Operand) (xs ys : Array Value) : (eqGuard .neq 42 x y (.agg xs) (.agg ys)).run Try.prog w = .ok () w :=
  run_eqGuard_agg w .neq 42 x y xs ys (by kernel_rfl)
end Go.Proofs.Ytmnoelfabldpfaa
namespace Go.Proofs.Ytmnoelfabldpfaa
open Go.ChangeShapes Go.WideShapes Go.ChangeAt Go.RowKit
set_option linter.unusedVariables false

theorem sizeSecR (w : World) : (sizeOf 42).run Try.prog w = .ok 64 w := by
  have h : (Try.prog.info? 42).map (·.size) = some 64 := by kernel_rfl
  cases hq : Try.prog.info? 42 with
  | none => simp [hq] at h
  | some i =>
    have hs : i.size = 64 := by simpa [hq] using h
    simp [sizeOf, typeInfo, hq, hs]
theorem part_sec (w : World) (xs : List Int) (a : Nat) : (part 42 (xs.map (Value.int .u8)).toArray a).run Try.prog w = .ok (.agg (((xs.drop a).take 64).map (Value.int .u8)).toArray) w := by
  have hagg : (isAgg 42).run Try.prog w = .ok true w := by
    unfold isAgg
    rw [Sem.run_bind, run_underlying Try.underlying42 w]; rfl
  have he : (xs.map (Value.int .u8)).toArray.extract a (a + 64) = (((xs.drop a).take 64).map (Value.int .u8)).toArray := by
    rw [List.extract_toArray, List.extract_eq_take_drop, Nat.add_sub_cancel_left, List.map_take, List.map_drop]
  simp [part, hagg]
theorem eq_two (w : World) (d : Nat) (X Y : Array Value) (X0 Y0 X1 Y1 : Value) (c0 c1 : Bool)
    (p0 : (part 42 X 0).run Try.prog w = .ok X0 w) (q0 : (part 42 Y 0).run Try.prog w = .ok Y0 w) (p1 : (part 42 X 64).run Try.prog w = .ok X1 w) (q1 : (part 42 Y 64).run Try.prog w = .ok Y1 w)
    (e0 : (Op.equalIn (d + 2) 42 X0 Y0).run Try.prog w = .ok c0 w) (e1 : (Op.equalIn (d + 2) 42 X1 Y1).run Try.prog w = .ok c1 w) :
    (Op.equalIn (d + 3) 45 (.agg X) (.agg Y)).run Try.prog w = .ok (c0 && c1) w := by
  unfold Op.equalIn
  simp only [Sem.run_bind, run_underlying Try.underlying45, Result.andThen_ok, sizeSecR, Std.Legacy.Range.forIn_eq_forIn_range', Std.Legacy.Range.size, Nat.sub_zero, Nat.add_sub_cancel, Nat.div_one]
  rw [show List.range' 0 2 = [0, 1] from rfl, List.forIn_cons]
  simp only [Sem.run_bind, Nat.zero_mul, p0, q0, Result.andThen_ok, e0]
  cases c0
  · simp only [Bool.not_false, if_true, Sem.run_pure, Result.andThen_ok, Bool.false_and]
  · simp only [Bool.not_true, Bool.false_eq_true, if_false, Sem.run_pure, Result.andThen_ok, Bool.true_and]
    rw [List.forIn_cons]
    simp only [Sem.run_bind, Nat.one_mul, p1, q1, Result.andThen_ok, e1]
    cases c1
    · simp only [Bool.not_false, if_true, Sem.run_pure, Result.andThen_ok]
    · simp only [Bool.not_true, Bool.false_eq_true, if_false, Sem.run_pure, Result.andThen_ok, List.forIn_nil]
theorem slot_key (xs ys : List Int) (hx : xs.length = 128) (hy : ys.length = 128) : decide (xs = ys) = (decide (xs.take 64 = ys.take 64) && decide ((xs.drop 64).take 64 = (ys.drop 64).take 64)) := by
  have hx1 : (xs.drop 64).take 64 = xs.drop 64 := List.take_of_length_le (by simp; omega)
  have hy1 : (ys.drop 64).take 64 = ys.drop 64 := List.take_of_length_le (by simp; omega)
  rw [hx1, hy1, Bool.eq_iff_iff]
  simp only [decide_eq_true_eq, Bool.and_eq_true]
  constructor
  · rintro rfl; exact ⟨rfl, rfl⟩
  · rintro ⟨h1, h2⟩
    rw [← List.take_append_drop 64 xs, ← List.take_append_drop 64 ys, h1, h2]
theorem run_eqSlot (w : World) (d : Nat) (xs ys : List Int) (hx : xs.length = 128) (hy : ys.length = 128) :
    (Op.equalIn (d + 3) 45 (.agg (xs.map (Value.int .u8)).toArray) (.agg (ys.map (Value.int .u8)).toArray)).run Try.prog w = .ok (decide (xs = ys)) w := by
  rw [slot_key xs ys hx hy]
  exact eq_two w d _ _ _ _ _ _ _ _ (part_sec w xs 0) (part_sec w ys 0) (part_sec w xs 64) (part_sec w ys 64) (run_eqArr w d (xs.take 64) (ys.take 64) (by simp; omega) (by simp; omega)) (run_eqArr w d ((xs.drop 64).take 64) ((ys.drop 64).take 64) (by simp; omega) (by simp; omega))
theorem run_neqSlot (w : World) (xs ys : List Int) (hx : xs.length = 128) (hy : ys.length = 128) :
    (binOp .neq 45 (.agg (xs.map (Value.int .u8)).toArray) (.agg (ys.map (Value.int .u8)).toArray)).run Try.prog w = .ok (.bool (!decide (xs = ys))) w := by
  rw [run_neq_struct, run_eqSlot w 9997 xs ys hx hy]; rfl
theorem run_neqGuardS (w : World) (x y : Operand) (xs ys : Array Value) : (eqGuard .neq 45 x y (.agg xs) (.agg ys)).run Try.prog w = .ok () w :=
  run_eqGuard_agg w .neq 45 x y xs ys (by kernel_rfl)
end Go.Proofs.Ytmnoelfabldpfaa
