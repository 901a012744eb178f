/-
  Own work: two results of decoding compared as values.
-/
import Derived.Test.YthghkfncpdnpoacBase
namespace Go.Proofs.Ythghkfncpdnpoac
open Go.ChangeShapes Go.WideShapes Go.ChangeAt Go.RowKit
set_option linter.unusedVariables false

set_option maxRecDepth 100000 in
theorem run_eqFrN (d : Nat) (w : World) (s k a b : Int) :
    (Op.equalIn (d + 2) 25 (.agg #[.int .u32 s, .int .i64 k, .int .u32 a, .int .u32 b]) (.agg #[.int .u32 s, .int .i64 k, .int .u32 a, .int .u32 b])).run Try.prog w = .ok true w := by
  have hf : (Try.prog.fieldsOf 25).toList = (match Try.prog.underlying 25 with | some (.struct fs) => fs.toList | _ => []) := by
    unfold Program.fieldsOf; rw [Try.underlying25]
  have hu : Try.prog.underlying 25 = some (.struct (Try.prog.fieldsOf 25)) := by unfold Program.fieldsOf; rw [Try.underlying25]
  rw [run_equalIn_struct w (d + 1) 25 _ _ hu (by kernel_rfl), hf, Try.underlying25]
  have i32 : ∀ w, (isAgg 23).run Try.prog w = .ok false w := fun w => by
    unfold isAgg; rw [Sem.run_bind, run_underlying Try.underlying23 w]; rfl
  have i64 : ∀ w, (isAgg 2).run Try.prog w = .ok false w := fun w => by
    unfold isAgg; rw [Sem.run_bind, run_underlying Try.underlying2 w]; rfl
  have e32 : ∀ (w : World) (x y : Int), (Op.equalIn (d + 1) 23 (.int .u32 x) (.int .u32 y)).run Try.prog w = .ok (x == y) w := fun w x y => run_equalIn_int w d 23 .u32 .u32 x y Try.underlying23
  have e64 : ∀ (w : World) (x y : Int), (Op.equalIn (d + 1) 2 (.int .i64 x) (.int .i64 y)).run Try.prog w = .ok (x == y) w := fun w x y => run_equalIn_int w d 2 .i64 .i64 x y Try.underlying2
  simp only [Op.eqFields, part, i32, i64, Sem.run_bind, Sem.run_ite, Result.andThen_ok, Bool.false_eq_true, if_false]
  simp [e32, e64]

set_option maxRecDepth 100000 in
theorem run_eqFrR (w : World) (x : Bool) (s k a b : Int) :
    (Op.equalIn 10000 28 (.agg #[.bool x, .int .u32 s, .int .i64 k, .int .u32 a, .int .u32 b]) (.agg #[.bool x, .int .u32 s, .int .i64 k, .int .u32 a, .int .u32 b])).run Try.prog w = .ok true w := by
  have hf : (Try.prog.fieldsOf 28).toList = (match Try.prog.underlying 28 with | some (.struct fs) => fs.toList | _ => []) := by
    unfold Program.fieldsOf; rw [Try.underlying28]
  have hu : Try.prog.underlying 28 = some (.struct (Try.prog.fieldsOf 28)) := by unfold Program.fieldsOf; rw [Try.underlying28]
  rw [run_equalIn_struct w 9999 28 _ _ hu (by kernel_rfl), hf, Try.underlying28]
  have ib : ∀ w, (isAgg 4).run Try.prog w = .ok false w := fun w => by
    unfold isAgg; rw [Sem.run_bind, run_underlying Try.underlying4 w]; rfl
  have iF : ∀ w, (isAgg 25).run Try.prog w = .ok true w := fun w => by
    unfold isAgg; rw [Sem.run_bind, run_underlying Try.underlying25 w]; rfl
  have sF : ∀ w, (sizeOf 25).run Try.prog w = .ok 4 w := fun w => by
    have h : (Try.prog.info? 25).map (·.size) = some 4 := by kernel_rfl
    obtain ⟨i, hi, hs⟩ := Option.map_eq_some_iff.1 h
    simp [sizeOf, typeInfo, hi, hs]
  simp only [Op.eqFields, part, ib, iF, sF, Sem.run_bind, Sem.run_ite, Result.andThen_ok, Bool.false_eq_true, if_false, if_true]
  have eb : ∀ w : World, (Op.equalIn 9999 4 (.bool x) (.bool x)).run Try.prog w = .ok (x == x) w := fun w => run_equalIn_bool w 9998 4 x x Try.underlying4
  have eF := run_eqFrN 9997 w s k a b
  simp [eb, eF]
end Go.Proofs.Ythghkfncpdnpoac
