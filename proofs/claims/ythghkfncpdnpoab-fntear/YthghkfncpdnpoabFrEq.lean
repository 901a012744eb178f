/-
  Own work: two frames compared as values.
-/
import Derived.Test.YthghkfncpdnpoabBase
namespace Go.Proofs.Ythghkfncpdnpoab
open Go.ChangeShapes Go.WideShapes Go.ChangeAt Go.RowKit
set_option linter.unusedVariables false

theorem run_eqFr (w : World) (s k a b s' k' a' b' : Int) :
    (Op.equalIn 10000 29 (.agg #[.int .u32 s, .int .i64 k, .int .u32 a, .int .u32 b]) (.agg #[.int .u32 s', .int .i64 k', .int .u32 a', .int .u32 b'])).run Try.prog w = .ok ((s == s') && ((k == k') && ((a == a') && (b == b')))) w := by
  have hf : (Try.prog.fieldsOf 29).toList = (match Try.prog.underlying 29 with | some (.struct fs) => fs.toList | _ => []) := by
    unfold Program.fieldsOf; rw [Try.underlying29]
  have hu : Try.prog.underlying 29 = some (.struct (Try.prog.fieldsOf 29)) := by unfold Program.fieldsOf; rw [Try.underlying29]
  rw [run_equalIn_struct w 9999 29 _ _ hu (by kernel_rfl), hf, Try.underlying29]
  have i32 : ∀ w, (isAgg 27).run Try.prog w = .ok false w := fun w => by
    unfold isAgg; rw [Sem.run_bind, run_underlying Try.underlying27 w]; rfl
  have i64 : ∀ w, (isAgg 2).run Try.prog w = .ok false w := fun w => by
    unfold isAgg; rw [Sem.run_bind, run_underlying Try.underlying2 w]; rfl
  have e32 : ∀ (w : World) (x y : Int), (Op.equalIn 9999 27 (.int .u32 x) (.int .u32 y)).run Try.prog w = .ok (x == y) w := fun w x y => run_equalIn_int w 9998 27 .u32 .u32 x y Try.underlying27
  have e64 : ∀ (w : World) (x y : Int), (Op.equalIn 9999 2 (.int .i64 x) (.int .i64 y)).run Try.prog w = .ok (x == y) w := fun w x y => run_equalIn_int w 9998 2 .i64 .i64 x y Try.underlying2
  simp only [Op.eqFields, part, i32, i64, Sem.run_bind, Sem.run_ite, Result.andThen_ok, Bool.false_eq_true, if_false]
  by_cases h1 : s = s' <;> by_cases h2 : k = k' <;> by_cases h3 : a = a' <;> by_cases h4 : b = b' <;> simp [e32, e64, h1, h2, h3, h4]
end Go.Proofs.Ythghkfncpdnpoab
