/-
  Own work: how far an entry of the cache gets, as the program reckons it.
-/
import Derived.Test.YtiignammhieidaaCrsM
namespace Go.Proofs.Ytiignammhieidaa
open Go.ChangeShapes Go.WideShapes Go.ChangeAt Go.RowKit
set_option linter.unusedVariables false

theorem run_max2 (w : World) (ts : Array TypeId) (t : TypeId) (x y : Int) : (Builtin.max_ ts t #[.int .i64 x, .int .i64 y]).run Try.prog w = .ok (.int .i64 (max x y)) w := by
  by_cases h : x < y
  · simp [Builtin.max_, Builtin.max2, h, Int.max_def]; try omega
  · simp [Builtin.max_, Builtin.max2, h, Int.max_def]; try omega
theorem run_min2 (w : World) (ts : Array TypeId) (t : TypeId) (x y : Int) : (Builtin.min_ ts t #[.int .i64 x, .int .i64 y]).run Try.prog w = .ok (.int .i64 (min x y)) w := by
  by_cases h : y < x
  · simp [Builtin.min_, Builtin.min2, h, Int.min_def]; try omega
  · simp [Builtin.min_, Builtin.min2, h, Int.min_def]; try omega

end Go.Proofs.Ytiignammhieidaa
