/-
  Own work: a frame as the laws copy it.
-/
import Derived.Test.YthghkfncpdnpoadBase
namespace Go.Proofs.Ythghkfncpdnpoad
open Go.ChangeShapes Go.WideShapes Go.ChangeAt Go.RowKit
set_option linter.unusedVariables false

set_option maxHeartbeats 400000 in
theorem toFr_any (s k a b : Int) (w : World) :
    Calls Try.prog 14 #[.agg #[.int .u32 s, .int .i64 k, .int .u32 a, .int .u32 b]] w fun e w' => e = .returned (.agg #[.int .u32 s, .int .i64 k, .int .u32 a, .int .u32 b]) ∧ Below w.heap.size w w' := by
  go_enter Try.func14, Try.ntmps14
  go_wp2
  refine bodyPost_ret (v := .agg #[.int .u32 s, .int .i64 k, .int .u32 a, .int .u32 b]) (by simp [results, Try.results14, go_sem]) rfl ⟨rfl, ?_⟩
  exact (((Below.refl _ _).alloc (Nat.le_refl _) _).alloc (by simp) _).alloc (by simp; omega) _
end Go.Proofs.Ythghkfncpdnpoad
