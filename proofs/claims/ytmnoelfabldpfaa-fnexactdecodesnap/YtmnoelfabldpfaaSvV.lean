/-
  Own work: ValidState, by the model.
-/
import Derived.Test.YtmnoelfabldpfaaMSvW
namespace Go.Proofs.Ytmnoelfabldpfaa
open Go.ChangeShapes Go.WideShapes Go.ChangeAt Go.RowKit
set_option linter.unusedVariables false

/-- The state's box and what else stands. -/
structure VSE (w : World) (sc : Array Value) (wr : World) : Prop where
  below : Below w.heap.size w wr
  box : wr.heap[w.heap.size]? = some (.cells sc 74 (0, 0))
theorem VSE.lt {w wr : World} {sc : Array Value} (h : VSE w sc wr) : w.heap.size < wr.heap.size := (Array.getElem?_eq_some_iff.1 h.box).1
theorem VSE.call {w wr w' : World} {sc : Array Value} (h : VSE w sc wr) (b : Below wr.heap.size wr w') : VSE w sc w' := ⟨h.below.trans (b.mono h.below.size), by rw [b.block _ h.lt]; exact h.box⟩
theorem VSE.drew {w wr : World} {sc : Array Value} (h : VSE w sc wr) (q : Nat) : VSE w sc (wr.drewN q) := ⟨below_dq h.below q, h.box⟩

end Go.Proofs.Ytmnoelfabldpfaa
