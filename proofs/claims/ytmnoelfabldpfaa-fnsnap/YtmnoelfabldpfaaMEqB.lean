/-
  Own work: boxes (written by wip/mkeq.py).
-/
import Derived.Test.YtmnoelfabldpfaaMCpe
import Derived.Deep.Cut
namespace Go.Proofs.Ytmnoelfabldpfaa
open Go.ChangeShapes Go.WideShapes Go.ChangeAt Go.RowKit
set_option linter.unusedVariables false

/-- Two boxes of a comparison. -/
structure BE (w : World) (t : TypeId) (sa sb : Array Value) (wr : World) : Prop where
  below : Below w.heap.size w wr
  b0 : wr.heap[w.heap.size]? = some (.cells sa t (0, 0))
  b1 : wr.heap[w.heap.size + 1]? = some (.cells sb t (0, 0))
theorem BE.start (w : World) (t : TypeId) (sa sb : Array Value) : BE w t sa sb ((w.alloc (.cells sa t)).alloc (.cells sb t)) := by
  refine ⟨((Below.refl _ _).alloc (Nat.le_refl _) _).alloc (by simp) _, ?_, ?_⟩
  · rw [Below.heap_alloc _ _ w.heap.size (by simp)]; exact heap_alloc_new w _
  · have := heap_alloc_new (w.alloc (.cells sa t)) (.cells sb t)
    rwa [show (w.alloc (.cells sa t)).heap.size = w.heap.size + 1 by simp] at this
theorem BE.call {w wr w' : World} {t : TypeId} {sa sb : Array Value} (h : BE w t sa sb wr) (b : Below wr.heap.size wr w') : BE w t sa sb w' := by
  have := (Array.getElem?_eq_some_iff.1 h.b1).1
  exact ⟨h.below.trans (b.mono h.below.size), by rw [b.block _ (by omega)]; exact h.b0, by rw [b.block _ (by omega)]; exact h.b1⟩
/-- One box. -/
structure OE (w : World) (t : TypeId) (sa : Array Value) (wr : World) : Prop where
  below : Below w.heap.size w wr
  b0 : wr.heap[w.heap.size]? = some (.cells sa t (0, 0))
theorem OE.start (w : World) (t : TypeId) (sa : Array Value) : OE w t sa (w.alloc (.cells sa t)) := ⟨(Below.refl _ _).alloc (Nat.le_refl _) _, heap_alloc_new w _⟩
theorem OE.lt {w wr : World} {t : TypeId} {sa : Array Value} (h : OE w t sa wr) : w.heap.size < wr.heap.size := (Array.getElem?_eq_some_iff.1 h.b0).1
theorem OE.call {w wr w' : World} {t : TypeId} {sa : Array Value} (h : OE w t sa wr) (b : Below wr.heap.size wr w') : OE w t sa w' := by
  have := (Array.getElem?_eq_some_iff.1 h.b0).1
  exact ⟨h.below.trans (b.mono h.below.size), by rw [b.block _ (by omega)]; exact h.b0⟩
end Go.Proofs.Ytmnoelfabldpfaa
namespace Go.Proofs.Ytmnoelfabldpfaa
open Go.ChangeShapes Go.WideShapes Go.ChangeAt Go.RowKit
set_option linter.unusedVariables false
end Go.Proofs.Ytmnoelfabldpfaa
namespace Go.Proofs.Ytmnoelfabldpfaa
open Go.ChangeShapes Go.WideShapes Go.ChangeAt Go.RowKit
set_option linter.unusedVariables false
end Go.Proofs.Ytmnoelfabldpfaa
