/-
  Own work: comparisons of taps, copies and comparisons of states, as the laws make them (written by wip/mksg.py).
-/
import Derived.Test.YtmnoelfabldpfaaSvF
namespace Go.Proofs.Ytmnoelfabldpfaa
open Go.ChangeShapes Go.WideShapes Go.ChangeAt Go.RowKit
set_option linter.unusedVariables false
theorem At.wrX {w w' : World} {g V : Nat} {xs : List Int} (h : At .i64 w (some ⟨g, 0, none⟩) xs) (hw : Wr V w w') (hne : g ≠ V) : At .i64 w' (some ⟨g, 0, none⟩) xs := by
  rcases h with h | ⟨b, off, e, hl, hc⟩
  · exact .inl h
  · cases e
    exact .inr ⟨g, 0, rfl, by rw [hw.size]; exact hl, fun i hi => by rw [World.cell?_of_block (a := ⟨g, 0 + i, none⟩) (w := w) (hw.block g hne)]; exact hc i hi⟩

end Go.Proofs.Ytmnoelfabldpfaa
