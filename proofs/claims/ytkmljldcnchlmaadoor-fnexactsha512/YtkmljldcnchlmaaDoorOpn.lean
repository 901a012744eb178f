/-
  Own work: cells that may be written, and what a write turns.
-/
import Derived.Test.YtkmljldcnchlmaaDoorBase
namespace Go.Proofs.YtkmljldcnchlmaaDoor
open Go.ChangeShapes Go.WideShapes Go.ChangeAt Go.RowKit
set_option linter.unusedVariables false

/-- At most the block that the slice leads to has turned. -/
structure WrO (a : Option Addr) (w w' : World) : Prop where
  os : w'.os = w.os
  tape : w'.tape = w.tape
  output : w'.output = w.output
  size : w'.heap.size = w.heap.size
  block : ∀ k, (∀ ad, a = some ad → k ≠ ad.block) → w'.heap[k]? = w.heap[k]?
theorem WrO.refl (a : Option Addr) (w : World) : WrO a w w := ⟨rfl, rfl, rfl, rfl, fun _ _ => rfl⟩
theorem WrO.setCell {a : Option Addr} {w w' : World} (h : WrO a w w') (ad : Addr) (ha : a = some ad) (o : Nat) (v : Value) : WrO a w (w'.setCell ⟨ad.block, o, none⟩ v) :=
  ⟨h.os, h.tape, h.output, by simp [World.setCell]; exact h.size, fun k hk => (heap_setCell_other w' ⟨ad.block, o, none⟩ k v (hk ad ha)).trans (h.block k hk)⟩
theorem WrO.below {a : Option Addr} {w w' : World} (h : WrO a w w') (B : Nat) (hB : ∀ ad, a = some ad → B ≤ ad.block) : Below B w w' :=
  ⟨h.os, h.tape, h.output, by rw [h.size]; exact Nat.le_refl _, fun k hk => h.block k (fun ad e => by have := hB ad e; omega)⟩

/-- The cells of the slice may be written. -/
def Open (w : World) (a : Option Addr) (n : Nat) : Prop :=
  n = 0 ∨ ∃ g o, a = some ⟨g, o, none⟩ ∧ g < w.heap.size ∧ ∀ i, i < n → (w.cell? ⟨g, o + i, none⟩).isSome = true ∧ w.frozen? ⟨g, o + i, none⟩ = false
end Go.Proofs.YtkmljldcnchlmaaDoor
