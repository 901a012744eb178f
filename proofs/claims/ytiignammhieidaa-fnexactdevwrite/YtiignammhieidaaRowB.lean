/-
  Own work: rows of bytes in memory.
-/
import Derived.Test.YtiignammhieidaaBase
namespace Go.Proofs.Ytiignammhieidaa
open Go.ChangeShapes Go.WideShapes Go.ChangeAt Go.RowKit
set_option linter.unusedVariables false

/-- Block g is a row of the bytes zs. -/
def Row (w : World) (g : Nat) (e : TypeId) (zs : List Int) : Prop := w.heap[g]? = some (.cells (zs.map (Value.int .u8)).toArray e (0, 0))
/-- At most block g has turned. -/
structure Wr (g : Nat) (w w' : World) : Prop where
  os : w'.os = w.os
  tape : w'.tape = w.tape
  output : w'.output = w.output
  size : w'.heap.size = w.heap.size
  block : ∀ k, k ≠ g → w'.heap[k]? = w.heap[k]?

theorem Wr.refl (g : Nat) (w : World) : Wr g w w := ⟨rfl, rfl, rfl, rfl, fun _ _ => rfl⟩
theorem Wr.trans {g : Nat} {a b c : World} (h : Wr g a b) (k : Wr g b c) : Wr g a c :=
  ⟨k.os.trans h.os, k.tape.trans h.tape, k.output.trans h.output, k.size.trans h.size, fun i hi => (k.block i hi).trans (h.block i hi)⟩
theorem Wr.setCell {g : Nat} {a w : World} (h : Wr g a w) (o : Nat) (u : Value) : Wr g a (w.setCell ⟨g, o, none⟩ u) :=
  h.trans ⟨rfl, rfl, rfl, by simp [World.setCell], fun k hk => heap_setCell_other w _ k u hk⟩
theorem Wr.setRow (g : Nat) (w : World) (cs : Array Value) : Wr g w (w.setRow g cs) := ⟨rfl, rfl, rfl, size_setRow w g cs, fun k hk => setRow_other w g k cs hk⟩
theorem Wr.drewN {g : Nat} {a w : World} (h : Wr g a w) (n : Nat) : Wr g a (w.drewN n) := ⟨h.os, h.tape, h.output, h.size, h.block⟩
theorem Wr.drew {g : Nat} {a w : World} (h : Wr g a w) : Wr g a w.drew := ⟨h.os, h.tape, h.output, h.size, h.block⟩
theorem Wr.below {g B : Nat} {w w' : World} (h : Wr g w w') (hB : B ≤ g) : Below B w w' := ⟨h.os, h.tape, h.output, by rw [h.size]; exact Nat.le_refl _, fun k hk => h.block k (by omega)⟩
theorem Wr.row {g g' : Nat} {w w' : World} {e : TypeId} {zs : List Int} (h : Wr g w w') (hr : Row w g' e zs) (hg : g' ≠ g) : Row w' g' e zs := by
  unfold Row; rw [h.block g' hg]; exact hr

theorem Row.lt {w : World} {g : Nat} {e : TypeId} {zs : List Int} (h : Row w g e zs) : g < w.heap.size := (Array.getElem?_eq_some_iff.1 h).1
theorem Row.cell {w : World} {g : Nat} {e : TypeId} {zs : List Int} (h : Row w g e zs) (i : Nat) (hi : i < zs.length) : w.cell? ⟨g, i, none⟩ = some (.int .u8 (zs.getD i 0)) := by
  rw [cell_of_row w g i _ e _ h]; simp [hi]
theorem Row.frozen {w : World} {g : Nat} {e : TypeId} {zs : List Int} (h : Row w g e zs) (i : Nat) : w.frozen? ⟨g, i, none⟩ = false := frozen_of_row w g i _ e h
theorem Row.set {w : World} {g : Nat} {e : TypeId} {zs : List Int} (h : Row w g e zs) (i : Nat) (x : Int) : Row (w.setCell ⟨g, i, none⟩ (.int .u8 x)) g e (zs.set i x) := by
  unfold Row; rw [heap_setCell_same w g i _ e _ h]; simp [List.map_set]
theorem Row.drew {w : World} {g : Nat} {e : TypeId} {zs : List Int} (h : Row w g e zs) : Row w.drew g e zs := h
theorem Row.drewN {w : World} {g : Nat} {e : TypeId} {zs : List Int} (h : Row w g e zs) (n : Nat) : Row (w.drewN n) g e zs := h
theorem Row.at_ {w : World} {g : Nat} {e : TypeId} {zs : List Int} (h : Row w g e zs) : At .u8 w (some ⟨g, 0, none⟩) zs :=
  .inr ⟨g, 0, rfl, h.lt, fun i hi => by rw [Nat.zero_add]; exact h.cell i hi⟩
theorem Row.atTake {w : World} {g : Nat} {e : TypeId} {zs : List Int} (h : Row w g e zs) (n : Nat) : At .u8 w (some ⟨g, 0, none⟩) (zs.take n) :=
  .inr ⟨g, 0, rfl, h.lt, fun i hi => by
    have hi' : i < n ∧ i < zs.length := by simp at hi; omega
    rw [Nat.zero_add, h.cell i hi'.2]; simp [List.getD, hi'.1]⟩
end Go.Proofs.Ytiignammhieidaa
