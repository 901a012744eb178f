/-
  Own work: an answer's own slice of bytes, and what writes elsewhere leave of it.
-/
import Derived.Test.YthghkfncpdnpoabOwnB
import Derived.Test.YthghkfncpdnpoabMark
namespace Go.Proofs.Ythghkfncpdnpoab
open Go.ChangeShapes Go.WideShapes Go.ChangeAt Go.RowKit
set_option linter.unusedVariables false

/-- A slice of the answer's own, from block B on. -/
def ResO (B : Nat) (w : World) (v : Value) (zs : List Int) : Prop :=
  ∃ a c, v = .slice a zs.length c ∧ At .u8 w a zs ∧ Open w a zs.length ∧ ∀ ad, a = some ad → B ≤ ad.block
theorem At.wrB {k : IntKind} {w w' : World} {a : Option Addr} {zs : List Int} {b o : Nat} (h : At k w (some ⟨b, o, none⟩) zs) (hw : WrO a w w') (hne : ∀ ad, a = some ad → b ≠ ad.block) : At k w' (some ⟨b, o, none⟩) zs := by
  rcases h with h | ⟨b', off, h1, hl, hc⟩
  · exact .inl h
  · cases h1
    exact .inr ⟨b, o, rfl, by rw [hw.size]; exact hl, fun i hi => by rw [World.cell?_of_block (a := ⟨b, o + i, none⟩) (w := w) (hw.block b hne)]; exact hc i hi⟩

theorem World.frozen?_of_block2 {w w' : World} {g i : Nat} (h : w'.heap[g]? = w.heap[g]?) : w'.frozen? ⟨g, i, none⟩ = w.frozen? ⟨g, i, none⟩ := by
  simp only [World.frozen?, h]
theorem Open.below2 {w w' : World} {a : Option Addr} {n : Nat} (h : Open w a n) (hb : Below w.heap.size w w') : Open w' a n := by
  rcases h with h | ⟨g, o, h1, h2, h3⟩
  · exact .inl h
  · refine .inr ⟨g, o, h1, by have := hb.size; omega, fun i hi => ?_⟩
    rw [hb.cell (p := ⟨g, o + i, none⟩) h2, World.frozen?_of_block2 (w := w) (hb.block g h2)]; exact h3 i hi
theorem Open.wrB {w w' : World} {a b : Option Addr} {n : Nat} (h : Open w a n) (hw : WrO b w w') (hne : ∀ ad, a = some ad → ∀ ad', b = some ad' → ad.block ≠ ad'.block) : Open w' a n := by
  rcases h with h | ⟨g, o, h1, h2, h3⟩
  · exact .inl h
  · refine .inr ⟨g, o, h1, by rw [hw.size]; exact h2, fun i hi => ?_⟩
    have e := hw.block g (fun ad' e' => hne _ h1 ad' e')
    rw [World.cell?_of_block (a := ⟨g, o + i, none⟩) (w := w) e, World.frozen?_of_block2 (w := w) e]; exact h3 i hi

theorem Own.at2 {w : World} {B : Nat} {v : Value} {zs : List Int} (h : Own w B v zs) : ∃ g c, v = .slice (some ⟨g, 0, none⟩) zs.length c ∧ B ≤ g ∧ g < w.heap.size ∧ At .u8 w (some ⟨g, 0, none⟩) zs := by
  obtain ⟨g, c, rfl, hb, hg, hc⟩ := h.base
  exact ⟨g, c, rfl, hb, hg, .inr ⟨g, 0, rfl, hg, fun i hi => by rw [Nat.zero_add, h.1.cellAt i (by omega)]; simp [hi]⟩⟩
theorem own_res {w : World} {B : Nat} {v : Value} {zs : List Int} (h : Own w B v zs) : ResO B w v zs := by
  obtain ⟨g, c, rfl, hB, hg, hA⟩ := h.at2
  exact ⟨_, c, rfl, hA, .inr ⟨g, 0, rfl, hg, fun i hi => by rw [Nat.zero_add]; exact ⟨by rw [h.1.cellAt i (by omega)]; simp [hi], h.1.frozenAt i⟩⟩, fun ad e => by cases e; exact hB⟩


end Go.Proofs.Ythghkfncpdnpoab
