/-
  Own work: lists of bools and crashes in memory.
-/
import Derived.Test.YtiignammhieidaaDevTo
namespace Go.Proofs.Ytiignammhieidaa
open Go.ChangeShapes Go.WideShapes Go.ChangeAt Go.RowKit
set_option linter.unusedVariables false

/-- The slice with head 'a' reads as the bools bs. -/
def BAt (w : World) (a : Option Addr) (bs : List Bool) : Prop :=
  bs = [] ∨ ∃ b off, a = some ⟨b, off, none⟩ ∧ b < w.heap.size ∧ ∀ i, i < bs.length → w.cell? ⟨b, off + i, none⟩ = some (.bool (bs.getD i false))
theorem BAt.get {w : World} {a : Option Addr} {bs : List Bool} (h : BAt w a bs) (hz : 0 < bs.length) :
    ∃ b off, a = some ⟨b, off, none⟩ ∧ b < w.heap.size ∧ ∀ i, i < bs.length → w.cell? ⟨b, off + i, none⟩ = some (.bool (bs.getD i false)) := by
  rcases h with h | h
  · simp [h] at hz
  · exact h
theorem BAt.below {w w' : World} {a : Option Addr} {bs : List Bool} (h : BAt w a bs) (hb : Below w.heap.size w w') : BAt w' a bs := by
  rcases h with h | ⟨b, off, rfl, hl, hc⟩
  · exact .inl h
  · exact .inr ⟨b, off, rfl, by have := hb.size; omega, fun i hi => by rw [hb.cell (p := ⟨b, off + i, none⟩) hl]; exact hc i hi⟩

/-- A list of bools in memory of the call's own. -/
def BMine (B : Nat) (w : World) (a : Option Addr) (bs : List Bool) : Prop := BAt w a bs ∧ Open w a bs.length ∧ ∀ ad, a = some ad → B ≤ ad.block ∧ ad.block < w.heap.size
theorem BMine.below {B : Nat} {w w' : World} {a : Option Addr} {bs : List Bool} (h : BMine B w a bs) (hb : Below w.heap.size w w') : BMine B w' a bs :=
  ⟨h.1.below hb, h.2.1.below hb, fun ad e => by have := h.2.2 ad e; have := hb.size; omega⟩

/-- A crash in memory. -/
def CAt (w : World) (v : Value) (bs : List Bool) (t u : Int) : Prop := ∃ x c, v = .agg #[.slice x bs.length c, .int .i64 t, .int .i64 u] ∧ BAt w x bs
def CMine (B : Nat) (w : World) (v : Value) (bs : List Bool) (t u : Int) : Prop := ∃ x c, v = .agg #[.slice x bs.length c, .int .i64 t, .int .i64 u] ∧ BMine B w x bs
theorem CMine.at_ {B : Nat} {w : World} {v : Value} {bs : List Bool} {t u : Int} (h : CMine B w v bs t u) : CAt w v bs t u := by
  obtain ⟨x, c, hv, h⟩ := h; exact ⟨x, c, hv, h.1⟩
theorem CAt.below {w w' : World} {v : Value} {bs : List Bool} {t u : Int} (h : CAt w v bs t u) (hb : Below w.heap.size w w') : CAt w' v bs t u := by
  obtain ⟨x, c, hv, h⟩ := h; exact ⟨x, c, hv, h.below hb⟩
theorem CMine.below {B : Nat} {w w' : World} {v : Value} {bs : List Bool} {t u : Int} (h : CMine B w v bs t u) (hb : Below w.heap.size w w') : CMine B w' v bs t u := by
  obtain ⟨x, c, hv, h⟩ := h; exact ⟨x, c, hv, h.below hb⟩

end Go.Proofs.Ytiignammhieidaa
