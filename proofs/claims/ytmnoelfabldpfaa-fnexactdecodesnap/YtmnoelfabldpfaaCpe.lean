/-
  Own work: copies of structs, as the laws make them: what lies where.
-/
import Derived.Test.YtmnoelfabldpfaaSvG
import Derived.Test.YtmnoelfabldpfaaMRegU
namespace Go.Proofs.Ytmnoelfabldpfaa
open Go.ChangeShapes Go.WideShapes Go.ChangeAt Go.RowKit
set_option linter.unusedVariables false

/-- A copy under way: the argument's box, the answer's cells, the copy. -/
structure CE (w : World) (tb tr : TypeId) (sc zs vs : Array Value) (wr : World) : Prop where
  below : Below w.heap.size w wr
  box : wr.heap[w.heap.size]? = some (.cells sc tb (0, 0))
  res : wr.heap[w.heap.size + 1]? = some (.cells zs tr (0, 0))
  var : wr.heap[w.heap.size + 1 + 1]? = some (.cells vs tr (0, 0))
theorem CE.lt {w wr : World} {tb tr : TypeId} {sc zs vs : Array Value} (h : CE w tb tr sc zs vs wr) : w.heap.size + 1 + 1 < wr.heap.size := (Array.getElem?_eq_some_iff.1 h.var).1
theorem CE.call {w wr w' : World} {tb tr : TypeId} {sc zs vs : Array Value} (h : CE w tb tr sc zs vs wr) (b : Below wr.heap.size wr w') : CE w tb tr sc zs vs w' := by
  have := h.lt
  exact ⟨h.below.trans (b.mono h.below.size), by rw [b.block _ (by omega)]; exact h.box, by rw [b.block _ (by omega)]; exact h.res, by rw [b.block _ (by omega)]; exact h.var⟩
theorem CE.put {w wr : World} {tb tr : TypeId} {sc zs vs : Array Value} (h : CE w tb tr sc zs vs wr) (i : Nat) (v : Value) : CE w tb tr sc zs (vs.setIfInBounds i v) (wr.setCell ⟨w.heap.size + 1 + 1, i, none⟩ v) := by
  have hw : Wr (w.heap.size + 1 + 1) wr (wr.setCell ⟨w.heap.size + 1 + 1, i, none⟩ v) := (Wr.refl _ _).setCell _ _
  exact ⟨h.below.trans (hw.below (by omega)), (hw.block _ (by omega)).trans h.box, (hw.block _ (by omega)).trans h.res, heap_setCell_same _ _ _ _ _ _ h.var⟩
theorem CE.start (w : World) (tb tr : TypeId) (sc zs vs : Array Value) : CE w tb tr sc zs vs (((w.alloc (.cells sc tb)).alloc (.cells zs tr)).alloc (.cells vs tr)) := by
  refine ⟨(((Below.refl _ _).alloc (Nat.le_refl _) _).alloc (by simp) _).alloc (by simp; omega) _, ?_, ?_, ?_⟩
  · rw [Below.heap_alloc _ _ w.heap.size (by simp; omega), Below.heap_alloc _ _ w.heap.size (by simp)]; exact heap_alloc_new w _
  · rw [Below.heap_alloc _ _ (w.heap.size + 1) (by simp)]
    have := heap_alloc_new (w.alloc (.cells sc tb)) (.cells zs tr)
    rwa [show (w.alloc (.cells sc tb)).heap.size = w.heap.size + 1 by simp] at this
  · have := heap_alloc_new ((w.alloc (.cells sc tb)).alloc (.cells zs tr)) (.cells vs tr)
    rwa [show ((w.alloc (.cells sc tb)).alloc (.cells zs tr)).heap.size = w.heap.size + 1 + 1 by simp] at this
/-- Block g is a row. -/
def RowV (w : World) (g : Nat) (t : TypeId) (cs : Array Value) : Prop := w.heap[g]? = some (.cells cs t (0, 0))
theorem RowV.lt {w : World} {g : Nat} {t : TypeId} {cs : Array Value} (h : RowV w g t cs) : g < w.heap.size := (Array.getElem?_eq_some_iff.1 h).1
theorem RowV.below {w w' : World} {g : Nat} {t : TypeId} {cs : Array Value} (h : RowV w g t cs) (b : Below w.heap.size w w') : RowV w' g t cs := by unfold RowV; rw [b.block g h.lt]; exact h
theorem RowV.wr {w w' : World} {g V : Nat} {t : TypeId} {cs : Array Value} (h : RowV w g t cs) (hw : Wr V w w') (hne : V < g) : RowV w' g t cs := by unfold RowV; rw [hw.block g (by omega)]; exact h
def iC (xs : List Int) : Array Value := (xs.map (Value.int .i64)).toArray
theorem RowV.i64 {w : World} {g : Nat} {t : TypeId} {xs : List Int} (h : RowV w g t (iC xs)) : At .i64 w (some ⟨g, 0, none⟩) xs :=
  .inr ⟨g, 0, rfl, h.lt, fun i hi => by rw [Nat.zero_add, cell_of_row w g i _ _ _ h]; simp [iC, hi]⟩
theorem RowV.fz {w : World} {g : Nat} {t : TypeId} {cs : Array Value} (h : RowV w g t cs) (i : Nat) : w.frozen? ⟨g, i, none⟩ = false := frozen_of_row w g i _ _ h
theorem RowV.of_owns {w : World} {B g n : Nat} {xs : List Int} (h : w.ownsRow B 2 1 (.slice (some ⟨g, 0, none⟩) n n) n (xs.map (Value.int .i64))) : RowV w g 2 (iC xs) := by
  rcases h.2 with ⟨h', _⟩ | ⟨g', cap, cur, h', hb, hh, hc, hm, hs, ht⟩
  · cases h'
  · cases h'
    unfold RowV
    rw [hh]
    have : cur = iC xs := by
      apply Array.toList_inj.1
      rw [List.take_of_length_le (by rw [Array.length_toList, hs]; exact Nat.le_refl _)] at ht
      rw [ht]; simp [iC]
    rw [this]
theorem row_full {cur : Array Value} {xs : List Int} {m : Nat} (hs : cur.size = m) (hl : xs.length = m) (h : ∀ i, i < m → cur[i]? = some (.int .i64 (xs.getD i 0))) : cur = iC xs := by
  apply Array.ext_getElem?
  intro i
  by_cases hi : i < m
  · rw [h i hi]; simp [iC, show i < xs.length by omega]
  · rw [Array.getElem?_eq_none (by omega), Array.getElem?_eq_none (by simp [iC]; omega)]
end Go.Proofs.Ytmnoelfabldpfaa
