/-
  Own work: copies and comparisons of taps and of states, as the laws make them (written by wip/mksf.py).
-/
import Derived.Test.YtmnoelfabldpfaaSvE
namespace Go.Proofs.Ytmnoelfabldpfaa
open Go.ChangeShapes Go.WideShapes Go.ChangeAt Go.RowKit
set_option linter.unusedVariables false
structure TT (w wr : World) (g n : Nat) (T : List Int) (k : Nat) : Prop where
  below : Below w.heap.size w wr
  blk : ∃ cur : Array Value, wr.heap[g]? = some (.cells cur 94 (0, 0)) ∧ cur.size = n * 2 ∧ ∀ i, i < k * 2 → cur[i]? = some (.int .i64 (T.getD i 0))
theorem TT.step {w wr w1 : World} {g n : Nat} {T : List Int} {k : Nat} (h : TT w wr g n T k) (hk : k < n) (hg : w.heap.size ≤ g) (hb : Below wr.heap.size wr w1) :
    TT w ((w1.setCell ⟨g, k * 2, none⟩ (.int .i64 (T.getD (k * 2) 0))).setCell ⟨g, k * 2 + 1, none⟩ (.int .i64 (T.getD (k * 2 + 1) 0))) g n T (k + 1) := by
  obtain ⟨cur, h1, h2, h3⟩ := h.blk
  have hgl := (Array.getElem?_eq_some_iff.1 h1).1
  have h1' : w1.heap[g]? = some (.cells cur 94 (0, 0)) := by rw [hb.block g hgl]; exact h1
  have e1 := heap_setCell_same w1 g (k * 2) _ _ (.int .i64 (T.getD (k * 2) 0)) h1'
  have e2 := heap_setCell_same _ g (k * 2 + 1) _ _ (.int .i64 (T.getD (k * 2 + 1) 0)) e1
  refine ⟨((h.below.trans (hb.mono h.below.size)).setCell hg _).setCell hg _, ⟨_, e2, by simp [h2], fun i hi => ?_⟩⟩
  by_cases ea : i = k * 2
  · subst ea
    rw [Array.getElem?_setIfInBounds_ne (by omega), Array.getElem?_setIfInBounds_self_of_lt (by omega)]
  · by_cases eb : i = k * 2 + 1
    · subst eb
      rw [Array.getElem?_setIfInBounds_self_of_lt (by simp; omega)]
    · rw [Array.getElem?_setIfInBounds_ne (by omega), Array.getElem?_setIfInBounds_ne (by omega)]; exact h3 i (by omega)
/-- What toState answers. -/
def ToS (w : World) (D U : List Int) (k : Int) (T : List Int) (nD nU nT : Nat) (e : Ending) (w' : World) : Prop :=
  ∃ gD gU gT, e = .returned (.agg #[.slice (some ⟨gD, 0, none⟩) nD nD, .slice (some ⟨gU, 0, none⟩) nU nU, .int .i64 k, .slice (some ⟨gT, 0, none⟩) nT nT]) ∧ At .i64 w' (some ⟨gD, 0, none⟩) D ∧ At .i64 w' (some ⟨gU, 0, none⟩) U ∧ At .i64 w' (some ⟨gT, 0, none⟩) T ∧ Below w.heap.size w w'
end Go.Proofs.Ytmnoelfabldpfaa
