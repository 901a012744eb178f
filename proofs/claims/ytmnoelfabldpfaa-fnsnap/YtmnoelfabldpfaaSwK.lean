/-
  Own work: a state copied, by the model (written by wip/mkswk.py).
-/
import Derived.Test.YtmnoelfabldpfaaSwI
import Derived.Test.YtmnoelfabldpfaaSwH
import Derived.Test.YtmnoelfabldpfaaMCpe
namespace Go.Proofs.Ytmnoelfabldpfaa
open Go.ChangeShapes Go.WideShapes Go.ChangeAt Go.RowKit
set_option linter.unusedVariables false

theorem TapO.keep {B : Nat} {w w' : World} {v : Value} {T : List Int} {n : Nat} (h : TapO B w v T n) (hb : ∀ k, B ≤ k → k < w.heap.size → w'.heap[k]? = w.heap[k]?) : TapO B w' v T n := by
  refine ⟨h.1, ?_⟩
  rcases h.2 with h' | ⟨g, c, cur, h1, h2, h3, h4⟩
  · exact .inl h'
  · exact .inr ⟨g, c, cur, h1, h2, by rw [hb g h2 (Array.getElem?_eq_some_iff.1 h3).1]; exact h3, h4⟩
theorem TapO.below {B : Nat} {w w' : World} {v : Value} {T : List Int} {n : Nat} (h : TapO B w v T n) (b : Below w.heap.size w w') : TapO B w' v T n := h.keep (fun k _ hk => b.block k hk)
theorem TapO.wrk {B R : Nat} {w w' : World} {v : Value} {T : List Int} {n : Nat} (h : TapO B w v T n) (hw : Wr R w w') (hR : R < B) : TapO B w' v T n := h.keep (fun k hk _ => hw.block k (by omega))
theorem TapO.wr {B R : Nat} {w w' : World} {v : Value} {T : List Int} {n : Nat} (h : TapO B w v T n) (hw : Wr R w w') (hR : R < B) : TapO B w' v T n := h.wrk hw hR
/-- The cells of a copy. -/
def CpFin (lo : Nat) (k : Int) (D U T : List Int) (nT : Nat) (w : World) (cs : Array Value) : Prop :=
  ∃ aD nD cD aU nU cU aT cT, cs = #[.slice aD nD cD, .slice aU nU cU, .int .i64 k, .slice aT nT cT] ∧ Iow lo w (.slice aD nD cD) D ∧ Iow lo w (.slice aU nU cU) U ∧ TapO lo w (.slice aT nT cT) T nT
section
variable {lo lo' R : Nat} {k : Int} {D U T : List Int} {nT : Nat} {w w' : World} {cs : Array Value} {v : Value}
theorem CpFin.below (h : CpFin lo k D U T nT w cs) (b : Below w.heap.size w w') : CpFin lo k D U T nT w' cs := by
  obtain ⟨aD, nD, cD, aU, nU, cU, aT, cT, e, h1, h2, h3⟩ := h; exact ⟨aD, nD, cD, aU, nU, cU, aT, cT, e, h1.below b, h2.below b, h3.below b⟩
theorem CpFin.mono (h : CpFin lo k D U T nT w cs) (hl : lo' ≤ lo) : CpFin lo' k D U T nT w cs := by
  obtain ⟨aD, nD, cD, aU, nU, cU, aT, cT, e, h1, h2, h3⟩ := h; exact ⟨aD, nD, cD, aU, nU, cU, aT, cT, e, h1.mono hl, h2.mono hl, TapO.mono h3 hl⟩
def CpBd (lo : Nat) (k : Int) (D U T : List Int) (nT : Nat) (w : World) (v : Value) : Prop := ∃ cs, v = .agg cs ∧ CpFin lo k D U T nT w cs
theorem CpBd.below (h : CpBd lo k D U T nT w v) (b : Below w.heap.size w w') : CpBd lo k D U T nT w' v := by obtain ⟨cs, e, h⟩ := h; exact ⟨cs, e, h.below b⟩
theorem CpBd.wr (h : CpBd lo k D U T nT w v) (hw : Wr R w w') (hR : R < lo) : CpBd lo k D U T nT w' v := by
  obtain ⟨cs, e, aD, nD, cD, aU, nU, cU, aT, cT, e2, h1, h2, h3⟩ := h; exact ⟨cs, e, aD, nD, cD, aU, nU, cU, aT, cT, e2, h1.wr hw hR, h2.wr hw hR, h3.wr hw hR⟩
end
structure WBF (w wb : World) (sc : Array Value) : Prop where
  p1 : w.heap.size < wb.heap.size
  p2 : wb.heap[w.heap.size]? = some (.cells sc 74 (0, 0))
  p3 : w.heap.size ≤ wb.heap.size
  p4 : wb.heap.size ≤ w.heap.size + 1
end Go.Proofs.Ytmnoelfabldpfaa
