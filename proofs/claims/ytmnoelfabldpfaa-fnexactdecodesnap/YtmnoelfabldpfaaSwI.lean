/-
  Own work: a book handed out as a state, by the program (written by wip/mkswi.py).
-/
import Derived.Test.YtmnoelfabldpfaaSwC
import Derived.Test.YtmnoelfabldpfaaMRegU
namespace Go.Proofs.Ytmnoelfabldpfaa
open Go.ChangeShapes Go.WideShapes Go.ChangeAt Go.RowKit
set_option linter.unusedVariables false

theorem Iow.mono {B B' : Nat} {w : World} {v : Value} {xs : List Int} (h : Iow B' w v xs) (hB : B ≤ B') : Iow B w v xs := by
  refine ⟨h.1, ?_⟩
  rcases h.2 with h' | ⟨g, c, cur, h1, h2, h3⟩
  · exact .inl h'
  · exact .inr ⟨g, c, cur, h1, by omega, h3⟩
theorem Iow.fresh {w w' : World} {v : Value} {xs : List Int} (h : Iow w.heap.size w' v xs) : Fresh w w' v := fun k hk => by
  rcases h.2 with ⟨h', _⟩ | ⟨g, c, cur, h', hb, hh, _⟩
  · rw [h'] at hk; simp [Value.ownBlock] at hk
  · rw [h'] at hk; simp [Value.ownBlock] at hk
    have := (Array.getElem?_eq_some_iff.1 hh).1
    omega
theorem Iow.form {B : Nat} {w : World} {v : Value} {xs : List Int} (h : Iow B w v xs) : ∃ a n c, v = .slice a n c := by
  rcases h.2 with ⟨h', _⟩ | ⟨g, c, cur, h', _⟩
  · exact ⟨_, _, _, h'⟩
  · exact ⟨_, _, _, h'⟩
theorem Iow.keep {B : Nat} {w w' : World} {v : Value} {xs : List Int} (h : Iow B w v xs) (hb : ∀ k, B ≤ k → k < w.heap.size → w'.heap[k]? = w.heap[k]?) : Iow B w' v xs := by
  refine ⟨h.1, ?_⟩
  rcases h.2 with h' | ⟨g, c, cur, h1, h2, h3, h4⟩
  · exact .inl h'
  · exact .inr ⟨g, c, cur, h1, h2, by rw [hb g h2 (Array.getElem?_eq_some_iff.1 h3).1]; exact h3, h4⟩
theorem Iow.below {B : Nat} {w w' : World} {v : Value} {xs : List Int} (h : Iow B w v xs) (b : Below w.heap.size w w') : Iow B w' v xs := h.keep (fun k _ hk => b.block k hk)
theorem Iow.wr {B R : Nat} {w w' : World} {v : Value} {xs : List Int} (h : Iow B w v xs) (hw : Wr R w w') (hR : R < B) : Iow B w' v xs := h.keep (fun k hk _ => hw.block k (by omega))
/-- The cells of a state that was handed out. -/
def StFin (lo : Nat) (k : Int) (aT : Option Addr) (nT cT : Nat) (X Y : List Int) (w : World) (cs : Array Value) : Prop :=
  ∃ aD nD cD aU nU cU, cs = #[.slice aD nD cD, .slice aU nU cU, .int .i64 k, .slice aT nT cT] ∧ Iow lo w (.slice aD nD cD) X ∧ Iow lo w (.slice aU nU cU) Y ∧ ApV (.slice aD nD cD) (.slice aU nU cU)
theorem StFin.below {lo : Nat} {k : Int} {aT : Option Addr} {nT cT : Nat} {X Y : List Int} {w w' : World} {cs : Array Value} (h : StFin lo k aT nT cT X Y w cs) (b : Below w.heap.size w w') : StFin lo k aT nT cT X Y w' cs := by
  obtain ⟨aD, nD, cD, aU, nU, cU, e, h1, h2, h3⟩ := h; exact ⟨aD, nD, cD, aU, nU, cU, e, h1.below b, h2.below b, h3⟩
def StBd (lo : Nat) (k : Int) (aT : Option Addr) (nT cT : Nat) (X Y : List Int) (w : World) (v : Value) : Prop := ∃ cs, v = .agg cs ∧ StFin lo k aT nT cT X Y w cs
theorem StBd.below {lo : Nat} {k : Int} {aT : Option Addr} {nT cT : Nat} {X Y : List Int} {w w' : World} {v : Value} (h : StBd lo k aT nT cT X Y w v) (b : Below w.heap.size w w') : StBd lo k aT nT cT X Y w' v := by
  obtain ⟨cs, e, h⟩ := h; exact ⟨cs, e, h.below b⟩
theorem StBd.wr {lo R : Nat} {k : Int} {aT : Option Addr} {nT cT : Nat} {X Y : List Int} {w w' : World} {v : Value} (h : StBd lo k aT nT cT X Y w v) (hw : Wr R w w') (hR : R < lo) : StBd lo k aT nT cT X Y w' v := by
  obtain ⟨cs, e, aD, nD, cD, aU, nU, cU, e2, h1, h2, h3⟩ := h; exact ⟨cs, e, aD, nD, cD, aU, nU, cU, e2, h1.wr hw hR, h2.wr hw hR, h3⟩
end Go.Proofs.Ytmnoelfabldpfaa
