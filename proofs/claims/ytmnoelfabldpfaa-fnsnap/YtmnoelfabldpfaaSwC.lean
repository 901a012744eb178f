/-
  Own work: what a frame makes of a state, and the frame applied to a book by the program.
-/
import Derived.Test.YtmnoelfabldpfaaMSwA
namespace Go.Proofs.Ytmnoelfabldpfaa
open Go.ChangeShapes Go.WideShapes Go.ChangeAt Go.RowKit
set_option linter.unusedVariables false

structure ApR where
  ok : Bool
  D : List Int
  U : List Int
  k : Int
  T : List Int
  n : Nat
def apNo : ApR := ⟨false, [], [], 0, [], 0⟩
open Classical in
noncomputable def withS (xs : List Int) (a : Nat) : List Int := upTo (fun v => decide ((v : Int) ∈ xs ∨ v = a)) 256
def lessS (xs : List Int) (a : Nat) : List Int := xs.filter (fun z => z != (a : Int))
open Classical in
/-- What a frame of the kind, with a and b, makes of a state. -/
noncomputable def apR (D U : List Int) (k : Int) (T : List Int) (n : Nat) (kind : Int) (a b : Nat) : ApR :=
  if kind = 1 then (if a < 256 ∧ ¬ (a : Int) ∈ U ∧ ¬ (a : Int) ∈ D then ⟨true, D, withS U a, k, T ++ [(a : Int), (b : Int)], n + 1⟩ else apNo)
  else if kind = 2 then (if b = 1 ∧ a < 256 ∧ ¬ (a : Int) ∈ D ∧ ¬ D.length = 16 then ⟨true, withS D a, U, k, T, n⟩ else if b = 0 ∧ a < 256 ∧ (a : Int) ∈ D then ⟨true, lessS D a, U, k, T, n⟩ else apNo)
  else if kind = 3 then (if b = 0 ∧ (a : Int) ≤ k + n then ⟨true, D, U, max a k, T.drop (ackM k a * 2), n - ackM k a⟩ else apNo)
  else apNo
theorem withS_mem {xs : List Int} {a v : Nat} (h : v < 256) : ((v : Int) ∈ xs ∨ v = a) ↔ (v : Int) ∈ withS xs a := by
  unfold withS
  rw [upTo_mem]
  constructor
  · intro hv; exact ⟨v, h, decide_eq_true hv, rfl⟩
  · rintro ⟨v', h1, h2, h3⟩
    have : v = v' := by omega
    subst this
    exact of_decide_eq_true h2
theorem lessS_mem {xs : List Int} {a v : Nat} : ((v : Int) ∈ xs ∧ v ≠ a) ↔ (v : Int) ∈ lessS xs a := by
  unfold lessS
  rw [List.mem_filter]
  constructor
  · rintro ⟨h1, h2⟩; exact ⟨h1, by rw [bne_iff_ne]; omega⟩
  · rintro ⟨h1, h2⟩; exact ⟨h1, by rw [bne_iff_ne] at h2; omega⟩
def apPost (H B g : Nat) (w : World) (r : ApR) : Ending → World → Prop := ApP H B g w r.ok (fun v => (v : Int) ∈ r.D) (fun v => (v : Int) ∈ r.U) r.k r.T r.n
theorem ApP.to {H B g : Nat} {w w1 : World} {D D' U U' : Nat → Prop} {k : Int} {T : List Int} {n : Nat} {ok : Bool} {e : Ending} {w' : World} (h : ApP H B g w ok D U k T n e w') (hb : Below H w1 w) (hD : ∀ v, v < 256 → (D v ↔ D' v)) (hU : ∀ v, v < 256 → (U v ↔ U' v)) : ApP H B g w1 ok D' U' k T n e w' := by
  obtain ⟨h1, h2, h3⟩ := h
  refine ⟨h1, hb.trans h2, fun ho => ?_⟩
  obtain ⟨d, u, v, r1, r2, r3, r4, r5⟩ := h3 ho
  exact ⟨d, u, v, r1, r2.congr hD, r3.congr hU, r4, r5⟩
end Go.Proofs.Ytmnoelfabldpfaa
