/-
  Own work: lists that a region that draws its order makes, each in a block of its own.
-/
import Derived.Test.YthghkfncpdnpoacRegU
import Derived.Test.YthghkfncpdnpoacOwnB
namespace Go.Proofs.Ythghkfncpdnpoac
open Go.ChangeShapes Go.WideShapes Go.ChangeAt Go.RowKit
set_option linter.unusedVariables false

/-- The value's block is new in w'. -/
def Fresh (w w' : World) (v : Value) : Prop := ∀ k, v.ownBlock = some k → w.heap.size ≤ k ∧ k < w'.heap.size
def BlkLt (w : World) (v : Value) : Prop := ∀ k, v.ownBlock = some k → k < w.heap.size
def ApV (x y : Value) : Prop := ∀ k, x.ownBlock = some k → y.ownBlock ≠ some k
structure ApX (W : World) (ps : List Nat) (L : Nat → Bool) (u : Nat → Value) (w : World) : Prop where
  below : Below W.heap.size W w
  blt : ∀ p, p ∈ ps → L p = true → BlkLt w (u p)
  ap : ∀ p, p ∈ ps → ∀ q, q ∈ ps → p ≠ q → L p = true → L q = true → ApV (u p) (u q)
theorem ApX.start (W : World) (ps : List Nat) (L : Nat → Bool) (u : Nat → Value) (h : ∀ i, L i = false) : ApX W ps L u W :=
  ⟨Below.refl _ _, fun p _ hp => (by rw [h] at hp; cases hp), fun p _ q _ _ hp => (by rw [h] at hp; cases hp)⟩
theorem ApX.step {W : World} {ps : List Nat} {L : Nat → Bool} {u : Nat → Value} {w w' : World} (h : ApX W ps L u w) (i : Nat) (v : Value) (b : Below w.heap.size w w') (hv : i ∈ ps → Fresh w w' v) : ApX W ps (updK L i) (upd u i v) w' := by
  refine ⟨h.below.trans (b.mono h.below.size), fun p hp hl => ?_, fun p hp q hq hne hlp hlq => ?_⟩
  · by_cases e : p = i
    · subst e
      simp only [upd, if_true]
      exact fun k hk => (hv hp k hk).2
    · simp only [updK, if_neg e] at hl
      simp only [upd, if_neg e]
      exact fun k hk => Nat.lt_of_lt_of_le (h.blt p hp hl k hk) b.size
  · by_cases e : p = i
    · subst e
      have e2 : ¬ q = p := fun h => hne h.symm
      simp only [updK, if_neg e2] at hlq
      simp only [upd, if_true, if_neg e2]
      intro k hk hk'
      have h1 := (hv hp k hk).1
      have h2 := h.blt q hq hlq k hk'
      omega
    · by_cases e2 : q = i
      · subst e2
        simp only [updK, if_neg e] at hlp
        simp only [upd, if_true, if_neg e]
        intro k hk hk'
        have h1 := (hv hq k hk').1
        have h2 := h.blt p hp hlp k hk
        omega
      · simp only [updK, if_neg e, if_neg e2] at hlp hlq
        simp only [upd, if_neg e, if_neg e2]
        exact h.ap p hp q hq hne hlp hlq
theorem ApX.drew {W : World} {ps : List Nat} {L : Nat → Bool} {u : Nat → Value} {w : World} (h : ApX W ps L u w) : ApX W ps L u w.drew := ⟨⟨h.below.os, h.below.tape, h.below.output, h.below.size, h.below.block⟩, h.blt, h.ap⟩
/-- As ApX, with a last operation that stores the answer into block R. -/
structure ApS (w : World) (R last : Nat) (T : TypeId) (ZS : Array Value) (Fin : World → Array Value → Prop) (ps : List Nat) (L : Nat → Bool) (u : Nat → Value) (w' : World) : Prop where
  ax : ApX w ps L u w'
  pre : L last = false → w'.heap[R]? = some (.cells ZS T (0, 0))
  fin : L last = true → ∃ cs, w'.heap[R]? = some (.cells cs T (0, 0)) ∧ Fin w' cs
section
variable {w : World} {R last : Nat} {T : TypeId} {ZS : Array Value} {Fin : World → Array Value → Prop} {ps : List Nat} {L : Nat → Bool} {u : Nat → Value} {w' w'' : World}
theorem ApS.lt (h : ApS w R last T ZS Fin ps L u w') : R < w'.heap.size := by
  cases hl : L last with
  | false => exact (Array.getElem?_eq_some_iff.1 (h.pre hl)).1
  | true => obtain ⟨cs, h1, _⟩ := h.fin hl; exact (Array.getElem?_eq_some_iff.1 h1).1
theorem ApS.step (h : ApS w R last T ZS Fin ps L u w') (stab : ∀ a b cs, Below a.heap.size a b → Fin a cs → Fin b cs) (i : Nat) (hi : i ≠ last) (v : Value) (b : Below w'.heap.size w' w'') (hv : i ∈ ps → Fresh w' w'' v) : ApS w R last T ZS Fin ps (updK L i) (upd u i v) w'' := by
  have hlt := h.lt
  have e : updK L i last = L last := by unfold updK; rw [if_neg (fun h => hi h.symm)]
  refine ⟨h.ax.step i v b hv, fun hl => ?_, fun hl => ?_⟩
  · rw [b.block R hlt]; exact h.pre (e ▸ hl)
  · obtain ⟨cs, h1, h2⟩ := h.fin (e ▸ hl)
    exact ⟨cs, by rw [b.block R hlt]; exact h1, stab _ _ _ b h2⟩
theorem ApS.put (h : ApS w R last T ZS Fin ps L u w') (hR : w.heap.size ≤ R) (hl : last ∉ ps) (v : Value) {cs : Array Value} (hw : Wr R w' w'') (hr : w''.heap[R]? = some (.cells cs T (0, 0))) (hf : Fin w'' cs) : ApS w R last T ZS Fin ps (updK L last) (upd u last v) w'' := by
  have hk : ∀ p, p ∈ ps → p ≠ last := fun p hp e => hl (e ▸ hp)
  refine ⟨⟨h.ax.below.trans (hw.below hR), fun p hp hlp => ?_, fun p hp q hq hne hlp hlq => ?_⟩, fun hx => ?_, fun _ => ⟨cs, hr, hf⟩⟩
  · simp only [updK, if_neg (hk p hp)] at hlp
    simp only [upd, if_neg (hk p hp)]
    exact fun k hk' => by rw [hw.size]; exact h.ax.blt p hp hlp k hk'
  · simp only [updK, if_neg (hk p hp)] at hlp
    simp only [updK, if_neg (hk q hq)] at hlq
    simp only [upd, if_neg (hk p hp), if_neg (hk q hq)]
    exact h.ax.ap p hp q hq hne hlp hlq
  · unfold updK at hx; simp at hx
theorem ApS.start {wb : World} (ax : ApX w ps L u wb) (h : ∀ i, L i = false) (hr : wb.heap[R]? = some (.cells ZS T (0, 0))) : ApS w R last T ZS Fin ps L u wb := ⟨ax, fun _ => hr, fun hl => (by rw [h] at hl; cases hl)⟩
end
end Go.Proofs.Ythghkfncpdnpoac
