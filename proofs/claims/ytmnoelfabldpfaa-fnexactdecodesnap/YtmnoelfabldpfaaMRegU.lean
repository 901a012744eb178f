/-
  Own work: the tenth form of the rule for a region that draws its order: as the eighth, what is kept may name the slots.
-/
import Derived.Test.YtmnoelfabldpfaaMReg8
import Derived.Test.YtmnoelfabldpfaaMWrd
namespace Go.Proofs.Ytmnoelfabldpfaa
open Go.ChangeShapes Go.WideShapes Go.ChangeAt Go.RowKit
set_option linter.unusedVariables false
section
variable {P : Program} {ops : Array Oper} {Q : Exit → Act → World → Prop} {md : Region.Mode}
/-- THE RULE. -/
theorem wpAny_slotsU (M : Nat → World → World → Prop) (frame : (Nat → Value) → Act) (Ext : (Nat → Bool) → (Nat → Value) → World → Prop) (Good : Nat → (Nat → Bool) → World → Value → Prop)
    (hstab : ∀ j L w w' i v, M i w w' → i ≠ j → L i = false → Good j L w v → Good j (updK L i) w' v)
    (hback : (List.range ops.size).all (fun i => ((ops[i]?).map (fun o => o.after.all (fun e => decide (e.on < i)))).getD false) = true)
    (hop : ∀ (i : Nat) (o : Oper) (L : Nat → Bool) (u : Nat → Value) (w : World), ops[i]? = some o → L i = false → Ext L u w → (∀ e ∈ o.after, Region.binds md e = true → L e.on = true ∧ Good e.on L w (u e.on)) →
      ∀ K : Act → World → Prop, (∀ w' v, Good i (updK L i) w' v → Ext (updK L i) (upd u i v) w' → M i w w' → K (frame (upd u i v)) w') → (if Region.wanted o (yielded ops (frame u).tmps) = true then Oper.wp P o (frame u) w K Q else K ((frame u).put o.dst undef) w))
    (hdone : ∀ L u w, Ext L u w → (∀ i, i < ops.size → Good i L w (u i)) → Q .normal (frame u) w) :
    ∀ (fuel : Nat) (listed : Array Bool) (u : Nat → Value) (w : World), listed.size = ops.size → Ext (fun n => listed.getD n false) u w → (∀ i, i < ops.size → listed.getD i false = true → Good i (fun n => listed.getD n false) w (u i)) →
      (listed.toList.filter (!·)).length ≤ fuel → wpAny P md ops Q fuel listed (frame u) w := by
  have hb : ∀ (i : Nat) (o : Oper), ops[i]? = some o → ∀ e ∈ o.after, e.on < i := fun i o ho e he => by
    have hi : i < ops.size := (Array.getElem?_eq_some_iff.1 ho).1
    have := List.all_eq_true.1 hback i (List.mem_range.2 hi)
    rw [ho] at this
    simp at this
    obtain ⟨k, hk, rfl⟩ := Array.mem_iff_getElem.1 he
    exact this k hk
  have hfin : ∀ (listed : Array Bool) (u : Nat → Value) (w : World), listed.size = ops.size → Ext (fun n => listed.getD n false) u w → (∀ i, i < ops.size → listed.getD i false = true → Good i (fun n => listed.getD n false) w (u i)) → Region.ready md ops listed = [] → Q .normal (frame u) w := by
    intro listed u w hs he hgd hr
    refine hdone _ u w he fun i hi => hgd i hi ?_
    have hall : ∀ n i, i < n → i < ops.size → listed.getD i false = true := by
      intro n
      induction n with
      | zero => intro i h; omega
      | succ n ih =>
        intro i hin hi
        by_cases hlt : i < n
        · exact ih i hlt hi
        · cases hl : listed.getD i false with
          | true => rfl
          | false =>
            exfalso
            have hl' : listed.getD i true = false := by
              have hil : i < listed.size := by omega
              simp [hil] at hl ⊢; exact hl
            have : i ∈ Region.ready md ops listed := mem_ready.2 ⟨hi, hl', ops[i], by simp [hi], fun e hee _ => ih e.on (by have := hb i ops[i] (by simp [hi]) e hee; omega) (by have := hb i ops[i] (by simp [hi]) e hee; omega)⟩
            rw [hr] at this; cases this
    exact hall (i + 1) i (by omega) hi
  intro fuel
  induction fuel with
  | zero =>
    intro listed u w hs he hgd hc
    have hr : Region.ready md ops listed = [] := by
      apply List.eq_nil_iff_forall_not_mem.2
      intro i hi
      obtain ⟨h1, h2, _⟩ := mem_ready.1 hi
      have hil : i < listed.size := by omega
      have h3 : listed[i] = false := by simpa [hil] using h2
      have : listed[i] ∈ listed.toList.filter (!·) := by
        rw [List.mem_filter]; exact ⟨by simp, by rw [h3]; rfl⟩
      have := List.length_pos_of_mem this
      omega
    exact ⟨hr, hfin listed u w hs he hgd hr⟩
  | succ fuel ih =>
    intro listed u w hs he hgd hc
    refine ⟨fun hr => hfin listed u w hs he hgd hr, fun i hi => ?_⟩
    obtain ⟨h1, h2, o, ho, h3⟩ := mem_ready.1 hi
    refine wpOp_step ho fun K hK => ?_
    have hil : i < listed.size := by omega
    have hnl : listed.getD i false = false := by simp [hil] at h2 ⊢; exact h2
    have hupd : (fun n => (listed.setIfInBounds i true).getD n false) = updK (fun n => listed.getD n false) i := by
      funext n; rw [getD_set listed i n hil]; rfl
    refine hop i o (fun n => listed.getD n false) u w ho hnl he (fun e hee hbd => ⟨h3 e hee hbd, hgd e.on (by have := hb i o ho e hee; omega) (h3 e hee hbd)⟩) K fun w' v hgv hext hm => hK _ _ ?_
    refine ih _ _ w' (by simpa using hs) (by rw [hupd]; exact hext) (fun j hj hlj => ?_) ?_
    · rw [getD_set listed i j hil] at hlj
      unfold upd
      by_cases hji : j = i
      · subst hji; rw [hupd]; simpa using hgv
      · rw [if_neg hji] at hlj; rw [if_neg hji, hupd]; exact hstab j _ w w' i _ hm (Ne.symm hji) hnl (hgd j hj hlj)
    · have : listed.toList[i]? = some false := by simp [hil] at h2; simp [hil, h2]
      have := count_set listed.toList i this
      rw [Array.toList_setIfInBounds]
      omega

end
end Go.Proofs.Ytmnoelfabldpfaa
namespace Go.Proofs.Ytmnoelfabldpfaa
open Go.ChangeShapes Go.WideShapes Go.ChangeAt Go.RowKit
set_option linter.unusedVariables false

/-- The value's block is new in w'. -/
def Fresh (w w' : World) (v : Value) : Prop := ∀ k, v.ownBlock = some k → w.heap.size ≤ k ∧ k < w'.heap.size
def BlkLt (w : World) (v : Value) : Prop := ∀ k, v.ownBlock = some k → k < w.heap.size
def ApV (x y : Value) : Prop := ∀ k, x.ownBlock = some k → y.ownBlock ≠ some k
structure ApX (W : World) (ps : List Nat) (L : Nat → Bool) (u : Nat → Value) (w : World) : Prop where
  below : Below W.heap.size W w
  blt : ∀ p, p ∈ ps → L p = true → BlkLt w (u p)
  ap : ∀ p, p ∈ ps → ∀ q, q ∈ ps → p ≠ q → L p = true → L q = true → ApV (u p) (u q)
theorem ApX.start (W : World) (ps : List Nat) (L : Nat → Bool) (u : Nat → Value) (h : ∀ i, L i = false) : ApX W ps L u W :=
  ⟨Below.refl _ _, fun p _ hp => (by rw [h] at hp; cases hp), fun p _ q _ _ hp => (by rw [h] at hp; cases hp)⟩
theorem ApX.step {W : World} {ps : List Nat} {L : Nat → Bool} {u : Nat → Value} {w w' : World} (h : ApX W ps L u w) (i : Nat) (v : Value) (b : Below w.heap.size w w') (hv : i ∈ ps → Fresh w w' v) : ApX W ps (updK L i) (upd u i v) w' := by
  refine ⟨h.below.trans (b.mono h.below.size), fun p hp hl => ?_, fun p hp q hq hne hlp hlq => ?_⟩
  · by_cases e : p = i
    · subst e
      simp only [upd, if_true]
      exact fun k hk => (hv hp k hk).2
    · simp only [updK, if_neg e] at hl
      simp only [upd, if_neg e]
      exact fun k hk => Nat.lt_of_lt_of_le (h.blt p hp hl k hk) b.size
  · by_cases e : p = i
    · subst e
      have e2 : ¬ q = p := fun h => hne h.symm
      simp only [updK, if_neg e2] at hlq
      simp only [upd, if_true, if_neg e2]
      intro k hk hk'
      have h1 := (hv hp k hk).1
      have h2 := h.blt q hq hlq k hk'
      omega
    · by_cases e2 : q = i
      · subst e2
        simp only [updK, if_neg e] at hlp
        simp only [upd, if_true, if_neg e]
        intro k hk hk'
        have h1 := (hv hq k hk').1
        have h2 := h.blt p hp hlp k hk
        omega
      · simp only [updK, if_neg e, if_neg e2] at hlp hlq
        simp only [upd, if_neg e, if_neg e2]
        exact h.ap p hp q hq hne hlp hlq
theorem ApX.drew {W : World} {ps : List Nat} {L : Nat → Bool} {u : Nat → Value} {w : World} (h : ApX W ps L u w) : ApX W ps L u w.drew := ⟨⟨h.below.os, h.below.tape, h.below.output, h.below.size, h.below.block⟩, h.blt, h.ap⟩
/-- As ApX, with a last operation that stores the answer into block R. -/
structure ApS (w : World) (R last : Nat) (T : TypeId) (ZS : Array Value) (Fin : World → Array Value → Prop) (ps : List Nat) (L : Nat → Bool) (u : Nat → Value) (w' : World) : Prop where
  ax : ApX w ps L u w'
  pre : L last = false → w'.heap[R]? = some (.cells ZS T (0, 0))
  fin : L last = true → ∃ cs, w'.heap[R]? = some (.cells cs T (0, 0)) ∧ Fin w' cs
section
variable {w : World} {R last : Nat} {T : TypeId} {ZS : Array Value} {Fin : World → Array Value → Prop} {ps : List Nat} {L : Nat → Bool} {u : Nat → Value} {w' w'' : World}
theorem ApS.lt (h : ApS w R last T ZS Fin ps L u w') : R < w'.heap.size := by
  cases hl : L last with
  | false => exact (Array.getElem?_eq_some_iff.1 (h.pre hl)).1
  | true => obtain ⟨cs, h1, _⟩ := h.fin hl; exact (Array.getElem?_eq_some_iff.1 h1).1
theorem ApS.step (h : ApS w R last T ZS Fin ps L u w') (stab : ∀ a b cs, Below a.heap.size a b → Fin a cs → Fin b cs) (i : Nat) (hi : i ≠ last) (v : Value) (b : Below w'.heap.size w' w'') (hv : i ∈ ps → Fresh w' w'' v) : ApS w R last T ZS Fin ps (updK L i) (upd u i v) w'' := by
  have hlt := h.lt
  have e : updK L i last = L last := by unfold updK; rw [if_neg (fun h => hi h.symm)]
  refine ⟨h.ax.step i v b hv, fun hl => ?_, fun hl => ?_⟩
  · rw [b.block R hlt]; exact h.pre (e ▸ hl)
  · obtain ⟨cs, h1, h2⟩ := h.fin (e ▸ hl)
    exact ⟨cs, by rw [b.block R hlt]; exact h1, stab _ _ _ b h2⟩
theorem ApS.put (h : ApS w R last T ZS Fin ps L u w') (hR : w.heap.size ≤ R) (hl : last ∉ ps) (v : Value) {cs : Array Value} (hw : Wr R w' w'') (hr : w''.heap[R]? = some (.cells cs T (0, 0))) (hf : Fin w'' cs) : ApS w R last T ZS Fin ps (updK L last) (upd u last v) w'' := by
  have hk : ∀ p, p ∈ ps → p ≠ last := fun p hp e => hl (e ▸ hp)
  refine ⟨⟨h.ax.below.trans (hw.below hR), fun p hp hlp => ?_, fun p hp q hq hne hlp hlq => ?_⟩, fun hx => ?_, fun _ => ⟨cs, hr, hf⟩⟩
  · simp only [updK, if_neg (hk p hp)] at hlp
    simp only [upd, if_neg (hk p hp)]
    exact fun k hk' => by rw [hw.size]; exact h.ax.blt p hp hlp k hk'
  · simp only [updK, if_neg (hk p hp)] at hlp
    simp only [updK, if_neg (hk q hq)] at hlq
    simp only [upd, if_neg (hk p hp), if_neg (hk q hq)]
    exact h.ax.ap p hp q hq hne hlp hlq
  · unfold updK at hx; simp at hx
theorem ApS.start {wb : World} (ax : ApX w ps L u wb) (h : ∀ i, L i = false) (hr : wb.heap[R]? = some (.cells ZS T (0, 0))) : ApS w R last T ZS Fin ps L u wb := ⟨ax, fun _ => hr, fun hl => (by rw [h] at hl; cases hl)⟩
end
end Go.Proofs.Ytmnoelfabldpfaa
