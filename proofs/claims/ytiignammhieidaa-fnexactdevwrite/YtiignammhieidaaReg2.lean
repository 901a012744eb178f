/-
  Own work: the second form of the rule for a region that draws its order.
-/
import Derived.Test.YtiignammhieidaaReg
namespace Go.Proofs.Ytiignammhieidaa
open Go.ChangeShapes Go.WideShapes Go.ChangeAt Go.RowKit
set_option linter.unusedVariables false
section
variable {P : Program} {ops : Array Oper} {Q : Exit → Act → World → Prop} {md : Region.Mode}
/-- THE RULE, where an operation may be guarded, may write what another made, and what is said of one slot may name the slots that it waits for. -/
theorem wpAny_slots2 (frame : (Nat → Value) → Act) (Ext : World → Prop) (Good : Nat → World → (Nat → Value) → Prop) (M : Nat → World → World → Prop)
    (hstab : ∀ j o w w' u i v, ops[j]? = some o → M i w w' → i ≠ j → (∀ e ∈ o.after, Region.binds md e = true → e.on ≠ i) → Good j w u → Good j w' (upd u i v))
    (hback : (List.range ops.size).all (fun i => ((ops[i]?).map (fun o => o.after.all (fun e => decide (e.on < i)))).getD false) = true)
    (hop : ∀ (i : Nat) (o : Oper) (u : Nat → Value) (w : World), ops[i]? = some o → Ext w → (∀ e ∈ o.after, Region.binds md e = true → Good e.on w u) →
      ∀ K : Act → World → Prop, (∀ w' v, Good i w' (upd u i v) → Ext w' → M i w w' → K (frame (upd u i v)) w') → if Region.wanted o (yielded ops (frame u).tmps) = true then Oper.wp P o (frame u) w K Q else K ((frame u).put o.dst undef) w)
    (hdone : ∀ u w, Ext w → (∀ i, i < ops.size → Good i w u) → Q .normal (frame u) w) :
    ∀ (fuel : Nat) (listed : Array Bool) (u : Nat → Value) (w : World), listed.size = ops.size → Ext w → (∀ i, i < ops.size → listed.getD i false = true → Good i w u) →
      (∀ (i : Nat) (o : Oper), ops[i]? = some o → listed.getD i false = true → ∀ e ∈ o.after, Region.binds md e = true → listed.getD e.on false = true) → (listed.toList.filter (!·)).length ≤ fuel → wpAny P md ops Q fuel listed (frame u) w := by
  have hb : ∀ (i : Nat) (o : Oper), ops[i]? = some o → ∀ e ∈ o.after, e.on < i := fun i o ho e he => by
    have hi : i < ops.size := (Array.getElem?_eq_some_iff.1 ho).1
    have := List.all_eq_true.1 hback i (List.mem_range.2 hi)
    rw [ho] at this
    simp at this
    obtain ⟨k, hk, rfl⟩ := Array.mem_iff_getElem.1 he
    exact this k hk
  have hfin : ∀ (listed : Array Bool) (u : Nat → Value) (w : World), listed.size = ops.size → Ext w → (∀ i, i < ops.size → listed.getD i false = true → Good i w u) → Region.ready md ops listed = [] → Q .normal (frame u) w := by
    intro listed u w hs he hgd hr
    refine hdone u w he fun i hi => hgd i hi ?_
    have hall : ∀ n i, i < n → i < ops.size → listed.getD i false = true := by
      intro n
      induction n with
      | zero => intro i h; omega
      | succ n ih =>
        intro i hin hi
        by_cases hlt : i < n
        · exact ih i hlt hi
        · cases hl : listed.getD i false with
          | true => rfl
          | false =>
            exfalso
            have hl' : listed.getD i true = false := by
              have hil : i < listed.size := by omega
              simp [hil] at hl ⊢; exact hl
            have : i ∈ Region.ready md ops listed := mem_ready.2 ⟨hi, hl', ops[i], by simp [hi], fun e hee _ => ih e.on (by have := hb i ops[i] (by simp [hi]) e hee; omega) (by have := hb i ops[i] (by simp [hi]) e hee; omega)⟩
            rw [hr] at this; cases this
    exact hall (i + 1) i (by omega) hi
  intro fuel
  induction fuel with
  | zero =>
    intro listed u w hs he hgd hcl hc
    have hr : Region.ready md ops listed = [] := by
      apply List.eq_nil_iff_forall_not_mem.2
      intro i hi
      obtain ⟨h1, h2, _⟩ := mem_ready.1 hi
      have hil : i < listed.size := by omega
      have h3 : listed[i] = false := by simpa [hil] using h2
      have : listed[i] ∈ listed.toList.filter (!·) := by
        rw [List.mem_filter]; exact ⟨by simp, by rw [h3]; rfl⟩
      have := List.length_pos_of_mem this
      omega
    exact ⟨hr, hfin listed u w hs he hgd hr⟩
  | succ fuel ih =>
    intro listed u w hs he hgd hcl hc
    refine ⟨fun hr => hfin listed u w hs he hgd hr, fun i hi => ?_⟩
    obtain ⟨h1, h2, o, ho, h3⟩ := mem_ready.1 hi
    refine wpOp_step ho fun K hK => ?_
    refine hop i o u w ho he (fun e hee hbd => hgd e.on (by have := hb i o ho e hee; omega) (h3 e hee hbd)) K fun w' v hgv hext hm => hK _ _ ?_
    have hil : i < listed.size := by omega
    have hnl : listed.getD i false = false := by simp [hil] at h2 ⊢; exact h2
    refine ih _ _ w' (by simpa using hs) hext (fun j hj hlj => ?_) (fun j oj hoj hlj e hee hbd => ?_) ?_
    · rw [getD_set listed i j hil] at hlj
      by_cases hji : j = i
      · subst hji; exact hgv
      · rw [if_neg hji] at hlj
        exact hstab j ops[j] w w' u i v (by simp [hj]) hm (Ne.symm hji) (fun e hee hbd heq => by
          have := hcl j ops[j] (by simp [hj]) hlj e hee hbd
          rw [heq, hnl] at this; cases this) (hgd j hj hlj)
    · rw [getD_set listed i e.on hil]
      rw [getD_set listed i j hil] at hlj
      split
      · rfl
      · by_cases hji : j = i
        · subst hji
          have : oj = o := by rw [ho] at hoj; exact (Option.some.inj hoj).symm
          subst this
          exact h3 e hee hbd
        · rw [if_neg hji] at hlj
          exact hcl j oj hoj hlj e hee hbd
    · have : listed.toList[i]? = some false := by simp [hil] at h2; simp [hil, h2]
      have := count_set listed.toList i this
      rw [Array.toList_setIfInBounds]
      omega
end
end Go.Proofs.Ytiignammhieidaa
