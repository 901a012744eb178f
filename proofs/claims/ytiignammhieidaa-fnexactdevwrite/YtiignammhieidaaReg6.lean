/-
  Own work: the sixth form of the rule for a region that draws its order: as the first, and what is said may name which operations are through.
-/
import Derived.Test.YtiignammhieidaaReg5
namespace Go.Proofs.Ytiignammhieidaa
open Go.ChangeShapes Go.WideShapes Go.ChangeAt Go.RowKit
set_option linter.unusedVariables false
section
variable {P : Program} {ops : Array Oper} {Q : Exit → Act → World → Prop} {md : Region.Mode}
/-- THE RULE. -/
theorem wpAny_slotsE (M : Nat → World → World → Prop) (frame : (Nat → Value) → Act) (Ext : (Nat → Bool) → World → Prop) (Good : Nat → (Nat → Bool) → World → Value → Prop)
    (hstab : ∀ j L w w' i v, M i w w' → i ≠ j → L i = false → Good j L w v → Good j (updK L i) w' v)
    (hguard : ops.all (fun o => o.guard.isNone) = true)
    (hback : (List.range ops.size).all (fun i => ((ops[i]?).map (fun o => o.after.all (fun e => decide (e.on < i)))).getD false) = true)
    (hop : ∀ (i : Nat) (o : Oper) (L : Nat → Bool) (u : Nat → Value) (w : World), ops[i]? = some o → L i = false → Ext L w → (∀ e ∈ o.after, Region.binds md e = true → Good e.on L w (u e.on)) →
      ∀ K : Act → World → Prop, (∀ w' v, Good i (updK L i) w' v → Ext (updK L i) w' → M i w w' → K (frame (upd u i v)) w') → Oper.wp P o (frame u) w K Q)
    (hdone : ∀ L u w, Ext L w → (∀ i, i < ops.size → Good i L w (u i)) → Q .normal (frame u) w) :
    ∀ (fuel : Nat) (listed : Array Bool) (u : Nat → Value) (w : World), listed.size = ops.size → Ext (fun n => listed.getD n false) w → (∀ i, i < ops.size → listed.getD i false = true → Good i (fun n => listed.getD n false) w (u i)) →
      (listed.toList.filter (!·)).length ≤ fuel → wpAny P md ops Q fuel listed (frame u) w := by
  have hb : ∀ (i : Nat) (o : Oper), ops[i]? = some o → ∀ e ∈ o.after, e.on < i := fun i o ho e he => by
    have hi : i < ops.size := (Array.getElem?_eq_some_iff.1 ho).1
    have := List.all_eq_true.1 hback i (List.mem_range.2 hi)
    rw [ho] at this
    simp at this
    obtain ⟨k, hk, rfl⟩ := Array.mem_iff_getElem.1 he
    exact this k hk
  have hg : ∀ (i : Nat) (o : Oper), ops[i]? = some o → o.guard = none := fun i o ho => by
    have := Array.all_eq_true_iff_forall_mem.1 hguard o (Array.mem_of_getElem? ho)
    simpa using this
  have hfin : ∀ (listed : Array Bool) (u : Nat → Value) (w : World), listed.size = ops.size → Ext (fun n => listed.getD n false) w → (∀ i, i < ops.size → listed.getD i false = true → Good i (fun n => listed.getD n false) w (u i)) → Region.ready md ops listed = [] → Q .normal (frame u) w := by
    intro listed u w hs he hgd hr
    refine hdone _ u w he fun i hi => hgd i hi ?_
    have hall : ∀ n i, i < n → i < ops.size → listed.getD i false = true := by
      intro n
      induction n with
      | zero => intro i h; omega
      | succ n ih =>
        intro i hin hi
        by_cases hlt : i < n
        · exact ih i hlt hi
        · cases hl : listed.getD i false with
          | true => rfl
          | false =>
            exfalso
            have hl' : listed.getD i true = false := by
              have hil : i < listed.size := by omega
              simp [hil] at hl ⊢; exact hl
            have : i ∈ Region.ready md ops listed := mem_ready.2 ⟨hi, hl', ops[i], by simp [hi], fun e hee _ => ih e.on (by have := hb i ops[i] (by simp [hi]) e hee; omega) (by have := hb i ops[i] (by simp [hi]) e hee; omega)⟩
            rw [hr] at this; cases this
    exact hall (i + 1) i (by omega) hi
  intro fuel
  induction fuel with
  | zero =>
    intro listed u w hs he hgd hc
    have hr : Region.ready md ops listed = [] := by
      apply List.eq_nil_iff_forall_not_mem.2
      intro i hi
      obtain ⟨h1, h2, _⟩ := mem_ready.1 hi
      have hil : i < listed.size := by omega
      have h3 : listed[i] = false := by simpa [hil] using h2
      have : listed[i] ∈ listed.toList.filter (!·) := by
        rw [List.mem_filter]; exact ⟨by simp, by rw [h3]; rfl⟩
      have := List.length_pos_of_mem this
      omega
    exact ⟨hr, hfin listed u w hs he hgd hr⟩
  | succ fuel ih =>
    intro listed u w hs he hgd hc
    refine ⟨fun hr => hfin listed u w hs he hgd hr, fun i hi => ?_⟩
    obtain ⟨h1, h2, o, ho, h3⟩ := mem_ready.1 hi
    refine wpOp_step ho fun K hK => ?_
    have hw : Region.wanted o (yielded ops (frame u).tmps) = true := by simp [Region.wanted, hg i o ho]
    rw [if_pos hw]
    have hil : i < listed.size := by omega
    have hnl : listed.getD i false = false := by simp [hil] at h2 ⊢; exact h2
    have hupd : (fun n => (listed.setIfInBounds i true).getD n false) = updK (fun n => listed.getD n false) i := by
      funext n; rw [getD_set listed i n hil]; rfl
    refine hop i o (fun n => listed.getD n false) u w ho hnl he (fun e hee hbd => hgd e.on (by have := hb i o ho e hee; omega) (h3 e hee hbd)) K fun w' v hgv hext hm => hK _ _ ?_
    refine ih _ _ w' (by simpa using hs) (by rw [hupd]; exact hext) (fun j hj hlj => ?_) ?_
    · rw [getD_set listed i j hil] at hlj
      unfold upd
      by_cases hji : j = i
      · subst hji; rw [hupd]; simpa using hgv
      · rw [if_neg hji] at hlj; rw [if_neg hji, hupd]; exact hstab j _ w w' i _ hm (Ne.symm hji) hnl (hgd j hj hlj)
    · have : listed.toList[i]? = some false := by simp [hil] at h2; simp [hil, h2]
      have := count_set listed.toList i this
      rw [Array.toList_setIfInBounds]
      omega

end
end Go.Proofs.Ytiignammhieidaa
