/-
  Own work: a region that draws its order, by what each operation leaves in its slot: one obligation an operation, whatever the order.
-/
import Derived.Test.YtiignammhieidaaBase
import Derived.RegionTactic
namespace Go.Proofs.Ytiignammhieidaa
open Go.ChangeShapes Go.WideShapes Go.ChangeAt Go.RowKit
set_option linter.unusedVariables false

/-- Nothing that was there reads otherwise (marks aside). -/
structure Mono (w w' : World) : Prop where
  size : w.heap.size ≤ w'.heap.size
  cell : ∀ a : Addr, a.block < w.heap.size → w'.cell? a = w.cell? a
  block : ∀ (b : Nat) (cs : Array Value) (t : TypeId) (fr : Nat × Nat), w.heap[b]? = some (Obj.cells cs t fr) → ∃ fr' : Nat × Nat, w'.heap[b]? = some (Obj.cells cs t fr')
theorem Mono.refl (w : World) : Mono w w := ⟨Nat.le_refl _, fun _ _ => rfl, fun b cs t fr h => ⟨fr, h⟩⟩
theorem Mono.of_below {w w' : World} (h : Below w.heap.size w w') : Mono w w' :=
  ⟨h.size, fun a ha => h.cell ha, fun b cs t fr hb => ⟨fr, by rw [h.block b (Array.getElem?_eq_some_iff.1 hb).1]; exact hb⟩⟩

def upd (u : Nat → Value) (i : Nat) (v : Value) : Nat → Value := fun j => if j = i then v else u j

theorem count_set (l : List Bool) : ∀ i, l[i]? = some false → ((l.set i true).filter (!·)).length + 1 = (l.filter (!·)).length := by
  induction l with
  | nil => intro i h; simp at h
  | cons b l ih =>
    intro i h
    cases i with
    | zero => simp at h; subst h; simp
    | succ i =>
      have := ih i (by simpa using h)
      cases b <;> simp at this ⊢ <;> omega

theorem getD_set (l : Array Bool) (i j : Nat) (hi : i < l.size) : (l.setIfInBounds i true).getD j false = if j = i then true else l.getD j false := by
  by_cases h : j = i
  · subst h; simp [hi]
  · simp [h, Ne.symm h]

section
variable {P : Program} {ops : Array Oper} {Q : Exit → Act → World → Prop} {md : Region.Mode}

theorem mem_ready {listed : Array Bool} {i : Nat} : i ∈ Region.ready md ops listed ↔ i < ops.size ∧ listed.getD i true = false ∧ ∃ o, ops[i]? = some o ∧ ∀ e ∈ o.after, Region.binds md e = true → listed.getD e.on false = true := by
  unfold Region.ready
  simp only [List.mem_filter, List.mem_range, Bool.and_eq_true, Bool.not_eq_true']
  constructor
  · rintro ⟨h1, h2, h3⟩
    refine ⟨h1, h2, ?_⟩
    cases ho : ops[i]? with
    | none => simp [ho] at h3
    | some o =>
      refine ⟨o, rfl, fun e he hb => ?_⟩
      simp [ho] at h3
      rcases Array.mem_iff_getElem.1 he with ⟨k, hk, rfl⟩
      have := h3 k hk
      simp [hb] at this
      simpa using this
  · rintro ⟨h1, h2, o, ho, h3⟩
    refine ⟨h1, h2, ?_⟩
    simp [ho]
    intro k hk
    by_cases hb : Region.binds md o.after[k] = true
    · right; simpa using h3 _ (Array.getElem_mem hk) hb
    · left; simpa using hb

/-- THE RULE. -/
theorem wpAny_slotsM (M : World → World → Prop) (frame : (Nat → Value) → Act) (Ext : World → Prop) (Good : Nat → World → Value → Prop)
    (hmono : ∀ i w w' v, M w w' → Good i w v → Good i w' v)
    (hguard : ops.all (fun o => o.guard.isNone) = true)
    (hback : (List.range ops.size).all (fun i => ((ops[i]?).map (fun o => o.after.all (fun e => decide (e.on < i)))).getD false) = true)
    (hop : ∀ (i : Nat) (o : Oper) (u : Nat → Value) (w : World), ops[i]? = some o → Ext w → (∀ e ∈ o.after, Region.binds md e = true → Good e.on w (u e.on)) →
      ∀ K : Act → World → Prop, (∀ w' v, Good i w' v → Ext w' → M w w' → K (frame (upd u i v)) w') → Oper.wp P o (frame u) w K Q)
    (hdone : ∀ u w, Ext w → (∀ i, i < ops.size → Good i w (u i)) → Q .normal (frame u) w) :
    ∀ (fuel : Nat) (listed : Array Bool) (u : Nat → Value) (w : World), listed.size = ops.size → Ext w → (∀ i, i < ops.size → listed.getD i false = true → Good i w (u i)) →
      (listed.toList.filter (!·)).length ≤ fuel → wpAny P md ops Q fuel listed (frame u) w := by
  have hb : ∀ (i : Nat) (o : Oper), ops[i]? = some o → ∀ e ∈ o.after, e.on < i := fun i o ho e he => by
    have hi : i < ops.size := (Array.getElem?_eq_some_iff.1 ho).1
    have := List.all_eq_true.1 hback i (List.mem_range.2 hi)
    rw [ho] at this
    simp at this
    obtain ⟨k, hk, rfl⟩ := Array.mem_iff_getElem.1 he
    exact this k hk
  have hg : ∀ (i : Nat) (o : Oper), ops[i]? = some o → o.guard = none := fun i o ho => by
    have := Array.all_eq_true_iff_forall_mem.1 hguard o (Array.mem_of_getElem? ho)
    simpa using this
  have hfin : ∀ (listed : Array Bool) (u : Nat → Value) (w : World), listed.size = ops.size → Ext w → (∀ i, i < ops.size → listed.getD i false = true → Good i w (u i)) → Region.ready md ops listed = [] → Q .normal (frame u) w := by
    intro listed u w hs he hgd hr
    refine hdone u w he fun i hi => hgd i hi ?_
    have hall : ∀ n i, i < n → i < ops.size → listed.getD i false = true := by
      intro n
      induction n with
      | zero => intro i h; omega
      | succ n ih =>
        intro i hin hi
        by_cases hlt : i < n
        · exact ih i hlt hi
        · cases hl : listed.getD i false with
          | true => rfl
          | false =>
            exfalso
            have hl' : listed.getD i true = false := by
              have hil : i < listed.size := by omega
              simp [hil] at hl ⊢; exact hl
            have : i ∈ Region.ready md ops listed := mem_ready.2 ⟨hi, hl', ops[i], by simp [hi], fun e hee _ => ih e.on (by have := hb i ops[i] (by simp [hi]) e hee; omega) (by have := hb i ops[i] (by simp [hi]) e hee; omega)⟩
            rw [hr] at this; cases this
    exact hall (i + 1) i (by omega) hi
  intro fuel
  induction fuel with
  | zero =>
    intro listed u w hs he hgd hc
    have hr : Region.ready md ops listed = [] := by
      apply List.eq_nil_iff_forall_not_mem.2
      intro i hi
      obtain ⟨h1, h2, _⟩ := mem_ready.1 hi
      have hil : i < listed.size := by omega
      have h3 : listed[i] = false := by simpa [hil] using h2
      have : listed[i] ∈ listed.toList.filter (!·) := by
        rw [List.mem_filter]; exact ⟨by simp, by rw [h3]; rfl⟩
      have := List.length_pos_of_mem this
      omega
    exact ⟨hr, hfin listed u w hs he hgd hr⟩
  | succ fuel ih =>
    intro listed u w hs he hgd hc
    refine ⟨fun hr => hfin listed u w hs he hgd hr, fun i hi => ?_⟩
    obtain ⟨h1, h2, o, ho, h3⟩ := mem_ready.1 hi
    refine wpOp_step ho fun K hK => ?_
    have hw : Region.wanted o (yielded ops (frame u).tmps) = true := by simp [Region.wanted, hg i o ho]
    rw [if_pos hw]
    refine hop i o u w ho he (fun e hee hbd => hgd e.on (by have := hb i o ho e hee; omega) (h3 e hee hbd)) K fun w' v hgv hext hm => hK _ _ ?_
    have hil : i < listed.size := by omega
    refine ih _ _ w' (by simpa using hs) hext (fun j hj hlj => ?_) ?_
    · rw [getD_set listed i j hil] at hlj
      unfold upd
      by_cases hji : j = i
      · subst hji; simpa using hgv
      · rw [if_neg hji] at hlj; rw [if_neg hji]; exact hmono j w w' _ hm (hgd j hj hlj)
    · have : listed.toList[i]? = some false := by simp [hil] at h2; simp [hil, h2]
      have := count_set listed.toList i this
      rw [Array.toList_setIfInBounds]
      omega

theorem wpAny_slots (frame : (Nat → Value) → Act) (Ext : World → Prop) (Good : Nat → World → Value → Prop)
    (hmono : ∀ i w w' v, Mono w w' → Good i w v → Good i w' v)
    (hguard : ops.all (fun o => o.guard.isNone) = true)
    (hback : (List.range ops.size).all (fun i => ((ops[i]?).map (fun o => o.after.all (fun e => decide (e.on < i)))).getD false) = true)
    (hop : ∀ (i : Nat) (o : Oper) (u : Nat → Value) (w : World), ops[i]? = some o → Ext w → (∀ e ∈ o.after, Region.binds md e = true → Good e.on w (u e.on)) →
      ∀ K : Act → World → Prop, (∀ w' v, Good i w' v → Ext w' → Mono w w' → K (frame (upd u i v)) w') → Oper.wp P o (frame u) w K Q)
    (hdone : ∀ u w, Ext w → (∀ i, i < ops.size → Good i w (u i)) → Q .normal (frame u) w) :
    ∀ (fuel : Nat) (listed : Array Bool) (u : Nat → Value) (w : World), listed.size = ops.size → Ext w → (∀ i, i < ops.size → listed.getD i false = true → Good i w (u i)) →
      (listed.toList.filter (!·)).length ≤ fuel → wpAny P md ops Q fuel listed (frame u) w :=
  wpAny_slotsM Mono frame Ext Good hmono hguard hback hop hdone
end
end Go.Proofs.Ytiignammhieidaa
