/-
  Own work: the ninth form of the rule for a region that draws its order: as the eighth; what is kept may name the slots.
-/
import Derived.Test.YthghkfncpdnpoacReg5
import Derived.Test.YthghkfncpdnpoacMIInv
namespace Go.Proofs.Ythghkfncpdnpoac
open Go.ChangeShapes Go.WideShapes Go.ChangeAt Go.RowKit
set_option linter.unusedVariables false
section
variable {P : Program} {ops : Array Oper} {Q : Exit → Act → World → Prop} {md : Region.Mode}
/-- THE RULE. -/
theorem wpAny_slotsU (M : Nat → World → World → Prop) (frame : (Nat → Value) → Act) (Ext : (Nat → Bool) → (Nat → Value) → World → Prop) (Good : Nat → (Nat → Bool) → World → Value → Prop)
    (hstab : ∀ j L w w' i v, M i w w' → i ≠ j → L i = false → Good j L w v → Good j (updK L i) w' v)
    (hback : (List.range ops.size).all (fun i => ((ops[i]?).map (fun o => o.after.all (fun e => decide (e.on < i)))).getD false) = true)
    (hop : ∀ (i : Nat) (o : Oper) (L : Nat → Bool) (u : Nat → Value) (w : World), ops[i]? = some o → L i = false → Ext L u w → (∀ e ∈ o.after, Region.binds md e = true → Good e.on L w (u e.on)) →
      ∀ K : Act → World → Prop, (∀ w' v, Good i (updK L i) w' v → Ext (updK L i) (upd u i v) w' → M i w w' → K (frame (upd u i v)) w') → (if Region.wanted o (yielded ops (frame u).tmps) = true then Oper.wp P o (frame u) w K Q else K ((frame u).put o.dst undef) w))
    (hdone : ∀ L u w, Ext L u w → (∀ i, i < ops.size → Good i L w (u i)) → Q .normal (frame u) w) :
    ∀ (fuel : Nat) (listed : Array Bool) (u : Nat → Value) (w : World), listed.size = ops.size → Ext (fun n => listed.getD n false) u w → (∀ i, i < ops.size → listed.getD i false = true → Good i (fun n => listed.getD n false) w (u i)) →
      (listed.toList.filter (!·)).length ≤ fuel → wpAny P md ops Q fuel listed (frame u) w := by
  have hb : ∀ (i : Nat) (o : Oper), ops[i]? = some o → ∀ e ∈ o.after, e.on < i := fun i o ho e he => by
    have hi : i < ops.size := (Array.getElem?_eq_some_iff.1 ho).1
    have := List.all_eq_true.1 hback i (List.mem_range.2 hi)
    rw [ho] at this
    simp at this
    obtain ⟨k, hk, rfl⟩ := Array.mem_iff_getElem.1 he
    exact this k hk
  have hfin : ∀ (listed : Array Bool) (u : Nat → Value) (w : World), listed.size = ops.size → Ext (fun n => listed.getD n false) u w → (∀ i, i < ops.size → listed.getD i false = true → Good i (fun n => listed.getD n false) w (u i)) → Region.ready md ops listed = [] → Q .normal (frame u) w := by
    intro listed u w hs he hgd hr
    refine hdone _ u w he fun i hi => hgd i hi ?_
    have hall : ∀ n i, i < n → i < ops.size → listed.getD i false = true := by
      intro n
      induction n with
      | zero => intro i h; omega
      | succ n ih =>
        intro i hin hi
        by_cases hlt : i < n
        · exact ih i hlt hi
        · cases hl : listed.getD i false with
          | true => rfl
          | false =>
            exfalso
            have hl' : listed.getD i true = false := by
              have hil : i < listed.size := by omega
              simp [hil] at hl ⊢; exact hl
            have : i ∈ Region.ready md ops listed := mem_ready.2 ⟨hi, hl', ops[i], by simp [hi], fun e hee _ => ih e.on (by have := hb i ops[i] (by simp [hi]) e hee; omega) (by have := hb i ops[i] (by simp [hi]) e hee; omega)⟩
            rw [hr] at this; cases this
    exact hall (i + 1) i (by omega) hi
  intro fuel
  induction fuel with
  | zero =>
    intro listed u w hs he hgd hc
    have hr : Region.ready md ops listed = [] := by
      apply List.eq_nil_iff_forall_not_mem.2
      intro i hi
      obtain ⟨h1, h2, _⟩ := mem_ready.1 hi
      have hil : i < listed.size := by omega
      have h3 : listed[i] = false := by simpa [hil] using h2
      have : listed[i] ∈ listed.toList.filter (!·) := by
        rw [List.mem_filter]; exact ⟨by simp, by rw [h3]; rfl⟩
      have := List.length_pos_of_mem this
      omega
    exact ⟨hr, hfin listed u w hs he hgd hr⟩
  | succ fuel ih =>
    intro listed u w hs he hgd hc
    refine ⟨fun hr => hfin listed u w hs he hgd hr, fun i hi => ?_⟩
    obtain ⟨h1, h2, o, ho, h3⟩ := mem_ready.1 hi
    refine wpOp_step ho fun K hK => ?_
    have hil : i < listed.size := by omega
    have hnl : listed.getD i false = false := by simp [hil] at h2 ⊢; exact h2
    have hupd : (fun n => (listed.setIfInBounds i true).getD n false) = updK (fun n => listed.getD n false) i := by
      funext n; rw [getD_set listed i n hil]; rfl
    refine hop i o (fun n => listed.getD n false) u w ho hnl he (fun e hee hbd => hgd e.on (by have := hb i o ho e hee; omega) (h3 e hee hbd)) K fun w' v hgv hext hm => hK _ _ ?_
    refine ih _ _ w' (by simpa using hs) (by rw [hupd]; exact hext) (fun j hj hlj => ?_) ?_
    · rw [getD_set listed i j hil] at hlj
      unfold upd
      by_cases hji : j = i
      · subst hji; rw [hupd]; simpa using hgv
      · rw [if_neg hji] at hlj; rw [if_neg hji, hupd]; exact hstab j _ w w' i _ hm (Ne.symm hji) hnl (hgd j hj hlj)
    · have : listed.toList[i]? = some false := by simp [hil] at h2; simp [hil, h2]
      have := count_set listed.toList i this
      rw [Array.toList_setIfInBounds]
      omega

end
end Go.Proofs.Ythghkfncpdnpoac
namespace Go.Proofs.Ythghkfncpdnpoac
open Go.ChangeShapes Go.WideShapes Go.ChangeAt Go.RowKit
set_option linter.unusedVariables false

structure RunD (w wr : World) (R : List (Nat × List Int)) (E : List (Nat × Nat × List Int)) : Prop where
  below : Below w.heap.size w wr
  rows : ∀ r ∈ R, w.heap.size ≤ r.1 ∧ RowW wr r.1 82 r.2 ∧ EOk r.2
  order : R.Pairwise fun a b => a.1 ≠ b.1
  els : ∀ e ∈ E, e.1 < w.heap.size ∧ EAt wr e.1 e.2.1 e.2.2
section
variable {w wr w' : World} {R : List (Nat × List Int)} {E : List (Nat × Nat × List Int)}
theorem RunD.start (w : World) (E : List (Nat × Nat × List Int)) (h : ∀ e ∈ E, EAt w e.1 e.2.1 e.2.2) : RunD w w [] E :=
  ⟨Below.refl _ _, by simp, List.Pairwise.nil, fun e he => ⟨(h e he).1, h e he⟩⟩
theorem RunD.call (h : RunD w wr R E) (b : Below wr.heap.size wr w') : RunD w w' R E :=
  ⟨h.below.trans (b.mono h.below.size), fun r hr => ⟨(h.rows r hr).1, (h.rows r hr).2.1.below b (h.rows r hr).2.1.lt, (h.rows r hr).2.2⟩, h.order, fun e he => ⟨(h.els e he).1, (h.els e he).2.below b⟩⟩
theorem RunD.one (h : RunD w wr R E) (b : Below wr.heap.size wr w') {g : Nat} {es : List Int} (hg : wr.heap.size ≤ g) (hr : RowW w' g 82 es) (hk : EOk es) :
    RunD w w' ((g, es) :: R) E := by
  have c := h.call b
  refine ⟨c.below, ?_, ?_, c.els⟩
  · intro r hm
    rcases List.mem_cons.1 hm with rfl | hm
    · exact ⟨Nat.le_trans h.below.size hg, hr, hk⟩
    · exact c.rows r hm
  · exact List.Pairwise.cons (fun r hm e => by have := (h.rows r hm).2.1.lt; simp only at e; omega) h.order
theorem RunD.two (h : RunD w wr R E) (b : Below wr.heap.size wr w') {g g' : Nat} {es es' : List Int} (hg : wr.heap.size ≤ g) (hr : RowW w' g 82 es) (hk : EOk es)
    (hg' : wr.heap.size ≤ g') (hr' : RowW w' g' 82 es') (hk' : EOk es') (hne : g ≠ g') : RunD w w' ((g', es') :: (g, es) :: R) E := by
  have c := h.one b hg hr hk
  refine ⟨c.below, ?_, ?_, c.els⟩
  · intro r hm
    rcases List.mem_cons.1 hm with rfl | hm
    · exact ⟨Nat.le_trans h.below.size hg', hr', hk'⟩
    · exact c.rows r hm
  · refine List.Pairwise.cons (fun r hm e => ?_) c.order
    rcases List.mem_cons.1 hm with rfl | hm
    · exact hne e.symm
    · have := (h.rows r hm).2.1.lt; simp only at e; omega
theorem RunD.room (h : RunD w wr R E) :
    RunD w (wr.alloc (.cells #[.int .u64 0, .int .u64 0, .int .u64 0, .int .u64 0, .int .u64 0] 82)) ((wr.heap.size, [0, 0, 0, 0, 0]) :: R) E :=
  h.one (below_new2 _ _) (Nat.le_refl _) (row0 wr) zero_ok
theorem RunD.room2 (h : RunD w wr R E) :
    RunD w ((wr.alloc (.cells #[.int .u64 0, .int .u64 0, .int .u64 0, .int .u64 0, .int .u64 0] 82)).alloc (.cells #[.int .u64 0, .int .u64 0, .int .u64 0, .int .u64 0, .int .u64 0] 82)) ((wr.heap.size + 1, [0, 0, 0, 0, 0]) :: (wr.heap.size, [0, 0, 0, 0, 0]) :: R) E := by
  have := h.room.room
  rwa [show (wr.alloc (.cells #[.int .u64 0, .int .u64 0, .int .u64 0, .int .u64 0, .int .u64 0] 82)).heap.size = wr.heap.size + 1 by simp] at this
theorem RunD.el (h : RunD w wr R E) (i : Nat) (g o : Nat) (es : List Int) (hi : E[i]? = some (g, o, es)) : EAt wr g o es :=
  (h.els _ (List.mem_of_getElem? hi)).2
theorem RunD.row (h : RunD w wr R E) (i : Nat) (g : Nat) (es : List Int) (hi : R[i]? = some (g, es)) : RowW wr g 82 es :=
  (h.rows _ (List.mem_of_getElem? hi)).2.1
theorem RunD.ok (h : RunD w wr R E) (i : Nat) (g : Nat) (es : List Int) (hi : R[i]? = some (g, es)) : EOk es :=
  (h.rows _ (List.mem_of_getElem? hi)).2.2
theorem RunD.re (h : RunD w wr R E) (i : Nat) (g : Nat) (es : List Int) (hi : R[i]? = some (g, es)) : EAt wr g 0 es :=
  EAt.of_row (h.row i g es hi) (h.ok i g es hi)
theorem RunD.put (h : RunD w wr R E) (i : Nat) (g : Nat) (zs es : List Int) (hi : R[i]? = some (g, zs)) (hw : Wr g wr w') (hr : RowW w' g 82 es) (hk : EOk es) :
    RunD w w' (R.set i (g, es)) E := by
  have hg : w.heap.size ≤ g := (h.rows _ (List.mem_of_getElem? hi)).1
  have hil : i < R.length := (List.getElem?_eq_some_iff.1 hi).1
  have hie : R[i] = (g, zs) := (List.getElem?_eq_some_iff.1 hi).2
  have ho := List.pairwise_iff_getElem.1 h.order
  refine ⟨h.below.trans (hw.below hg), ?_, ?_, fun e he => ⟨(h.els e he).1, (h.els e he).2.wr hw (by have := (h.els e he).1; omega)⟩⟩
  · intro r hm
    obtain ⟨j, hj, rfl⟩ := List.getElem_of_mem hm
    rw [List.length_set] at hj
    rw [List.getElem_set]
    split
    · exact ⟨hg, hr, hk⟩
    · rename_i hne
      have q := h.rows _ (List.getElem_mem hj)
      refine ⟨q.1, hw.rowW q.2.1 ?_, q.2.2⟩
      rcases Nat.lt_or_gt_of_ne hne with hlt | hgt
      · have := ho i j hil hj hlt; rw [hie] at this; exact fun e => this e.symm
      · have := ho j i hj hil hgt; rw [hie] at this; exact this
  · rw [List.pairwise_iff_getElem]
    intro a b ha hb hab
    rw [List.length_set] at ha hb
    have := ho a b ha hb hab
    rw [List.getElem_set, List.getElem_set]
    split <;> split <;> simp_all
end
/-- A variable of the call's own that is given a value. -/
theorem wpList_storeD {w wr : World} {R : List (Nat × List Int)} {E : List (Nat × Nat × List Int)} (S : RunD w wr R E)
    {ops : Array Oper} {rest : List Oper} {o : Oper} {a : Act} {Q : Exit → Act → World → Prop} (hgd : o.guard = none) (x y : Operand) (ho : o.op = .store 82 x y)
    (i g : Nat) (zs es : List Int) (hi : R[i]? = some (g, zs)) (hx : a.eval x = .pointer (some ⟨g, 0, none⟩)) (hy : a.eval y = .agg (es.map (Value.int .u64)).toArray) (hk : EOk es)
    {wa : World} (hwa : wa = wr)
    (hK : ∀ w', RunD w w' (R.set i (g, es)) E → wpList Try.prog ops Q rest (a.put o.dst undef) w') :
    wpList Try.prog ops Q (o :: rest) a wa := by
  subst hwa
  exact wpList_storeE hgd x y ho g es zs hx hy hk.1 (S.ok i g zs hi).1 (S.row i g zs hi) fun w' hr hw => hK w' (S.put i g zs es hi hw hr hk)

/-- An element, as a value. -/
def EV (x : Int) (v : Value) : Prop := ∃ es, EOk es ∧ ev es = x ∧ v = .agg (es.map (Value.int .u64)).toArray
theorem EV.elim_ {x : Int} {v : Value} {C : Prop} (h : EV x v) (k : ∀ es, EOk es → ev es = x → v = .agg (es.map (Value.int .u64)).toArray → C) : C := by
  obtain ⟨es, a, b, c⟩ := h; exact k es a b c
theorem upd_neD {u : Nat → Value} {i j : Nat} {v : Value} (h : i ≠ j) : upd u i v j = u j := by unfold upd; rw [if_neg (Ne.symm h)]
theorem updK_ne' {L : Nat → Bool} {i j : Nat} (h : j ≠ i) : updK L i j = L j := by unfold updK; simp [h]
theorem updK_same' {L : Nat → Bool} {i : Nat} : updK L i i = true := by unfold updK; simp
/-- One new variable of a statement that draws: made by operation A, given its value by S. -/
def NwV (W : World) (A S : Nat) (X : Int) (L : Nat → Bool) (u : Nat → Value) (w' : World) : Prop :=
  (L S = true → L A = true) ∧ (L A = true → ∃ g es, u A = .pointer (some ⟨g, 0, none⟩) ∧ W.heap.size ≤ g ∧ RowW w' g 82 es ∧ EOk es ∧ (L S = true → ev es = X))
/-- The world in such a statement, with two of them. -/
structure ExA (W : World) (A1 A2 S1 S2 : Nat) (X1 X2 : Int) (L : Nat → Bool) (u : Nat → Value) (w' : World) : Prop where
  below : Below W.heap.size W w'
  v1 : NwV W A1 S1 X1 L u w'
  v2 : NwV W A2 S2 X2 L u w'
  ne : L A1 = true → L A2 = true → ∀ g g', u A1 = .pointer (some ⟨g, 0, none⟩) → u A2 = .pointer (some ⟨g', 0, none⟩) → g ≠ g'
section
variable {W w' ww : World} {A1 A2 S1 S2 A S : Nat} {X1 X2 X : Int} {L : Nat → Bool} {u : Nat → Value}
theorem NwV.low (h : NwV W A S X L u w') (i : Nat) (hA : A ≠ i) (hS : S ≠ i) (v : Value) (hb : ∀ g, (Obj.cells #[] 0 = Obj.cells #[] 0) → L A = true → ∀ es, u A = .pointer (some ⟨g, 0, none⟩) → RowW w' g 82 es → RowW ww g 82 es) : NwV W A S X (updK L i) (upd u i v) ww := by
  refine ⟨by rw [updK_ne' hA, updK_ne' hS]; exact h.1, ?_⟩
  rw [updK_ne' hA, updK_ne' hS]
  intro hL
  obtain ⟨g, es, h1, h2, h3, h4, h5⟩ := h.2 hL
  exact ⟨g, es, by rw [upd_neD (Ne.symm hA)]; exact h1, h2, hb g rfl hL es h1 h3, h4, h5⟩
theorem ExA.low (h : ExA W A1 A2 S1 S2 X1 X2 L u w') (i : Nat) (h1 : A1 ≠ i) (h2 : A2 ≠ i) (h3 : S1 ≠ i) (h4 : S2 ≠ i) (v : Value) (b : Below w'.heap.size w' ww) : ExA W A1 A2 S1 S2 X1 X2 (updK L i) (upd u i v) ww :=
  ⟨h.below.trans (b.mono h.below.size), h.v1.low i h1 h3 v (fun g _ _ es _ r => r.below b r.lt), h.v2.low i h2 h4 v (fun g _ _ es _ r => r.below b r.lt), by
    rw [updK_ne' h1, updK_ne' h2, upd_neD (Ne.symm h1), upd_neD (Ne.symm h2)]; exact h.ne⟩
theorem ExA.start (W : World) (L : Nat → Bool) (u : Nat → Value) (h1 : L A1 = false) (h2 : L A2 = false) (h3 : L S1 = false) (h4 : L S2 = false) (b : Below W.heap.size W w') : ExA W A1 A2 S1 S2 X1 X2 L u w' :=
  ⟨b, ⟨fun h => (by rw [h3] at h; cases h), fun h => (by rw [h1] at h; cases h)⟩, ⟨fun h => (by rw [h4] at h; cases h), fun h => (by rw [h2] at h; cases h)⟩, fun h => (by rw [h1] at h; cases h)⟩
theorem ExA.swap (h : ExA W A1 A2 S1 S2 X1 X2 L u w') : ExA W A2 A1 S2 S1 X2 X1 L u w' := ⟨h.below, h.v2, h.v1, fun a b g g' e e' q => h.ne b a g' g e' e q.symm⟩
theorem ExA.alloc1 (h : ExA W A1 A2 S1 S2 X1 X2 L u w') (hL : L A1 = false) (h2 : A2 ≠ A1) (h3 : S1 ≠ A1) (h4 : S2 ≠ A1) :
    ExA W A1 A2 S1 S2 X1 X2 (updK L A1) (upd u A1 (.pointer (some ⟨w'.heap.size, 0, none⟩))) (w'.alloc (.cells #[.int .u64 0, .int .u64 0, .int .u64 0, .int .u64 0, .int .u64 0] 82)) := by
  have b := below_new2 w' (.cells #[.int .u64 0, .int .u64 0, .int .u64 0, .int .u64 0, .int .u64 0] 82)
  have hS : L S1 = false := by
    cases q : L S1 with
    | false => rfl
    | true => have := h.v1.1 q; rw [hL] at this; cases this
  refine ⟨h.below.trans (b.mono h.below.size), ⟨fun _ => updK_same', fun _ => ⟨w'.heap.size, [0, 0, 0, 0, 0], by unfold upd; simp, h.below.size, row0 w', zero_ok, by rw [updK_ne' h3, hS]; intro q; cases q⟩⟩, h.v2.low A1 h2 h4 _ (fun g _ _ es _ r => r.below b r.lt), ?_⟩
  rw [updK_ne' h2, upd_neD (Ne.symm h2)]
  intro _ q g g' e e' hg
  obtain ⟨g2, es, k1, k2, k3, _⟩ := h.v2.2 q
  have e1 : g = w'.heap.size := by unfold upd at e; simp at e; exact e.symm
  rw [k1] at e'
  have e2 : g2 = g' := by simpa using e'
  have := k3.lt
  omega
theorem ExA.alloc2 (h : ExA W A1 A2 S1 S2 X1 X2 L u w') (hL : L A2 = false) (h2 : A1 ≠ A2) (h3 : S2 ≠ A2) (h4 : S1 ≠ A2) :
    ExA W A1 A2 S1 S2 X1 X2 (updK L A2) (upd u A2 (.pointer (some ⟨w'.heap.size, 0, none⟩))) (w'.alloc (.cells #[.int .u64 0, .int .u64 0, .int .u64 0, .int .u64 0, .int .u64 0] 82)) :=
  (h.swap.alloc1 hL h2 h3 h4).swap
theorem ExA.store1 (h : ExA W A1 A2 S1 S2 X1 X2 L u w') {g : Nat} {es : List Int} (hL : L A1 = true) (hg : u A1 = .pointer (some ⟨g, 0, none⟩)) (h1 : A1 ≠ S1) (h2 : A2 ≠ S1) (h4 : S2 ≠ S1) (hk : EOk es) (hv : ev es = X1) (hw : Wr g w' ww) (hr : RowW ww g 82 es) (v : Value) :
    ExA W A1 A2 S1 S2 X1 X2 (updK L S1) (upd u S1 v) ww := by
  obtain ⟨g0, es0, k1, k2, k3, k4, k5⟩ := h.v1.2 hL
  have e0 : g0 = g := by rw [k1] at hg; simpa using hg
  subst e0
  refine ⟨h.below.trans (hw.below k2), ⟨fun _ => by rw [updK_ne' h1]; exact hL, fun _ => ⟨g0, es, by rw [upd_neD (Ne.symm h1)]; exact hg, k2, hr, hk, fun _ => hv⟩⟩, h.v2.low S1 h2 h4 v (fun g' _ q es' e' r => hw.rowW r (fun e => h.ne hL q g0 g' k1 e' e.symm)), ?_⟩
  rw [updK_ne' h1, updK_ne' h2, upd_neD (Ne.symm h1), upd_neD (Ne.symm h2)]; exact h.ne
theorem ExA.store2 (h : ExA W A1 A2 S1 S2 X1 X2 L u w') {g : Nat} {es : List Int} (hL : L A2 = true) (hg : u A2 = .pointer (some ⟨g, 0, none⟩)) (h1 : A2 ≠ S2) (h2 : A1 ≠ S2) (h4 : S1 ≠ S2) (hk : EOk es) (hv : ev es = X2) (hw : Wr g w' ww) (hr : RowW ww g 82 es) (v : Value) :
    ExA W A1 A2 S1 S2 X1 X2 (updK L S2) (upd u S2 v) ww := (h.swap.store1 hL hg h1 h2 h4 hk hv hw hr v).swap
theorem ExA.fin1 (h : ExA W A1 A2 S1 S2 X1 X2 L u w') (hS : L S1 = true) : ∃ g es, u A1 = .pointer (some ⟨g, 0, none⟩) ∧ W.heap.size ≤ g ∧ RowW w' g 82 es ∧ EOk es ∧ ev es = X1 := by
  obtain ⟨g, es, k1, k2, k3, k4, k5⟩ := h.v1.2 (h.v1.1 hS)
  exact ⟨g, es, k1, k2, k3, k4, k5 hS⟩
theorem ExA.get1 (h : ExA W A1 A2 S1 S2 X1 X2 L u w') (hA : L A1 = true) : ∃ g es, u A1 = .pointer (some ⟨g, 0, none⟩) ∧ RowW w' g 82 es ∧ EOk es := by
  obtain ⟨g, es, k1, k2, k3, k4, k5⟩ := h.v1.2 hA
  exact ⟨g, es, k1, k3, k4⟩
end
theorem wp_storeX {w : World} {o : Oper} {a : Act} {K : Act → World → Prop} {Q : Exit → Act → World → Prop} (x y : Operand) (ho : o.op = .store 82 x y)
    (g : Nat) (zs es : List Int) (hx : a.eval x = .pointer (some ⟨g, 0, none⟩)) (hy : a.eval y = .agg (es.map (Value.int .u64)).toArray) (hk : EOk es) (hz : EOk zs) (hr : RowW w g 82 zs)
    (hK : ∀ w', RowW w' g 82 es → Wr g w w' → K (a.put o.dst undef) w') : o.wp Try.prog a w K Q :=
  wp_store_row 82 x y ho g ((es.map (Value.int .u64)).toArray) hx hy 82 _ hr (sizeEl hk.1) (by simp [hk.1, hz.1]) (all_oneCell_toArray (ints_oneCell _ _)) (hK _ (setRow_heap _ _ _ _ _ _ hr) (Wr.setRow _ _ _))
end Go.Proofs.Ythghkfncpdnpoac
