/-
  Own work: the rule for a region that draws its order whose last operation waits for all others; and lists, boxes and pointers that are apart.
-/
import Derived.Test.YtmnoelfabldpfaaMRegU
import Derived.Test.YtmnoelfabldpfaaMWrd
namespace Go.Proofs.Ytmnoelfabldpfaa
open Go.ChangeShapes Go.WideShapes Go.ChangeAt Go.RowKit
set_option linter.unusedVariables false
section
variable {P : Program} {ops : Array Oper} {Q : Exit → Act → World → Prop} {md : Region.Mode}
theorem wpAny_slotsF (last : Nat) (M : Nat → World → World → Prop) (frame : (Nat → Value) → Act) (Ext : (Nat → Bool) → (Nat → Value) → World → Prop) (Good : Nat → (Nat → Bool) → World → Value → Prop) (Fin : (Nat → Value) → World → Prop)
    (hlast : ops.size = last + 1)
    (hwait : ((ops[last]?).map (fun o => (List.range last).all (fun j => o.after.any (fun e => Region.binds md e && decide (e.on = j))))).getD false = true)
    (hstab : ∀ j L w w' i v, i < last → M i w w' → i ≠ j → L i = false → Good j L w v → Good j (updK L i) w' v)
    (hback : (List.range ops.size).all (fun i => ((ops[i]?).map (fun o => o.after.all (fun e => decide (e.on < i)))).getD false) = true)
    (hop : ∀ (i : Nat) (o : Oper) (L : Nat → Bool) (u : Nat → Value) (w : World), i < last → ops[i]? = some o → L i = false → Ext L u w → (∀ e ∈ o.after, Region.binds md e = true → L e.on = true ∧ Good e.on L w (u e.on)) →
      ∀ K : Act → World → Prop, (∀ w' v, Good i (updK L i) w' v → Ext (updK L i) (upd u i v) w' → M i w w' → K (frame (upd u i v)) w') → (if Region.wanted o (yielded ops (frame u).tmps) = true then Oper.wp P o (frame u) w K Q else K ((frame u).put o.dst undef) w))
    (hend : ∀ (o : Oper) (L : Nat → Bool) (u : Nat → Value) (w : World), ops[last]? = some o → Ext L u w → (∀ j, j < last → L j = true ∧ Good j L w (u j)) →
      ∀ K : Act → World → Prop, (∀ w' v, Fin (upd u last v) w' → K (frame (upd u last v)) w') → (if Region.wanted o (yielded ops (frame u).tmps) = true then Oper.wp P o (frame u) w K Q else K ((frame u).put o.dst undef) w))
    (hdone : ∀ u w, Fin u w → Q .normal (frame u) w) :
    ∀ (fuel : Nat) (listed : Array Bool) (u : Nat → Value) (w : World), listed.size = ops.size → (∀ i, listed.getD i false = false) → Ext (fun n => listed.getD n false) u w →
      (listed.toList.filter (!·)).length ≤ fuel → wpAny P md ops Q fuel listed (frame u) w := by
  have hb : ∀ (i : Nat) (o : Oper), ops[i]? = some o → ∀ e ∈ o.after, e.on < i := fun i o ho e he => by
    have hi : i < ops.size := (Array.getElem?_eq_some_iff.1 ho).1
    have := List.all_eq_true.1 hback i (List.mem_range.2 hi)
    rw [ho] at this
    simp at this
    obtain ⟨k, hk, rfl⟩ := Array.mem_iff_getElem.1 he
    exact this k hk
  have hw : ∀ o, ops[last]? = some o → ∀ j, j < last → ∃ e ∈ o.after, Region.binds md e = true ∧ e.on = j := fun o ho j hj => by
    rw [ho] at hwait
    have h1 : (List.range last).all (fun j => o.after.any (fun e => Region.binds md e && decide (e.on = j))) = true := by simpa using hwait
    have h2 := List.all_eq_true.1 h1 j (List.mem_range.2 hj)
    obtain ⟨e, he, h3⟩ := Array.any_eq_true'.1 h2
    simp at h3
    exact ⟨e, he, h3⟩
  intro fuel listed u w hs hnone hext hc
  refine wpAny_slotsU (fun i a b => i = last ∨ (i < last ∧ M i a b)) frame (fun L u w => (L last = false ∧ Ext L u w) ∨ (L last = true ∧ (∀ j, j < last → L j = true) ∧ Fin u w))
    (fun j L w v => if j = last then L last = true else (L last = true ∨ Good j L w v)) ?_ hback ?_ ?_ fuel listed u w hs (.inl ⟨hnone last, hext⟩) (fun i _ hl => by rw [hnone i] at hl; cases hl) hc
  · intro j L w w' i v hM hij hLi h
    have hu : ∀ k, L k = true → updK L i k = true := fun k hk => by unfold updK; split <;> simp [hk]
    by_cases hj : j = last
    · rw [if_pos hj] at h ⊢; exact hu _ h
    · rw [if_neg hj] at h ⊢
      rcases h with h | h
      · exact .inl (hu _ h)
      · rcases hM with hil | ⟨hi', hM⟩
        · left; unfold updK; rw [if_pos hil.symm]
        · exact .inr (hstab j L w w' i v hi' hM hij hLi h)
  · intro i o L u w ho hLi hx hdep K hK
    have hi : i < last + 1 := by rw [← hlast]; exact (Array.getElem?_eq_some_iff.1 ho).1
    rcases hx with ⟨hl, hx⟩ | ⟨hl, hall, _⟩
    · by_cases hil : i = last
      · subst hil
        refine hend o L u w ho hx (fun j hj => ?_) K (fun w' v hf => hK w' v ?_ ?_ (.inl rfl))
        · obtain ⟨e, he, hbd, rfl⟩ := hw o ho j hj
          obtain ⟨h1, h2⟩ := hdep e he hbd
          rw [if_neg (by omega)] at h2
          refine ⟨h1, h2.resolve_left (by rw [hl]; simp)⟩
        · rw [if_pos rfl]; unfold updK; simp
        · refine .inr ⟨by unfold updK; simp, fun j hj => ?_, hf⟩
          obtain ⟨e, he, hbd, rfl⟩ := hw o ho j hj
          have := (hdep e he hbd).1
          unfold updK; split <;> simp [this]
      · have hi' : i < last := by omega
        refine hop i o L u w hi' ho hLi hx (fun e he hbd => ?_) K (fun w' v hg hext hm => hK w' v ?_ ?_ (.inr ⟨hi', hm⟩))
        · obtain ⟨h1, h2⟩ := hdep e he hbd
          have hlt := hb i o ho e he
          rw [if_neg (by omega)] at h2
          exact ⟨h1, h2.resolve_left (by rw [hl]; simp)⟩
        · rw [if_neg hil]; exact .inr hg
        · refine .inl ⟨?_, hext⟩
          unfold updK; rw [if_neg (by omega)]; exact hl
    · exfalso
      by_cases hil : i = last
      · subst hil; rw [hl] at hLi; cases hLi
      · rw [hall i (by omega)] at hLi; cases hLi
  · intro L u w hx hg
    have h1 := hg last (by omega)
    rw [if_pos rfl] at h1
    rcases hx with ⟨hl, _⟩ | ⟨_, _, hf⟩
    · rw [hl] at h1; cases h1
    · exact hdone u w hf
end
def Value.adr : Value → Option Addr
  | .slice a _ _ => a
  | .pointer a => a
  | _ => none
/-- The value leads to block k. -/
def Value.has (v : Value) (k : Nat) : Prop := (∃ a, Value.adr v = some a ∧ a.block = k) ∨ ∃ cs, v = .agg cs ∧ ∃ c, c ∈ cs.toList ∧ ∃ a, Value.adr c = some a ∧ a.block = k
def FreshH (w w' : World) (v : Value) : Prop := ∀ k, Value.has v k → w.heap.size ≤ k ∧ k < w'.heap.size
def ApVH (x y : Value) : Prop := ∀ k, Value.has x k → ¬ Value.has y k
structure ApH (W : World) (ps : List Nat) (L : Nat → Bool) (u : Nat → Value) (w : World) : Prop where
  below : Below W.heap.size W w
  blt : ∀ p, p ∈ ps → L p = true → ∀ k, Value.has (u p) k → k < w.heap.size
  ap : ∀ p, p ∈ ps → ∀ q, q ∈ ps → p ≠ q → L p = true → L q = true → ApVH (u p) (u q)
theorem ApH.start (W : World) (ps : List Nat) (L : Nat → Bool) (u : Nat → Value) (h : ∀ i, L i = false) {w : World} (b : Below W.heap.size W w) : ApH W ps L u w :=
  ⟨b, fun p _ hp => (by rw [h] at hp; cases hp), fun p _ q _ _ hp => (by rw [h] at hp; cases hp)⟩
theorem ApH.step {W : World} {ps : List Nat} {L : Nat → Bool} {u : Nat → Value} {w w' : World} (h : ApH W ps L u w) (i : Nat) (v : Value) (b : Below w.heap.size w w') (hv : i ∈ ps → FreshH w w' v) : ApH W ps (updK L i) (upd u i v) w' := by
  refine ⟨h.below.trans (b.mono h.below.size), fun p hp hl => ?_, fun p hp q hq hne hlp hlq => ?_⟩
  · by_cases e : p = i
    · subst e
      simp only [upd, if_true]
      exact fun k hk => (hv hp k hk).2
    · simp only [updK, if_neg e] at hl
      simp only [upd, if_neg e]
      exact fun k hk => Nat.lt_of_lt_of_le (h.blt p hp hl k hk) b.size
  · by_cases e : p = i
    · subst e
      have e2 : ¬ q = p := fun h => hne h.symm
      simp only [updK, if_neg e2] at hlq
      simp only [upd, if_true, if_neg e2]
      intro k hk hk'
      have h1 := (hv hp k hk).1
      have h2 := h.blt q hq hlq k hk'
      omega
    · by_cases e2 : q = i
      · subst e2
        simp only [updK, if_neg e] at hlp
        simp only [upd, if_true, if_neg e]
        intro k hk hk'
        have h1 := (hv hq k hk').1
        have h2 := h.blt p hp hlp k hk
        omega
      · simp only [updK, if_neg e, if_neg e2] at hlp hlq
        simp only [upd, if_neg e, if_neg e2]
        exact h.ap p hp q hq hne hlp hlq
theorem has_agg {cs : Array Value} {k : Nat} : Value.has (.agg cs) k ↔ ∃ c, c ∈ cs.toList ∧ ∃ a, Value.adr c = some a ∧ a.block = k := by
  constructor
  · rintro (⟨a, h, _⟩ | ⟨cs', h, h2⟩)
    · cases h
    · cases h; exact h2
  · intro h; exact .inr ⟨_, rfl, h⟩
theorem has_ptr {g o : Nat} {k : Nat} : Value.has (.pointer (some ⟨g, o, none⟩)) k ↔ k = g := by
  constructor
  · rintro (⟨a, h, rfl⟩ | ⟨cs', h, h2⟩)
    · cases h; rfl
    · cases h
  · rintro rfl; exact .inl ⟨_, rfl, rfl⟩
end Go.Proofs.Ytmnoelfabldpfaa
