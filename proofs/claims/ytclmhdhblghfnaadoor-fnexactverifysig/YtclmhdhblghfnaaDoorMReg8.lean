/-
  Own work: the eighth form of the rule for a region that draws its order: as the sixth, with guards.
-/
import Derived.Test.YtclmhdhblghfnaaDoorMReg4
import Derived.Test.YtclmhdhblghfnaaDoorMOwnB
import Derived.BigRegion
import Derived.BigQuiet
import Derived.Deep.QuietTactic
import Derived.Deep.MidRow
import Derived.Deep.Cut
import Derived.Laws.CopyOwn
namespace Go.Proofs.YtclmhdhblghfnaaDoor
open Go.ChangeShapes Go.WideShapes Go.ChangeAt Go.RowKit
set_option linter.unusedVariables false
section
variable {P : Program} {ops : Array Oper} {Q : Exit → Act → World → Prop} {md : Region.Mode}
/-- THE RULE. -/
theorem wpAny_slotsG (M : Nat → World → World → Prop) (frame : (Nat → Value) → Act) (Ext : (Nat → Bool) → World → Prop) (Good : Nat → (Nat → Bool) → World → Value → Prop)
    (hstab : ∀ j L w w' i v, M i w w' → i ≠ j → L i = false → Good j L w v → Good j (updK L i) w' v)
    (hback : (List.range ops.size).all (fun i => ((ops[i]?).map (fun o => o.after.all (fun e => decide (e.on < i)))).getD false) = true)
    (hop : ∀ (i : Nat) (o : Oper) (L : Nat → Bool) (u : Nat → Value) (w : World), ops[i]? = some o → L i = false → Ext L w → (∀ e ∈ o.after, Region.binds md e = true → Good e.on L w (u e.on)) →
      ∀ K : Act → World → Prop, (∀ w' v, Good i (updK L i) w' v → Ext (updK L i) w' → M i w w' → K (frame (upd u i v)) w') → (if Region.wanted o (yielded ops (frame u).tmps) = true then Oper.wp P o (frame u) w K Q else K ((frame u).put o.dst undef) w))
    (hdone : ∀ L u w, Ext L w → (∀ i, i < ops.size → Good i L w (u i)) → Q .normal (frame u) w) :
    ∀ (fuel : Nat) (listed : Array Bool) (u : Nat → Value) (w : World), listed.size = ops.size → Ext (fun n => listed.getD n false) w → (∀ i, i < ops.size → listed.getD i false = true → Good i (fun n => listed.getD n false) w (u i)) →
      (listed.toList.filter (!·)).length ≤ fuel → wpAny P md ops Q fuel listed (frame u) w := by
  have hb : ∀ (i : Nat) (o : Oper), ops[i]? = some o → ∀ e ∈ o.after, e.on < i := fun i o ho e he => by
    have hi : i < ops.size := (Array.getElem?_eq_some_iff.1 ho).1
    have := List.all_eq_true.1 hback i (List.mem_range.2 hi)
    rw [ho] at this
    simp at this
    obtain ⟨k, hk, rfl⟩ := Array.mem_iff_getElem.1 he
    exact this k hk
  have hfin : ∀ (listed : Array Bool) (u : Nat → Value) (w : World), listed.size = ops.size → Ext (fun n => listed.getD n false) w → (∀ i, i < ops.size → listed.getD i false = true → Good i (fun n => listed.getD n false) w (u i)) → Region.ready md ops listed = [] → Q .normal (frame u) w := by
    intro listed u w hs he hgd hr
    refine hdone _ u w he fun i hi => hgd i hi ?_
    have hall : ∀ n i, i < n → i < ops.size → listed.getD i false = true := by
      intro n
      induction n with
      | zero => intro i h; omega
      | succ n ih =>
        intro i hin hi
        by_cases hlt : i < n
        · exact ih i hlt hi
        · cases hl : listed.getD i false with
          | true => rfl
          | false =>
            exfalso
            have hl' : listed.getD i true = false := by
              have hil : i < listed.size := by omega
              simp [hil] at hl ⊢; exact hl
            have : i ∈ Region.ready md ops listed := mem_ready.2 ⟨hi, hl', ops[i], by simp [hi], fun e hee _ => ih e.on (by have := hb i ops[i] (by simp [hi]) e hee; omega) (by have := hb i ops[i] (by simp [hi]) e hee; omega)⟩
            rw [hr] at this; cases this
    exact hall (i + 1) i (by omega) hi
  intro fuel
  induction fuel with
  | zero =>
    intro listed u w hs he hgd hc
    have hr : Region.ready md ops listed = [] := by
      apply List.eq_nil_iff_forall_not_mem.2
      intro i hi
      obtain ⟨h1, h2, _⟩ := mem_ready.1 hi
      have hil : i < listed.size := by omega
      have h3 : listed[i] = false := by simpa [hil] using h2
      have : listed[i] ∈ listed.toList.filter (!·) := by
        rw [List.mem_filter]; exact ⟨by simp, by rw [h3]; rfl⟩
      have := List.length_pos_of_mem this
      omega
    exact ⟨hr, hfin listed u w hs he hgd hr⟩
  | succ fuel ih =>
    intro listed u w hs he hgd hc
    refine ⟨fun hr => hfin listed u w hs he hgd hr, fun i hi => ?_⟩
    obtain ⟨h1, h2, o, ho, h3⟩ := mem_ready.1 hi
    refine wpOp_step ho fun K hK => ?_
    have hil : i < listed.size := by omega
    have hnl : listed.getD i false = false := by simp [hil] at h2 ⊢; exact h2
    have hupd : (fun n => (listed.setIfInBounds i true).getD n false) = updK (fun n => listed.getD n false) i := by
      funext n; rw [getD_set listed i n hil]; rfl
    refine hop i o (fun n => listed.getD n false) u w ho hnl he (fun e hee hbd => hgd e.on (by have := hb i o ho e hee; omega) (h3 e hee hbd)) K fun w' v hgv hext hm => hK _ _ ?_
    refine ih _ _ w' (by simpa using hs) (by rw [hupd]; exact hext) (fun j hj hlj => ?_) ?_
    · rw [getD_set listed i j hil] at hlj
      unfold upd
      by_cases hji : j = i
      · subst hji; rw [hupd]; simpa using hgv
      · rw [if_neg hji] at hlj; rw [if_neg hji, hupd]; exact hstab j _ w w' i _ hm (Ne.symm hji) hnl (hgd j hj hlj)
    · have : listed.toList[i]? = some false := by simp [hil] at h2; simp [hil, h2]
      have := count_set listed.toList i this
      rw [Array.toList_setIfInBounds]
      omega

end
end Go.Proofs.YtclmhdhblghfnaaDoor
namespace Go.Proofs.YtclmhdhblghfnaaDoor
open Go.ChangeShapes Go.WideShapes Go.ChangeAt Go.RowKit
set_option linter.unusedVariables false
section
variable {P : Program} {ops : Array Oper} {Q : Exit → Act → World → Prop} {md : Region.Mode}
/-- THE RULE. -/
theorem wpAny_slotsU (M : Nat → World → World → Prop) (frame : (Nat → Value) → Act) (Ext : (Nat → Bool) → (Nat → Value) → World → Prop) (Good : Nat → (Nat → Bool) → World → Value → Prop)
    (hstab : ∀ j L w w' i v, M i w w' → i ≠ j → L i = false → Good j L w v → Good j (updK L i) w' v)
    (hback : (List.range ops.size).all (fun i => ((ops[i]?).map (fun o => o.after.all (fun e => decide (e.on < i)))).getD false) = true)
    (hop : ∀ (i : Nat) (o : Oper) (L : Nat → Bool) (u : Nat → Value) (w : World), ops[i]? = some o → L i = false → Ext L u w → (∀ e ∈ o.after, Region.binds md e = true → L e.on = true ∧ Good e.on L w (u e.on)) →
      ∀ K : Act → World → Prop, (∀ w' v, Good i (updK L i) w' v → Ext (updK L i) (upd u i v) w' → M i w w' → K (frame (upd u i v)) w') → (if Region.wanted o (yielded ops (frame u).tmps) = true then Oper.wp P o (frame u) w K Q else K ((frame u).put o.dst undef) w))
    (hdone : ∀ L u w, Ext L u w → (∀ i, i < ops.size → Good i L w (u i)) → Q .normal (frame u) w) :
    ∀ (fuel : Nat) (listed : Array Bool) (u : Nat → Value) (w : World), listed.size = ops.size → Ext (fun n => listed.getD n false) u w → (∀ i, i < ops.size → listed.getD i false = true → Good i (fun n => listed.getD n false) w (u i)) →
      (listed.toList.filter (!·)).length ≤ fuel → wpAny P md ops Q fuel listed (frame u) w := by
  have hb : ∀ (i : Nat) (o : Oper), ops[i]? = some o → ∀ e ∈ o.after, e.on < i := fun i o ho e he => by
    have hi : i < ops.size := (Array.getElem?_eq_some_iff.1 ho).1
    have := List.all_eq_true.1 hback i (List.mem_range.2 hi)
    rw [ho] at this
    simp at this
    obtain ⟨k, hk, rfl⟩ := Array.mem_iff_getElem.1 he
    exact this k hk
  have hfin : ∀ (listed : Array Bool) (u : Nat → Value) (w : World), listed.size = ops.size → Ext (fun n => listed.getD n false) u w → (∀ i, i < ops.size → listed.getD i false = true → Good i (fun n => listed.getD n false) w (u i)) → Region.ready md ops listed = [] → Q .normal (frame u) w := by
    intro listed u w hs he hgd hr
    refine hdone _ u w he fun i hi => hgd i hi ?_
    have hall : ∀ n i, i < n → i < ops.size → listed.getD i false = true := by
      intro n
      induction n with
      | zero => intro i h; omega
      | succ n ih =>
        intro i hin hi
        by_cases hlt : i < n
        · exact ih i hlt hi
        · cases hl : listed.getD i false with
          | true => rfl
          | false =>
            exfalso
            have hl' : listed.getD i true = false := by
              have hil : i < listed.size := by omega
              simp [hil] at hl ⊢; exact hl
            have : i ∈ Region.ready md ops listed := mem_ready.2 ⟨hi, hl', ops[i], by simp [hi], fun e hee _ => ih e.on (by have := hb i ops[i] (by simp [hi]) e hee; omega) (by have := hb i ops[i] (by simp [hi]) e hee; omega)⟩
            rw [hr] at this; cases this
    exact hall (i + 1) i (by omega) hi
  intro fuel
  induction fuel with
  | zero =>
    intro listed u w hs he hgd hc
    have hr : Region.ready md ops listed = [] := by
      apply List.eq_nil_iff_forall_not_mem.2
      intro i hi
      obtain ⟨h1, h2, _⟩ := mem_ready.1 hi
      have hil : i < listed.size := by omega
      have h3 : listed[i] = false := by simpa [hil] using h2
      have : listed[i] ∈ listed.toList.filter (!·) := by
        rw [List.mem_filter]; exact ⟨by simp, by rw [h3]; rfl⟩
      have := List.length_pos_of_mem this
      omega
    exact ⟨hr, hfin listed u w hs he hgd hr⟩
  | succ fuel ih =>
    intro listed u w hs he hgd hc
    refine ⟨fun hr => hfin listed u w hs he hgd hr, fun i hi => ?_⟩
    obtain ⟨h1, h2, o, ho, h3⟩ := mem_ready.1 hi
    refine wpOp_step ho fun K hK => ?_
    have hil : i < listed.size := by omega
    have hnl : listed.getD i false = false := by simp [hil] at h2 ⊢; exact h2
    have hupd : (fun n => (listed.setIfInBounds i true).getD n false) = updK (fun n => listed.getD n false) i := by
      funext n; rw [getD_set listed i n hil]; rfl
    refine hop i o (fun n => listed.getD n false) u w ho hnl he (fun e hee hbd => ⟨h3 e hee hbd, hgd e.on (by have := hb i o ho e hee; omega) (h3 e hee hbd)⟩) K fun w' v hgv hext hm => hK _ _ ?_
    refine ih _ _ w' (by simpa using hs) (by rw [hupd]; exact hext) (fun j hj hlj => ?_) ?_
    · rw [getD_set listed i j hil] at hlj
      unfold upd
      by_cases hji : j = i
      · subst hji; rw [hupd]; simpa using hgv
      · rw [if_neg hji] at hlj; rw [if_neg hji, hupd]; exact hstab j _ w w' i _ hm (Ne.symm hji) hnl (hgd j hj hlj)
    · have : listed.toList[i]? = some false := by simp [hil] at h2; simp [hil, h2]
      have := count_set listed.toList i this
      rw [Array.toList_setIfInBounds]
      omega

end
end Go.Proofs.YtclmhdhblghfnaaDoor
namespace Go.Proofs.YtclmhdhblghfnaaDoor
open Go.ChangeShapes Go.WideShapes Go.ChangeAt Go.RowKit
set_option linter.unusedVariables false

def chf (e f q : Int) : Int := bits .xor .u64 (bits .and .u64 e f) (bits .and .u64 (bits .xor .u64 IntKind.u64.max e) q)
def maj (a b c : Int) : Int := bits .xor .u64 (bits .xor .u64 (bits .and .u64 a b) (bits .and .u64 a c)) (bits .and .u64 b c)
def rt1 (a b c d e f q z x : Int) : Int := IntKind.u64.wrap (IntKind.u64.wrap (IntKind.u64.wrap (z + bg1 e) + chf e f q) + x)
def rt2 (a b c : Int) : Int := IntKind.u64.wrap (bg0 a + maj a b c)
theorem Tryd.sizeU64 : (Tryd.prog.info? 39).map (·.size) = some 1 := by kernel_rfl
theorem wp_copy7 {w : World} {o : Oper} {ac : Act} {K : Act → World → Prop} {Q : Exit → Act → World → Prop} (dd ss : Operand)
    (ho : o.op = .call { callee := .builtin .copy, args := #[dd, ss], argTypes := #[64, 64] }) (g : Nat) (ty : TypeId) (a b c d e f q z : Int)
    (hd : ac.eval dd = .slice (some ⟨g, 1, none⟩) 7 7) (hs : ac.eval ss = .slice (some ⟨g, 0, none⟩) 7 8) (hg : w.heap[g]? = some (.cells #[.int .u64 a, .int .u64 b, .int .u64 c, .int .u64 d, .int .u64 e, .int .u64 f, .int .u64 q, .int .u64 z] ty (0, 0)))
    (h : ∀ w', w'.heap[g]? = some (.cells #[.int .u64 a, .int .u64 a, .int .u64 b, .int .u64 c, .int .u64 d, .int .u64 e, .int .u64 f, .int .u64 q] ty (0, 0)) → Wr g w w' → K (ac.put o.dst (goInt 7)) w') : o.wp Tryd.prog ac w K Q := by
  have hrun := run_copy_row (P := Tryd.prog) w 64 64 o.type 39 g 1 7 7 ⟨g, 0, none⟩ 7 8 #[.int .u64 a, .int .u64 b, .int .u64 c, .int .u64 d, .int .u64 e, .int .u64 f, .int .u64 q, .int .u64 z] ty [.int .u64 a, .int .u64 b, .int .u64 c, .int .u64 d, .int .u64 e, .int .u64 f, .int .u64 q] Tryd.underlying64 Tryd.sizeU64 hg rfl (fun j v hv => by
    have hj : j < 7 := by have := (List.getElem?_eq_some_iff.1 hv).1; simpa using this
    rw [Addr.add_lit, cell_of_row _ _ _ _ _ _ hg, Nat.zero_add]
    have : j = 0 ∨ j = 1 ∨ j = 2 ∨ j = 3 ∨ j = 4 ∨ j = 5 ∨ j = 6 := by omega
    rcases this with rfl | rfl | rfl | rfl | rfl | rfl | rfl <;> simpa using hv) (by simp) (by simp [Value.oneCell'])
  unfold Oper.wp
  simp [execOp, ho, resolve, invoke, builtin, hd, hs, hrun, Result.andThen]
  exact h _ (by rw [setRow_heap _ _ _ _ _ _ hg]) (Wr.setRow _ _ _)
set_option maxRecDepth 100000 in
set_option maxHeartbeats 4000000 in
theorem round_any (g : Nat) (ty : TypeId) (a b c d e f q z x : Int) (w : World) (hr : w.heap[g]? = some (.cells #[.int .u64 a, .int .u64 b, .int .u64 c, .int .u64 d, .int .u64 e, .int .u64 f, .int .u64 q, .int .u64 z] ty (0, 0)))
    (ha : U64 a) (hb : U64 b) (hc : U64 c) (hd : U64 d) (he : U64 e) (hf : U64 f) (hq : U64 q) (hz : U64 z) (hx : U64 x) :
    Calls Tryd.prog 80 #[.pointer (some ⟨g, 0, none⟩), .int .u64 x] w fun en w' => en = .returned (.tuple #[]) ∧ w'.heap[g]? = some (.cells #[.int .u64 (IntKind.u64.wrap (rt1 a b c d e f q z x + rt2 a b c)), .int .u64 a, .int .u64 b, .int .u64 c, .int .u64 (IntKind.u64.wrap (d + rt1 a b c d e f q z x)), .int .u64 e, .int .u64 f, .int .u64 q] ty (0, 0)) ∧ Wr g w w' := by
  have HE := hid_ofS he
  have HA := hid_ofS ha
  have HR := hid_ofS hr
  have c0 : w.cell? ⟨g, 0, none⟩ = some (.int .u64 a) := cell_of_row _ _ _ _ _ _ hr
  have c1 : w.cell? ⟨g, 1, none⟩ = some (.int .u64 b) := cell_of_row _ _ _ _ _ _ hr
  have c2 : w.cell? ⟨g, 2, none⟩ = some (.int .u64 c) := cell_of_row _ _ _ _ _ _ hr
  have c3 : w.cell? ⟨g, 3, none⟩ = some (.int .u64 d) := cell_of_row _ _ _ _ _ _ hr
  have c4 : w.cell? ⟨g, 4, none⟩ = some (.int .u64 e) := cell_of_row _ _ _ _ _ _ hr
  have c5 : w.cell? ⟨g, 5, none⟩ = some (.int .u64 f) := cell_of_row _ _ _ _ _ _ hr
  have c6 : w.cell? ⟨g, 6, none⟩ = some (.int .u64 q) := cell_of_row _ _ _ _ _ _ hr
  have c7 : w.cell? ⟨g, 7, none⟩ = some (.int .u64 z) := cell_of_row _ _ _ _ _ _ hr
  obtain ⟨a0, a1⟩ := ha
  obtain ⟨b0, b1⟩ := hb
  obtain ⟨c0, c1⟩ := hc
  obtain ⟨d0, d1⟩ := hd
  obtain ⟨e0, e1⟩ := he
  obtain ⟨f0, f1⟩ := hf
  obtain ⟨q0, q1⟩ := hq
  obtain ⟨z0, z1⟩ := hz
  obtain ⟨x0, x1⟩ := hx
  clear hr
  go_enter Tryd.func80, Tryd.ntmps80
  go_wp2
  go_quiet (fail)
  go_wp2
  go_quiet (fail)
  go_wp2
  go_quiet (first | (refine (b1_any e _ HE.out).mono ?_; rintro _ _ ⟨h1, h2⟩; exact ⟨h1, _, h2⟩))
  go_wp2_with fail
  refine (b0_any a _ HA.out).mono ?_
  rintro _ w9 ⟨rfl, hw9⟩
  subst w9
  obtain ⟨t1, ht1⟩ : ∃ t1, rt1 a b c d e f q z x = t1 := ⟨_, rfl⟩
  have u1 : U64 t1 := by rw [← ht1]; exact u64_wrap _
  have ht1' := ht1
  unfold rt1 chf at ht1'
  rw [ht1']
  obtain ⟨u10, u11⟩ := u1
  have u2 := bg0_u64 a
  obtain ⟨s0, hs0⟩ : ∃ s0, bg0 a = s0 := ⟨_, rfl⟩
  rw [hs0] at u2 ⊢
  obtain ⟨u20, u21⟩ := u2
  obtain ⟨t2, ht2⟩ : ∃ t2, rt2 a b c = t2 := ⟨_, rfl⟩
  have u3 : U64 t2 := by rw [← ht2]; exact u64_wrap _
  have ht2' := ht2
  unfold rt2 maj at ht2'
  rw [hs0] at ht2'
  obtain ⟨u30, u31⟩ := u3
  have HT1 := hid_ofS ht1
  have HT2 := hid_ofS ht2
  clear ht1 ht1' hs0 ht2
  go_upto_region 4 with fail
  try rw [ht2']
  clear ht2'
  have HWN : ∀ k, Hid (Wr g w (w.drewN k)) := fun k => (Wr.refl g w).drewN k
  refine wp_region_any (by kernel_rfl) ?_
  refine wpAny_slotsU (fun _ _ _ => True) (frame := (fun (c0 c1 c2 c3 c4 c5 c6 c7 c8 c9 c10 c11 c12 c13 c14 c15 c16 c17 c18 c19 c20 c21 c22 c23 c24 c25 c26 c27 c28 c29 c30 c31 c32 c33 c34 c35 c36 c37 c38 c39 c40 c41 c42 c43 c44 c45 c46 c47 c48 c49 c50 c51 c52 c53 c54 c55 c56 c57 c58 c59 c60 c61 c62 c63 c64 c65 c66 c67 c75 c76 c77 c78 c79 c80 c81 c82 c83 c84 c85 c86 c87 c88 : Value) => fun (t : Nat → Value) => ({ tmps := List.toArray (c0 :: c1 :: c2 :: c3 :: c4 :: c5 :: c6 :: c7 :: c8 :: c9 :: c10 :: c11 :: c12 :: c13 :: c14 :: c15 :: c16 :: c17 :: c18 :: c19 :: c20 :: c21 :: c22 :: c23 :: c24 :: c25 :: c26 :: c27 :: c28 :: c29 :: c30 :: c31 :: c32 :: c33 :: c34 :: c35 :: c36 :: c37 :: c38 :: c39 :: c40 :: c41 :: c42 :: c43 :: c44 :: c45 :: c46 :: c47 :: c48 :: c49 :: c50 :: c51 :: c52 :: c53 :: c54 :: c55 :: c56 :: c57 :: c58 :: c59 :: c60 :: c61 :: c62 :: c63 :: c64 :: c65 :: c66 :: c67 :: t 0 :: t 1 :: t 2 :: t 3 :: t 4 :: t 5 :: t 6 :: c75 :: c76 :: c77 :: c78 :: c79 :: c80 :: c81 :: c82 :: c83 :: c84 :: c85 :: c86 :: c87 :: c88 :: []), defers := [] } : Act)) _ _ _ _ _ _ _ _ _ _ _ _ _ _ _ _ _ _ _ _ _ _ _ _ _ _ _ _ _ _ _ _ _ _ _ _ _ _ _ _ _ _ _ _ _ _ _ _ _ _ _ _ _ _ _ _ _ _ _ _ _ _ _ _ _ _ _ _ _ _ _ _ _ _ _ _ _ _ _ _ _ _)
    (Ext := fun L u w' => if L 6 = true then w'.heap[g]? = some (.cells #[.int .u64 a, .int .u64 a, .int .u64 b, .int .u64 c, .int .u64 d, .int .u64 e, .int .u64 f, .int .u64 q] ty (0, 0)) ∧ Wr g w w' else w'.heap[g]? = some (.cells #[.int .u64 a, .int .u64 b, .int .u64 c, .int .u64 d, .int .u64 e, .int .u64 f, .int .u64 q, .int .u64 z] ty (0, 0)) ∧ Wr g w w') (Good := fun i L w' v => if i = 0 then v = .pointer (some ⟨g, 0, none⟩) else if i = 1 then v = .pointer (some ⟨g, 0, none⟩) else if i = 2 then v = .slice (some ⟨g, 1, none⟩) 7 7 else if i = 3 then v = .pointer (some ⟨g, 0, none⟩) else if i = 4 then v = .pointer (some ⟨g, 0, none⟩) else if i = 5 then v = .slice (some ⟨g, 0, none⟩) 7 8 else if i = 6 then L 6 = true else True) ?hstab (by kernel_rfl) ?hop ?hdone _ _ ((fun (x0 x1 x2 x3 x4 x5 x6 : Value) => fun (i : Nat) => if i = 0 then x0 else if i = 1 then x1 else if i = 2 then x2 else if i = 3 then x3 else if i = 4 then x4 else if i = 5 then x5 else if i = 6 then x6 else undef) _ _ _ _ _ _ _) _ (by simp) ?ext ?start (by simp)
  case start => intro i hi h; exact absurd h (by rw [Array.getD_eq_getD_getElem?, Array.getElem?_replicate]; split <;> simp)
  case ext =>
    rw [if_neg (by show ¬ (Array.getD _ _ _ = true); rw [Array.getD_eq_getD_getElem?, Array.getElem?_replicate]; split <;> simp)]
    exact ⟨HR.out, ((HWN _).out).drew⟩
  case hstab =>
    intro j L w9 w' i v hM hij hLi h
    by_cases hl : j = 6
    · subst hl
      simp at h ⊢
      unfold updK; simp [h]
    · simp only [if_neg hl] at h ⊢
      exact h
  case hop =>
    intro i o L t w' ho hLi hx hdep K hK
    have hi : i < 7 := (Array.getElem?_eq_some_iff.1 ho).1
    obtain rfl | rfl | rfl | rfl | rfl | rfl | rfl : i = 0 ∨ i = 1 ∨ i = 2 ∨ i = 3 ∨ i = 4 ∨ i = 5 ∨ i = 6 := by omega
    all_goals (simp at ho; subst ho)
    · clear hdep
      have hK' := hK w' (.pointer (some ⟨g, 0, none⟩)) (by simp) (by simpa [updK] using hx) trivial
      clear hK
      rw [if_pos (by rfl)]
      go_simp
      simpa [upd] using hK'
    · have d0 : t 0 = .pointer (some ⟨g, 0, none⟩) := by simpa using (hdep ⟨0, .data⟩ (by simp) rfl).2
      clear hdep
      have hK' := hK w' (.pointer (some ⟨g, 0, none⟩)) (by simp) (by simpa [updK] using hx) trivial
      clear hK
      rw [if_pos (by rfl)]
      go_simp
      simpa [upd, d0] using hK'
    · have d1 : t 1 = .pointer (some ⟨g, 0, none⟩) := by simpa using (hdep ⟨1, .data⟩ (by simp) rfl).2
      clear hdep
      have hK' := hK w' (.slice (some ⟨g, 1, none⟩) 7 7) (by simp) (by simpa [updK] using hx) trivial
      clear hK
      rw [if_pos (by rfl)]
      go_simp
      simpa [upd, d1] using hK'
    · clear hdep
      have hK' := hK w' (.pointer (some ⟨g, 0, none⟩)) (by simp) (by simpa [updK] using hx) trivial
      clear hK
      rw [if_pos (by rfl)]
      go_simp
      simpa [upd] using hK'
    · have d3 : t 3 = .pointer (some ⟨g, 0, none⟩) := by simpa using (hdep ⟨3, .data⟩ (by simp) rfl).2
      clear hdep
      have hK' := hK w' (.pointer (some ⟨g, 0, none⟩)) (by simp) (by simpa [updK] using hx) trivial
      clear hK
      rw [if_pos (by rfl)]
      go_simp
      simpa [upd, d3] using hK'
    · have d4 : t 4 = .pointer (some ⟨g, 0, none⟩) := by simpa using (hdep ⟨4, .data⟩ (by simp) rfl).2
      clear hdep
      have hK' := hK w' (.slice (some ⟨g, 0, none⟩) 7 8) (by simp) (by simpa [updK] using hx) trivial
      clear hK
      rw [if_pos (by rfl)]
      go_simp
      simpa [upd, d4] using hK'
    · have d2 : t 2 = .slice (some ⟨g, 1, none⟩) 7 7 := by simpa using (hdep ⟨2, .data⟩ (by simp) rfl).2
      have d5 : t 5 = .slice (some ⟨g, 0, none⟩) 7 8 := by simpa using (hdep ⟨5, .data⟩ (by simp) rfl).2
      clear hdep
      rw [hLi, if_neg (by decide)] at hx
      rw [if_pos (by rfl)]
      refine wp_copy7 (.tmp 70) (.tmp 73) rfl g ty a b c d e f q z d2 d5 hx.1 ?_
      intro w2 h2 hw2
      exact hK w2 _ (by simp [updK]) (by rw [if_pos (by simp [updK])]; exact ⟨h2, hx.2.trans hw2⟩) trivial
  case hdone =>
    intro L t w4 hx hg
    have hlast : L 6 = true := by simpa using hg 6 (by decide)
    rw [if_pos hlast] at hx
    clear hg hlast
    have c4' : w4.cell? ⟨g, 4, none⟩ = some (.int .u64 d) := cell_of_row _ _ _ _ _ _ hx.1
    have f4' : w4.frozen? ⟨g, 4, none⟩ = false := frozen_of_row _ _ _ _ _ hx.1
    have c0' : w4.cell? ⟨g, 0, none⟩ = some (.int .u64 a) := cell_of_row _ _ _ _ _ _ hx.1
    have f0' : w4.frozen? ⟨g, 0, none⟩ = false := frozen_of_row _ _ _ _ _ hx.1
    have HX := hid_ofS hx
    clear hx
    go_wp2
    go_region
    go_wp2
    go_end0
    obtain ⟨hx1, hx2⟩ := HX.out
    rw [HT1.out, HT2.out]
    refine ⟨rfl, ?_, ((hx2.setCell 4 _).setCell 0 _).drew⟩
    have h5 := heap_setCell_same w4 g 4 _ _ (.int .u64 (IntKind.u64.wrap (d + t1))) hx1
    have h6 := heap_setCell_same _ g 0 _ _ (.int .u64 (IntKind.u64.wrap (t1 + t2))) h5
    exact h6
end Go.Proofs.YtclmhdhblghfnaaDoor
