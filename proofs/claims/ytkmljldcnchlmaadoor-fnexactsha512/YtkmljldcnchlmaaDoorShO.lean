/-
  Own work: regions that draw, in which a slice is built, appended and assigned to a slot that others read.
-/
import Derived.Test.YtkmljldcnchlmaaDoorRegU
import Derived.Test.YtkmljldcnchlmaaDoorSMul
import Derived.Maps.AppendAt
namespace Go.Proofs.YtkmljldcnchlmaaDoor
open Go.ChangeShapes Go.WideShapes Go.ChangeAt Go.RowKit
set_option linter.unusedVariables false

/-- What is through keeps its order. -/
def ClG (tb : List (Nat × Nat)) (L : Nat → Bool) : Prop := ∀ p, p ∈ tb → L p.1 = true → L p.2 = true
theorem updK_neO (L : Nat → Bool) {i j : Nat} (h : j ≠ i) : updK L i j = L j := by unfold updK; rw [if_neg h]
theorem updK_self (L : Nat → Bool) (i : Nat) : updK L i i = true := by unfold updK; rw [if_pos rfl]
theorem upd_ne (u : Nat → Value) {i j : Nat} (v : Value) (h : j ≠ i) : upd u i v j = u j := by unfold upd; rw [if_neg h]
theorem upd_self (u : Nat → Value) (i : Nat) (v : Value) : upd u i v i = v := by unfold upd; rw [if_pos rfl]
theorem ClG.step {tb : List (Nat × Nat)} {L : Nat → Bool} (h : ClG tb L) (i : Nat) (hd : ∀ p, p ∈ tb → p.1 = i → L p.2 = true) : ClG tb (updK L i) := by
  intro p hp h1
  have hu : ∀ k, L k = true → updK L i k = true := fun k hk => by unfold updK; split <;> simp [hk]
  by_cases e : p.1 = i
  · exact hu _ (hd p hp e)
  · rw [updK_neO L e] at h1
    exact hu _ (h p hp h1)
theorem ClG.back {tb : List (Nat × Nat)} {L : Nat → Bool} (h : ClG tb L) {a b : Nat} (hp : (a, b) ∈ tb) (hb : L b = false) : L a = false := by
  cases ha : L a with
  | false => rfl
  | true => have := h _ hp ha; rw [hb] at this; cases this
theorem ClG.none {tb : List (Nat × Nat)} {L : Nat → Bool} (h : ∀ i, L i = false) : ClG tb L := fun p _ h1 => by rw [h] at h1; cases h1
/-- Operation b builds, a appends, s assigns. -/
structure AC (tb : List (Nat × Nat)) (b a s : Nat) (V0 : Value) (W0 W1 : World) (Fin : World → Value → Prop) (L : Nat → Bool) (u : Nat → Value) (w' : World) : Prop where
  cl : ClG tb L
  old : L s = false → u s = V0
  new : L s = true → u s = u a
  ph : (L a = true ∧ Fin w' (u a)) ∨ (L a = false ∧ L b = true ∧ w' = W1) ∨ (L a = false ∧ L b = false ∧ w' = W0)
section
variable {tb : List (Nat × Nat)} {b a s : Nat} {V0 : Value} {W0 W1 : World} {Fin : World → Value → Prop} {L : Nat → Bool} {u : Nat → Value} {w' : World}
theorem AC.start (h : ∀ i, L i = false) (hu : u s = V0) : AC tb b a s V0 W0 W1 Fin L u W0 :=
  ⟨ClG.none h, fun _ => hu, fun h' => (by rw [h] at h'; cases h'), .inr (.inr ⟨h _, h _, rfl⟩)⟩
theorem AC.pure (h : AC tb b a s V0 W0 W1 Fin L u w') (i : Nat) (v : Value) (hb : b ≠ i) (ha : a ≠ i) (hs : s ≠ i) (hd : ∀ p, p ∈ tb → p.1 = i → L p.2 = true) : AC tb b a s V0 W0 W1 Fin (updK L i) (upd u i v) w' :=
  ⟨h.cl.step i hd, by rw [updK_neO L hs, upd_ne u v hs]; exact h.old, by rw [updK_neO L hs, upd_ne u v hs, upd_ne u v ha]; exact h.new, by rw [updK_neO L ha, updK_neO L hb, upd_ne u v ha]; exact h.ph⟩
theorem AC.world (h : AC tb b a s V0 W0 W1 Fin L u w') (hb : L b = false) (hp : (a, b) ∈ tb) : w' = W0 := by
  have ha := h.cl.back hp hb
  rcases h.ph with ⟨h1, _⟩ | ⟨_, h1, _⟩ | ⟨_, _, h1⟩
  · rw [ha] at h1; cases h1
  · rw [hb] at h1; cases h1
  · exact h1
theorem AC.build (h : AC tb b a s V0 W0 W1 Fin L u w') (v : Value) (hLb : L b = false) (hp : (a, b) ∈ tb) (ha : a ≠ b) (hs : s ≠ b) (hd : ∀ p, p ∈ tb → p.1 = b → L p.2 = true) : AC tb b a s V0 W0 W1 Fin (updK L b) (upd u b v) W1 :=
  ⟨h.cl.step b hd, by rw [updK_neO L hs, upd_ne u v hs]; exact h.old, by rw [updK_neO L hs, upd_ne u v hs, upd_ne u v ha]; exact h.new, .inr (.inl ⟨by rw [updK_neO L ha]; exact h.cl.back hp hLb, updK_self L b, rfl⟩)⟩
theorem AC.mid (h : AC tb b a s V0 W0 W1 Fin L u w') (hb : L b = true) (ha : L a = false) : w' = W1 := by
  rcases h.ph with ⟨h1, _⟩ | ⟨_, _, h1⟩ | ⟨_, h1, _⟩
  · rw [ha] at h1; cases h1
  · exact h1
  · rw [hb] at h1; cases h1
theorem AC.app (h : AC tb b a s V0 W0 W1 Fin L u w') {v : Value} {w9 : World} (hF : Fin w9 v) (hLa : L a = false) (hp : (s, a) ∈ tb) (hs : s ≠ a) (hd : ∀ p, p ∈ tb → p.1 = a → L p.2 = true) : AC tb b a s V0 W0 W1 Fin (updK L a) (upd u a v) w9 :=
  have hls := h.cl.back hp hLa
  ⟨h.cl.step a hd, by rw [updK_neO L hs, upd_ne u v hs]; exact h.old, fun h' => (by rw [updK_neO L hs, hls] at h'; cases h'), .inl ⟨updK_self L a, by rw [upd_self]; exact hF⟩⟩
theorem AC.asg (h : AC tb b a s V0 W0 W1 Fin L u w') (ha : a ≠ s) (hb : b ≠ s) (hd : ∀ p, p ∈ tb → p.1 = s → L p.2 = true) : AC tb b a s V0 W0 W1 Fin (updK L s) (upd u s (u a)) w' :=
  ⟨h.cl.step s hd, fun h' => (by rw [updK_self] at h'; cases h'), fun _ => (by rw [upd_self, upd_ne u _ ha]), by rw [updK_neO L ha, updK_neO L hb, upd_ne u _ ha]; exact h.ph⟩
theorem AC.fin (h : AC tb b a s V0 W0 W1 Fin L u w') (ha : L a = true) (hs : L s = true) : u s = u a ∧ Fin w' (u a) := by
  refine ⟨h.new hs, ?_⟩
  rcases h.ph with ⟨_, h1⟩ | ⟨h1, _⟩ | ⟨h1, _⟩
  · exact h1
  · rw [ha] at h1; cases h1
  · rw [ha] at h1; cases h1
end
/-- Operation b builds, s assigns. -/
structure AD (tb : List (Nat × Nat)) (b s : Nat) (V0 : Value) (W0 W1 : World) (L : Nat → Bool) (u : Nat → Value) (w' : World) : Prop where
  cl : ClG tb L
  old : L s = false → u s = V0
  ph : (L b = true ∧ w' = W1) ∨ (L b = false ∧ w' = W0)
section
variable {tb : List (Nat × Nat)} {b s : Nat} {V0 : Value} {W0 W1 : World} {L : Nat → Bool} {u : Nat → Value} {w' : World}
theorem AD.start (h : ∀ i, L i = false) (hu : u s = V0) : AD tb b s V0 W0 W1 L u W0 := ⟨ClG.none h, fun _ => hu, .inr ⟨h _, rfl⟩⟩
theorem AD.pure (h : AD tb b s V0 W0 W1 L u w') (i : Nat) (v : Value) (hb : b ≠ i) (hs : s ≠ i) (hd : ∀ p, p ∈ tb → p.1 = i → L p.2 = true) : AD tb b s V0 W0 W1 (updK L i) (upd u i v) w' :=
  ⟨h.cl.step i hd, by rw [updK_neO L hs, upd_ne u v hs]; exact h.old, by rw [updK_neO L hb]; exact h.ph⟩
theorem AD.world (h : AD tb b s V0 W0 W1 L u w') (hb : L b = false) : w' = W0 := by
  rcases h.ph with ⟨h1, _⟩ | ⟨_, h1⟩
  · rw [hb] at h1; cases h1
  · exact h1
theorem AD.build (h : AD tb b s V0 W0 W1 L u w') (v : Value) (hs : s ≠ b) (hd : ∀ p, p ∈ tb → p.1 = b → L p.2 = true) : AD tb b s V0 W0 W1 (updK L b) (upd u b v) W1 :=
  ⟨h.cl.step b hd, by rw [updK_neO L hs, upd_ne u v hs]; exact h.old, .inl ⟨updK_self L b, rfl⟩⟩
theorem AD.asg (h : AD tb b s V0 W0 W1 L u w') (v : Value) (hb : b ≠ s) (hd : ∀ p, p ∈ tb → p.1 = s → L p.2 = true) : AD tb b s V0 W0 W1 (updK L s) (upd u s v) w' :=
  ⟨h.cl.step s hd, fun h' => (by rw [updK_self] at h'; cases h'), by rw [updK_neO L hb]; exact h.ph⟩
theorem AD.fin (h : AD tb b s V0 W0 W1 L u w') (hb : L b = true) : w' = W1 := by
  rcases h.ph with ⟨_, h1⟩ | ⟨h1, _⟩
  · exact h1
  · rw [hb] at h1; cases h1
end
/-- append of words to a slice of the call's own, as one operation. -/
theorem wp_appU (w : World) {o : Oper} {a : Act} {K : Act → World → Prop} {Q : Exit → Act → World → Prop} (sx x : Operand)
    (hop : o.op = Op.call { callee := Callee.builtin Builtin.append, args := #[sx, x], argTypes := #[27, 27] }) (B : Nat) (v : Value) (xs : List Int) (hs : a.eval sx = v) (hown : OwnU w B v xs)
    (b off m c : Nat) (zs : List Int) (hx : a.eval x = .slice (some ⟨b, off, none⟩) m c) (hl : zs.length = m) (hc : ∀ i, i < zs.length → w.cell? ⟨b, off + i, none⟩ = some (.int .u64 (zs.getD i 0))) (hm : xs.length + m ≤ 1048576) (hB : B ≤ w.heap.size)
    (hK : ∀ v' w', OwnU w' B v' (xs ++ zs) → Below B w w' → K (a.put o.dst v') w') : o.wp Tryd.prog a w K Q := by
  obtain ⟨i0, hi, hz0, hz1, hz2⟩ := info_parts ktU.info
  have hbase := hown.base
  obtain ⟨v', w', hr, h2, h3, h4, h5⟩ := run_append_own_at (P := Tryd.prog) w B 27 o.type 28 i0 (.int .u64 0) 1 8 Tryd.underlying27 hi hz0 hz1 hz2 rfl (by decide) v xs.length _ hown.1 ⟨b, off, none⟩ m c (zs.map (Value.int .u64)) (by simp [hl]) (by
    intro j u hu
    have hj : j < zs.length := by have := (List.getElem?_eq_some_iff.1 hu).1; simpa using this
    rw [Addr.add_lit, hc j hj]
    simp [hj] at hu; simp [hj, hu]) (ints_oneCell _ _) (by unfold maxLen; omega) (by omega) hB
  obtain ⟨g, c0, hv, hBg, _, _⟩ := hbase
  have hbel : Below B w w' := (Below.refl _ _).grown h3 hB (fun k hk => by rw [hv] at hk; simp [Value.ownBlock] at hk; omega)
  have hk := hK v' w' ⟨by rw [List.map_append, List.length_append, hl]; exact h2, by
    rcases h2.2 with ⟨h', h''⟩ | ⟨g', c', cur, h', _⟩
    · exact absurd (h4.1 h').1 (by rw [hv]; simp)
    · exact ⟨g', c', by rw [h', List.length_append, hl]⟩⟩ hbel
  unfold Oper.wp execOp
  simp only [hop, resolve, invoke, builtin, Sem.run_bind, Sem.run_pure, Result.andThen_ok, List.map_toArray, List.map_cons, List.map_nil, hs, hx, hr]
  exact hk
end Go.Proofs.YtkmljldcnchlmaaDoor
