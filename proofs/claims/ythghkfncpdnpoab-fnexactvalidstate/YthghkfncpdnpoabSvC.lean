/-
  Own work: copies of taps, and books as they are built, by the program.
-/
import Derived.Test.YthghkfncpdnpoabSvT
import Derived.Laws.Tables
import Derived.Maps.AppendAt
namespace Go.Proofs.Ythghkfncpdnpoab
open Go.ChangeShapes Go.WideShapes Go.ChangeAt Go.RowKit
set_option linter.unusedVariables false

theorem Try.infoTap : (Try.prog.info? 99).map (fun i => (i.zero, i.size, i.bytes)) = some (some (.agg #[.int .i64 0, .int .i64 0]), 2, 16) := by kernel_rfl
/-- Taps in memory of the call's own, from block B on. -/
def TapO (B : Nat) (w : World) (v : Value) (T : List Int) (n : Nat) : Prop := w.ownsRow B 99 2 v n (T.map (Value.int .i64))
theorem run_nilT (w : World) (a : Option Addr) (n c : Nat) : (binOp .eql 58 (.slice a n c) (.slice none 0 0)).run Try.prog w = .ok (.bool a.isNone) w := by
  have h : ∀ d, (Op.equalIn (d + 1) 58 (.slice a n c) (.slice none 0 0)).run Try.prog w = .ok a.isNone w := fun d => by
    cases a <;> simp [Op.equalIn, run_underlying Try.underlying58]
  have h' : (Op.equal 58 (.slice a n c) (.slice none 0 0)).run Try.prog w = .ok a.isNone w := h 9999
  simp only [binOp]
  simp [h']

/-- What a copy of taps is. -/
def ClT (w : World) (T : List Int) (n : Nat) (e : Ending) (w' : World) : Prop := ∃ v, e = .returned v ∧ TapO w.heap.size w' v T n ∧ v.oneCell' = true ∧ Below w.heap.size w w'
theorem wpList_appT (w : World) {ops : Array Oper} {rest : List Oper} {o : Oper} {a : Act} {Q : Exit → Act → World → Prop} (hg : o.guard = none) (sx x : Operand)
    (hop : o.op = Op.call { callee := Callee.builtin Builtin.append, args := #[sx, x], argTypes := #[58, 58] }) (B : Nat) (v : Value) (xs : List Value) (hs : a.eval sx = v) (hown : w.ownsRow B 99 2 v 0 xs)
    (ad : Addr) (n c : Nat) (T : List Int) (hx : a.eval x = .slice (some ad) n c) (hl : (T.map (Value.int .i64)).length = n * 2) (hnews : ∀ j u, (T.map (Value.int .i64))[j]? = some u → w.cell? (ad.add j) = some u) (hm : n ≤ 1048576) (hB : B ≤ w.heap.size)
    (hK : ∀ v' w', w'.ownsRow B 99 2 v' n (xs ++ T.map (Value.int .i64)) → w.grownBy w' v.ownBlock → wpList Try.prog ops Q rest (a.put o.dst v') w') :
    wpList Try.prog ops Q (o :: rest) a w := by
  obtain ⟨i0, hi, hz0, hz1, hz2⟩ := info_parts Try.infoTap
  refine wpList_append_own_at w hg sx x 58 hop B 99 i0 (.agg #[.int .i64 0, .int .i64 0]) 2 16 Try.underlying58 hi hz0 hz1 hz2 rfl (by decide) v 0 xs hs hown ad n c (T.map (Value.int .i64)) hx hl hnews (ints_oneCell _ _) (by unfold maxLen; omega) (by omega) hB ?_
  intro v' w' h1 h2 _ _
  rw [Nat.zero_add] at h1
  exact hK v' w' h1 h2
set_option maxRecDepth 100000 in
set_option maxHeartbeats 1000000 in
theorem clnT_any (a : Option Addr) (n cap : Nat) (T : List Int) (w : World) (hn : T.length = n * 2) (hm : n ≤ 1048576) (ha : At .i64 w a T) (hnil : a = none → n = 0 ∧ cap = 0) :
    Calls Try.prog 83 #[.slice a n cap] w (ClT w T n) := by
  cases a with
  | none =>
    obtain ⟨rfl, rfl⟩ := hnil rfl
    have hT : T = [] := List.eq_nil_of_length_eq_zero (by omega)
    subst hT
    have HP : Hid (ClT w [] 0 (.returned (.slice none 0 0)) w) := ⟨_, rfl, ⟨by simp, .inl ⟨rfl, rfl⟩⟩, rfl, Below.refl _ _⟩
    have E := run_nilT w none 0 0
    clear hn ha hnil hm
    go_enter Try.func83, Try.ntmps83
    go_wp2
    go_ret
    exact HP.out
  | some ad =>
    have HNW : Hid (∀ j u, (T.map (Value.int .i64))[j]? = some u → (w.alloc (.cells #[] 99)).cell? (ad.add j) = some u) := by
      intro j u hu
      have hj : j < T.length := by have := (List.getElem?_eq_some_iff.1 hu).1; simpa using this
      obtain ⟨b, off, e, hb, hc⟩ := ha.get (by omega)
      cases e
      rw [Addr.add_lit, World.cell?_alloc_old _ _ _ (by show b ≠ w.heap.size; omega), hc j hj]
      simp [hj] at hu; simp [hj, hu]
    have HO : Hid ((w.alloc (.cells #[] 99)).ownsRow w.heap.size 99 2 (.slice (some ⟨w.heap.size, 0, none⟩) 0 0) 0 []) :=
      ⟨by simp, .inr ⟨w.heap.size, 0, #[], rfl, Nat.le_refl _, heap_alloc_new w _, Nat.le_refl _, by simp [maxLen], rfl, rfl⟩⟩
    have HL : Hid ((T.map (Value.int .i64)).length = n * 2 ∧ n ≤ 1048576) := ⟨by simp [hn], hm⟩
    have E := run_nilT w (some ad) n cap
    clear hn ha hnil hm
    go_enter Try.func83, Try.ntmps83
    go_wp2_with (first
      | (refine wpList_appT _ rfl (.tmp 5) (.tmp 6) rfl w.heap.size _ [] rfl HO.out ad n cap T rfl HL.out.1 HNW.out HL.out.2 (by simp) ?_)
      | fail)
    intro v' w3 ho hgr
    have HF : Hid (ClT w T n (.returned v') w3) := by
      have hB : Below w.heap.size (w.alloc (.cells #[] 99)) w3 := (Below.refl _ _).grown hgr (by simp) (fun k hk => by simp [Value.ownBlock] at hk; omega)
      refine ⟨v', rfl, by unfold TapO; simpa using ho, ?_, ((Below.refl _ _).alloc (Nat.le_refl _) _).trans hB⟩
      rcases ho.2 with ⟨h, _⟩ | ⟨g, c, cur, h, _⟩
      · rw [h]; rfl
      · rw [h]; rfl
    clear ho hgr HNW HO HL
    go_wp2
    go_ret
    exact HF.out
end Go.Proofs.Ythghkfncpdnpoab
