/-
  Own work: taps applied to a book, by the program.
-/
import Derived.Test.YtmnoelfabldpfaaMSvY
namespace Go.Proofs.Ytmnoelfabldpfaa
open Go.ChangeShapes Go.WideShapes Go.ChangeAt Go.RowKit
set_option linter.unusedVariables false
variable {w w' : World} {g : Nat} {d u : List Int} {k : Int} {v : Value} {D U : Nat → Prop} {T : List Int} {n H B : Nat}

theorem TapO.ownBlock (h : TapO B w v T n) : ∀ k, v.ownBlock = some k → B ≤ k := fun k hk => by
  rcases h.2 with ⟨h', _⟩ | ⟨g, c, cur, h', hb, _⟩
  · rw [h'] at hk; simp [Value.ownBlock] at hk
  · rw [h'] at hk; simp [Value.ownBlock] at hk; omega
theorem TapO.wrg (h : TapO B w v T n) (hne : NeG g v) (hw : Wr g w w') : TapO B w' v T n := by
  refine ⟨h.1, ?_⟩
  rcases h.2 with h' | ⟨t, c, cur, h1, h2, h3, h4⟩
  · exact .inl h'
  · exact .inr ⟨t, c, cur, h1, h2, by rw [hw.block t (hne t (by rw [h1]; rfl))]; exact h3, h4⟩
theorem TapO.alloc (h : TapO B w v T n) (o : Obj) : TapO B (w.alloc o) v T n := World.ownsRow.alloc h _
theorem wpList_appT1 (w : World) {ops : Array Oper} {rest : List Oper} {o : Oper} {a : Act} {Q : Exit → Act → World → Prop} (hg : o.guard = none) (sx x : Operand)
    (hop : o.op = Op.call { callee := Callee.builtin Builtin.append, args := #[sx, x], argTypes := #[72, 72] }) (B : Nat) (v : Value) (T : List Int) (n : Nat) (hs : a.eval sx = v) (hown : TapO B w v T n)
    (wb : World) (s nw : Int) (hw : w = wb.alloc (.cells #[.int .i64 s, .int .i64 nw] 94)) (hx : a.eval x = .slice (some ⟨wb.heap.size, 0, none⟩) 1 1) (hm : n ≤ 1048576) (hB : B ≤ w.heap.size)
    (hK : ∀ v' w', TapO B w' v' (T ++ [s, nw]) (n + 1) → v'.oneCell' = true → Below B w w' → w.grownBy w' v.ownBlock → (v'.ownBlock = v.ownBlock ∨ v'.ownBlock = some w.heap.size) → wpList Try.prog ops Q rest (a.put o.dst v') w') :
    wpList Try.prog ops Q (o :: rest) a w := by
  obtain ⟨i0, hi, hz0, hz1, hz2⟩ := info_parts Try.infoTap
  refine wpList_append_own_at w hg sx x 72 hop B 94 i0 (.agg #[.int .i64 0, .int .i64 0]) 2 16 Try.underlying72 hi hz0 hz1 hz2 rfl (by decide) v n _ hs hown ⟨wb.heap.size, 0, none⟩ 1 1 [.int .i64 s, .int .i64 nw] hx rfl ?_ (by simp [Value.oneCell']) (by unfold maxLen; omega) (by omega) hB ?_
  · intro j z hz
    have hj : j < 2 := by have := (List.getElem?_eq_some_iff.1 hz).1; simpa using this
    rw [Addr.add_lit, hw, cell_of_row _ _ _ _ _ _ (heap_alloc_new wb _), Nat.zero_add]
    have : j = 0 ∨ j = 1 := by omega
    rcases this with rfl | rfl <;> simpa using hz
  intro v' w' h1 h2 _ h5
  refine hK v' w' ?_ ?_ ((Below.refl _ _).grown h2 hB hown.ownBlock) h2 h5
  · unfold TapO
    rw [List.map_append]; exact h1
  · rcases h1.2 with ⟨h, _⟩ | ⟨g, c, cur, h, _⟩
    · rw [h]; rfl
    · rw [h]; rfl
end Go.Proofs.Ytmnoelfabldpfaa
namespace Go.Proofs.Ytmnoelfabldpfaa
open Go.ChangeShapes Go.WideShapes Go.ChangeAt Go.RowKit
set_option linter.unusedVariables false
variable {w w' : World} {g : Nat} {d u : List Int} {k : Int} {v : Value} {D U : Nat → Prop} {T : List Int} {n H B : Nat}
end Go.Proofs.Ytmnoelfabldpfaa
