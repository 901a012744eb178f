/-
  Own work: two bytes of a digit put behind a text, in a statement that draws its order.
-/
import Derived.Test.YthghkfncpdnpoacOwnB
import Derived.Test.YthghkfncpdnpoacReg5
namespace Go.Proofs.Ythghkfncpdnpoac
open Go.ChangeShapes Go.WideShapes Go.ChangeAt Go.RowKit
set_option linter.unusedVariables false

/-- append of bytes to a slice of the call's own, as one operation. -/
theorem wp_app (w : World) {o : Oper} {a : Act} {K : Act → World → Prop} {Q : Exit → Act → World → Prop}
    (s x : Operand) (hop : o.op = Op.call { callee := Callee.builtin Builtin.append, args := #[s, x], argTypes := #[22, 22] })
    (B : Nat) (v : Value) (xs : List Int) (hs : a.eval s = v) (hown : Own w B v xs) (ad : Addr) (m c : Nat) (news : List Int) (hx : a.eval x = .slice (some ad) m c) (hl : news.length = m)
    (hnews : ∀ j, j < m → w.cell? (ad.add j) = some (.int .u8 (news.getD j 0))) (hb : xs.length + m ≤ 1099511627776) (hB : B ≤ w.heap.size)
    (hK : ∀ v' w', Own w' B v' (xs ++ news) → Below B w w' → w.grownBy w' v.ownBlock → K (a.put o.dst v') w') :
    o.wp Try.prog a w K Q := by
  obtain ⟨i0, hi, hz0, hz1, hz2⟩ := info_parts Try.infoU8'
  have hbase := hown.base
  refine wp_append_own w s x 22 hop B 5 i0 (.int .u8 0) 1 1 Try.underlying22 hi hz0 hz1 hz2 rfl (by decide) v xs.length _ hs hown.1 ad m c (news.map (Value.int .u8)) hx (by simp [hl]) ?_ (ints_oneCell _ _) (by unfold maxLen; omega) (by omega) hB ?_
  · intro j u hu
    have hj : j < news.length := by have := (List.getElem?_eq_some_iff.1 hu).1; simpa using this
    rw [hnews j (by omega)]
    simp [hj] at hu; simp [hj, hu]
  · intro v' w' h1 h2 h3
    obtain ⟨g, c0, hv, hBg, _, _⟩ := hbase
    have hbel : Below B w w' := (Below.refl _ _).grown h2 hB (fun k hk => by rw [hv] at hk; simp [Value.ownBlock] at hk; omega)
    refine hK v' w' ⟨?_, ?_⟩ hbel h2
    · rw [List.map_append, List.length_append, hl]; exact h1
    · rcases h1.2 with ⟨h', _⟩ | ⟨g', c', cur, h', _⟩
      · exact absurd (h3.1 h').1 (by rw [hv]; simp)
      · exact ⟨g', c', by rw [h', List.length_append, hl]⟩
theorem below_new3 (w : World) (o : Obj) : Below w.heap.size w (w.alloc o) := (Below.refl _ _).alloc (Nat.le_refl _) _
theorem Own.grow2 {w w' : World} {B : Nat} {v : Value} {zs : List Int} (h : Own w B v zs) (hb : Below w.heap.size w w') : Own w' B v zs := by
  refine ⟨⟨h.1.1, ?_⟩, h.2⟩
  rcases h.1.2 with h' | ⟨g, c, cur, h1, h2, h3, h4⟩
  · exact .inl h'
  · exact .inr ⟨g, c, cur, h1, h2, by rw [hb.block g (Array.getElem?_eq_some_iff.1 h3).1]; exact h3, h4⟩

/-- What each operation of 'out = append(out, byte(y[i]%256), byte(y[i]/256))' leaves. -/
def GBy (B : Nat) (u2 : Value) (gy cyy k : Nat) (d : Int) (bs : List Int) : Nat → (Nat → Bool) → World → Value → Prop
  | 0, _, _, v => v = u2
  | 1, _, _, v => v = .slice (some ⟨gy, 0, none⟩) 16 cyy
  | 2, _, _, v => v = .int .i64 k
  | 3, _, _, v => v = .pointer (some ⟨gy, k, none⟩)
  | 4, _, _, v => v = .int .i64 d
  | 5, _, _, v => v = .int .i64 (d % 256)
  | 6, _, _, v => v = .int .u8 (d % 256)
  | 7, _, _, v => v = .slice (some ⟨gy, 0, none⟩) 16 cyy
  | 8, _, _, v => v = .int .i64 k
  | 9, _, _, v => v = .pointer (some ⟨gy, k, none⟩)
  | 10, _, _, v => v = .int .i64 d
  | 11, _, _, v => v = .int .i64 (d / 256)
  | 12, _, _, v => v = .int .u8 (d / 256)
  | 13, L, w, v => L 14 = false → ∃ g', v = .slice (some ⟨g', 0, none⟩) 2 2 ∧ g' < w.heap.size ∧ w.cell? ⟨g', 0, none⟩ = some (.int .u8 (d % 256)) ∧ w.cell? ⟨g', 1, none⟩ = some (.int .u8 (d / 256))
  | 14, _, w, v => Own w B v (bs ++ [d % 256, d / 256])
  | _, _, _, _ => True
theorem GBy_stab (B : Nat) (u2 : Value) (gy cyy k : Nat) (d : Int) (bs : List Int) (j : Nat) (L : Nat → Bool) (w w' : World) (i : Nat) (v : Value) (hm : i ≠ 14 → Below w.heap.size w w') (hij : i ≠ j) (hL : L i = false) (h : GBy B u2 gy cyy k d bs j L w v) : GBy B u2 gy cyy k d bs j (updK L i) w' v := by
  unfold GBy at *
  split at h <;> try exact h
  · intro h14
    have hi : i ≠ 14 := fun e => by subst e; simp [updK] at h14
    have hL14 : L 14 = false := by simpa [updK, Ne.symm hi] using h14
    obtain ⟨g', e, hg, c0, c1⟩ := h hL14
    have hb := hm hi
    exact ⟨g', e, by have := hb.size; omega, by rw [hb.cell (p := ⟨g', 0, none⟩) hg]; exact c0, by rw [hb.cell (p := ⟨g', 1, none⟩) hg]; exact c1⟩
  · exact h.grow2 (hm (fun e => hij e))
end Go.Proofs.Ythghkfncpdnpoac
