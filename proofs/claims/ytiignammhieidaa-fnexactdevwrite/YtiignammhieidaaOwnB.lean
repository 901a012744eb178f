/-
  Own work: a slice of bytes of the call's own, and what append makes of it.
-/
import Derived.Test.YtiignammhieidaaRowB
import Derived.Deep.AppendLies
namespace Go.Proofs.Ytiignammhieidaa
open Go.ChangeShapes Go.WideShapes Go.ChangeAt Go.RowKit
set_option linter.unusedVariables false

theorem Try.infoU8' : (Try.prog.info? 5).map (fun i => (i.zero, i.size, i.bytes)) = some (some (.int .u8 0), 1, 1) := by kernel_rfl

/-- The value v is a slice of the bytes zs. -/
def Part (w : World) (v : Value) (zs : List Int) : Prop :=
  ∃ b o c, v = .slice (some ⟨b, o, none⟩) zs.length c ∧ b < w.heap.size ∧ ∀ i, i < zs.length → w.cell? ⟨b, o + i, none⟩ = some (.int .u8 (zs.getD i 0))

/-- A slice of the call's own that holds the bytes zs, in a block from B on. -/
def Own (w : World) (B : Nat) (v : Value) (zs : List Int) : Prop :=
  w.ownsRow B 5 1 v zs.length (zs.map (Value.int .u8)) ∧ ∃ g c, v = .slice (some ⟨g, 0, none⟩) zs.length c

theorem Own.base {w : World} {B : Nat} {v : Value} {zs : List Int} (h : Own w B v zs) : ∃ g c, v = .slice (some ⟨g, 0, none⟩) zs.length c ∧ B ≤ g ∧ g < w.heap.size ∧ zs.length ≤ c := by
  obtain ⟨h, g, c, rfl⟩ := h
  rcases h.2 with ⟨h', _⟩ | ⟨g', c', cur, h', hb, hh, hc, _⟩
  · cases h'
  · cases h'
    exact ⟨g, c, rfl, hb, (Array.getElem?_eq_some_iff.1 hh).1, hc⟩

theorem Own.part {w : World} {B : Nat} {v : Value} {zs : List Int} (h : Own w B v zs) : Part w v zs := by
  obtain ⟨g, c, rfl, hb, hg, hc⟩ := h.base
  refine ⟨g, 0, c, rfl, hg, fun i hi => ?_⟩
  rw [Nat.zero_add, h.1.cellAt i (by omega)]; simp [hi]

theorem Part.below {w w' : World} {v : Value} {zs : List Int} (h : Part w v zs) (hb : Below w.heap.size w w') : Part w' v zs := by
  obtain ⟨b, o, c, rfl, hl, hc⟩ := h
  exact ⟨b, o, c, rfl, by have := hb.size; omega, fun i hi => by rw [hb.cell (p := ⟨b, o + i, none⟩) hl]; exact hc i hi⟩

theorem Own.empty (w : World) (B : Nat) (hB : B ≤ w.heap.size) : Own (w.alloc (.cells #[] 5)) B (.slice (some ⟨w.heap.size, 0, none⟩) 0 0) [] :=
  ⟨World.ownsRow_lit w #[] 0 hB (by simp) (by simp), _, _, rfl⟩

theorem Own.alloc {w : World} {B : Nat} {v : Value} {zs : List Int} (h : Own w B v zs) (o : Obj) : Own (w.alloc o) B v zs := ⟨h.1.alloc _, h.2⟩

/-- append of bytes to a slice of the call's own. -/
theorem wpList_app (w : World) {ops : Array Oper} {rest : List Oper} {o : Oper} {a : Act} {Q : Exit → Act → World → Prop}
    (hg : o.guard = none) (s x : Operand) (hop : o.op = Op.call { callee := Callee.builtin Builtin.append, args := #[s, x], argTypes := #[22, 22] })
    (B : Nat) (v : Value) (xs : List Int) (hs : a.eval s = v) (hown : Own w B v xs) (ad : Addr) (m c : Nat) (news : List Int) (hx : a.eval x = .slice (some ad) m c) (hl : news.length = m)
    (hnews : ∀ j, j < m → w.cell? (ad.add j) = some (.int .u8 (news.getD j 0))) (hb : xs.length + m ≤ 1099511627776) (hB : B ≤ w.heap.size)
    (hK : ∀ v' w', Own w' B v' (xs ++ news) → Below B w w' → w.grownBy w' v.ownBlock → wpList Try.prog ops Q rest (a.put o.dst v') w') :
    wpList Try.prog ops Q (o :: rest) a w := by
  obtain ⟨i0, hi, hz0, hz1, hz2⟩ := info_parts Try.infoU8'
  have hbase := hown.base
  refine wpList_append_own w hg s x 22 hop B 5 i0 (.int .u8 0) 1 1 Try.underlying22 hi hz0 hz1 hz2 rfl (by decide) v xs.length _ hs hown.1 ad m c (news.map (Value.int .u8)) hx (by simp [hl]) ?_ (ints_oneCell _ _) (by unfold maxLen; omega) (by omega) hB ?_
  · intro j u hu
    have hj : j < news.length := by have := (List.getElem?_eq_some_iff.1 hu).1; simpa using this
    rw [hnews j (by omega)]
    simp [hj] at hu; simp [hj, hu]
  · intro v' w' h1 h2 h3
    obtain ⟨g, c0, hv, hBg, _, _⟩ := hbase
    have hbel : Below B w w' := (Below.refl _ _).grown h2 hB (fun k hk => by rw [hv] at hk; simp [Value.ownBlock] at hk; omega)
    refine hK v' w' ⟨?_, ?_⟩ hbel h2
    · rw [List.map_append, List.length_append, hl]; exact h1
    · rcases h1.2 with ⟨h', _⟩ | ⟨g', c', cur, h', _⟩
      · exact absurd (h3.1 h').1 (by rw [hv]; simp)
      · exact ⟨g', c', by rw [h', List.length_append, hl]⟩
end Go.Proofs.Ytiignammhieidaa
