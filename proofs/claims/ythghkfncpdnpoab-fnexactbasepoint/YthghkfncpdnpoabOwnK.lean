/-
  Own work: a slice of integers of the call's own, whatever their kind, and what append makes of it.
-/
import Derived.Test.YthghkfncpdnpoabRowB
import Derived.Deep.AppendLies
namespace Go.Proofs.Ythghkfncpdnpoab
open Go.ChangeShapes Go.WideShapes Go.ChangeAt Go.RowKit
set_option linter.unusedVariables false

/-- The type t holds integers of kind k, s is the type of their slices. -/
structure KT (k : IntKind) (t s : TypeId) (by' : Nat) : Prop where
  info : (Try.prog.info? t).map (fun i => (i.zero, i.size, i.bytes)) = some (some (.int k 0), 1, by')
  und : Try.prog.underlying s = some (.slice t)
  pos : by' ≠ 0
  le : by' ≤ 8

/-- A slice of the call's own that holds the numbers zs, in a block from B on. -/
def OwnK (k : IntKind) (t : TypeId) (w : World) (B : Nat) (v : Value) (zs : List Int) : Prop :=
  w.ownsRow B t 1 v zs.length (zs.map (Value.int k)) ∧ ∃ g c, v = .slice (some ⟨g, 0, none⟩) zs.length c

variable {k : IntKind} {t s : TypeId} {by' : Nat}
theorem OwnK.base {w : World} {B : Nat} {v : Value} {zs : List Int} (h : OwnK k t w B v zs) : ∃ g c, v = .slice (some ⟨g, 0, none⟩) zs.length c ∧ B ≤ g ∧ g < w.heap.size ∧ zs.length ≤ c := by
  obtain ⟨h, g, c, rfl⟩ := h
  rcases h.2 with ⟨h', _⟩ | ⟨g', c', cur, h', hb, hh, hc, _⟩
  · cases h'
  · cases h'
    exact ⟨g, c, rfl, hb, (Array.getElem?_eq_some_iff.1 hh).1, hc⟩
theorem OwnK.at_ {w : World} {B : Nat} {v : Value} {zs : List Int} (h : OwnK k t w B v zs) : ∃ g c, v = .slice (some ⟨g, 0, none⟩) zs.length c ∧ B ≤ g ∧ g < w.heap.size ∧ At k w (some ⟨g, 0, none⟩) zs := by
  obtain ⟨g, c, rfl, hb, hg, hc⟩ := h.base
  exact ⟨g, c, rfl, hb, hg, .inr ⟨g, 0, rfl, hg, fun i hi => by rw [Nat.zero_add, h.1.cellAt i (by omega)]; simp [hi]⟩⟩
theorem OwnK.atS {w : World} {B g n c : Nat} {zs : List Int} (h : OwnK k t w B (.slice (some ⟨g, 0, none⟩) n c) zs) : At k w (some ⟨g, 0, none⟩) zs ∧ B ≤ g ∧ g < w.heap.size := by
  obtain ⟨g', c', e, h1, h2, h3⟩ := h.at_
  simp at e
  obtain ⟨rfl, _⟩ := e
  exact ⟨h3, h1, h2⟩
theorem OwnK.empty (w : World) (B : Nat) (hB : B ≤ w.heap.size) : OwnK k t (w.alloc (.cells #[] t)) B (.slice (some ⟨w.heap.size, 0, none⟩) 0 0) [] :=
  ⟨World.ownsRow_lit w #[] 0 hB (by simp) (by simp), _, _, rfl⟩
theorem OwnK.alloc {w : World} {B : Nat} {v : Value} {zs : List Int} (h : OwnK k t w B v zs) (o : Obj) : OwnK k t (w.alloc o) B v zs := ⟨h.1.alloc _, h.2⟩
theorem OwnK.lit (w : World) (B : Nat) (zs : List Int) (hB : B ≤ w.heap.size) (hl : zs.length ≤ 1024) : OwnK k t (w.alloc (.cells (zs.map (Value.int k)).toArray t)) B (.slice (some ⟨w.heap.size, 0, none⟩) zs.length zs.length) zs :=
  ⟨by
    have := World.ownsRow_lit w (e := t) (size := 1) (base := B) (zs.map (Value.int k)).toArray zs.length hB (by unfold maxLen; omega) (by simp)
    exact this, _, _, rfl⟩
theorem OwnK.grow {w w' : World} {B : Nat} {v : Value} {zs : List Int} (h : OwnK k t w B v zs) (hb : Below w.heap.size w w') : OwnK k t w' B v zs := by
  refine ⟨⟨h.1.1, ?_⟩, h.2⟩
  rcases h.1.2 with h' | ⟨g, c, cur, h1, h2, h3, h4⟩
  · exact .inl h'
  · exact .inr ⟨g, c, cur, h1, h2, by rw [hb.block g (Array.getElem?_eq_some_iff.1 h3).1]; exact h3, h4⟩
theorem OwnK.lower {w : World} {B B' : Nat} {v : Value} {zs : List Int} (h : OwnK k t w B' v zs) (hB : B ≤ B') : OwnK k t w B v zs := by
  obtain ⟨⟨h1, h2⟩, h3⟩ := h
  refine ⟨⟨h1, ?_⟩, h3⟩
  rcases h2 with h | ⟨g, c, cur, h4, h5, h6⟩
  · exact .inl h
  · exact .inr ⟨g, c, cur, h4, by omega, h6⟩
/-- One cell set. -/
theorem OwnK.set {w : World} {B : Nat} {g c : Nat} {zs : List Int} {n : Nat} (hn : zs.length = n) (h : OwnK k t w B (.slice (some ⟨g, 0, none⟩) n c) zs) (i : Nat) (x : Int) (hi : i < n) :
    w.cell? ⟨g, i, none⟩ = some (.int k (zs.getD i 0)) ∧ w.frozen? ⟨g, i, none⟩ = false ∧ OwnK k t (w.setCell ⟨g, i, none⟩ (.int k x)) B (.slice (some ⟨g, 0, none⟩) n c) (zs.set i x) := by
  subst hn
  refine ⟨?_, h.1.frozenAt i, ?_, ?_⟩
  · rw [h.1.cellAt i (by omega)]; simp [hi]
  · have := (h.1.stored i (.int k x)).1
    rw [← List.map_set] at this
    rw [List.length_set]; exact this
  · rw [List.length_set]; exact ⟨_, _, rfl⟩
theorem OwnK.cellAt {w : World} {B : Nat} {g c : Nat} {zs : List Int} {n : Nat} (hn : zs.length = n) (h : OwnK k t w B (.slice (some ⟨g, 0, none⟩) n c) zs) (i : Nat) (hi : i < n) : w.cell? ⟨g, i, none⟩ = some (.int k (zs.getD i 0)) := by
  subst hn
  rw [h.1.cellAt i (by omega)]; simp [hi]

/-- append of numbers to a slice of the call's own. -/
theorem wpList_appK (w : World) {ops : Array Oper} {rest : List Oper} {o : Oper} {a : Act} {Q : Exit → Act → World → Prop} (hk : KT k t s by')
    (hg : o.guard = none) (sx x : Operand) (hop : o.op = Op.call { callee := Callee.builtin Builtin.append, args := #[sx, x], argTypes := #[s, s] })
    (B : Nat) (v : Value) (xs : List Int) (hs : a.eval sx = v) (hown : OwnK k t w B v xs) (ad : Addr) (m c : Nat) (news : List Int) (hx : a.eval x = .slice (some ad) m c) (hl : news.length = m)
    (hnews : ∀ j, j < m → w.cell? (ad.add j) = some (.int k (news.getD j 0))) (hb : xs.length + m ≤ 1099511627776) (hB : B ≤ w.heap.size)
    (hK : ∀ v' w', OwnK k t w' B v' (xs ++ news) → Below B w w' → w.grownBy w' v.ownBlock → wpList Try.prog ops Q rest (a.put o.dst v') w') :
    wpList Try.prog ops Q (o :: rest) a w := by
  obtain ⟨i0, hi, hz0, hz1, hz2⟩ := info_parts hk.info
  have hbase := hown.base
  have hp := hk.pos
  have hle := hk.le
  refine wpList_append_own w hg sx x s hop B t i0 (.int k 0) 1 by' hk.und hi hz0 hz1 hz2 rfl (by omega) v xs.length _ hs hown.1 ad m c (news.map (Value.int k)) hx (by simp [hl]) ?_ (ints_oneCell _ _) (by unfold maxLen; omega) ?_ hB ?_
  · intro j u hu
    have hj : j < news.length := by have := (List.getElem?_eq_some_iff.1 hu).1; simpa using this
    rw [hnews j (by omega)]
    simp [hj] at hu; simp [hj, hu]
  · have := Nat.mul_le_mul hb hle
    omega
  · intro v' w' h1 h2 h3
    obtain ⟨g, c0, hv, hBg, _, _⟩ := hbase
    have hbel : Below B w w' := (Below.refl _ _).grown h2 hB (fun k hk => by rw [hv] at hk; simp [Value.ownBlock] at hk; omega)
    refine hK v' w' ⟨?_, ?_⟩ hbel h2
    · rw [List.map_append, List.length_append, hl]; exact h1
    · rcases h1.2 with ⟨h', _⟩ | ⟨g', c', cur, h', _⟩
      · exact absurd (h3.1 h').1 (by rw [hv]; simp)
      · exact ⟨g', c', by rw [h', List.length_append, hl]⟩
end Go.Proofs.Ythghkfncpdnpoab
