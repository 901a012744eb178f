/-
  Own work: a list of pending writes that grows by append, in memory of the call's own.
-/
import Derived.Test.YtiignammhieidaaCloneI
import Derived.Test.YtiignammhieidaaCrsM
namespace Go.Proofs.Ytiignammhieidaa
open Go.ChangeShapes Go.WideShapes Go.ChangeAt Go.RowKit
set_option linter.unusedVariables false

structure Q1 where
  s : Int
  a : Option Addr
  c : Nat
  z : List Int
def qcells (qs : List Q1) : List Value := qs.flatMap fun q => [.int .i64 q.s, .slice q.a q.z.length q.c]
def qps (qs : List Q1) : List PD := qs.map fun q => (q.s, q.z)
theorem qcells_len (qs : List Q1) : (qcells qs).length = qs.length * 2 := by
  induction qs with
  | nil => rfl
  | cons q qs ih => unfold qcells at *; rw [List.flatMap_cons, List.length_append, ih]; simp; omega
theorem qcells_snoc (qs : List Q1) (q : Q1) : qcells (qs ++ [q]) = qcells qs ++ [.int .i64 q.s, .slice q.a q.z.length q.c] := by simp [qcells]
theorem qcells_get (qs : List Q1) (i : Nat) (q : Q1) (h : qs[i]? = some q) : (qcells qs)[i * 2]? = some (.int .i64 q.s) ∧ (qcells qs)[i * 2 + 1]? = some (.slice q.a q.z.length q.c) := by
  induction qs generalizing i with
  | nil => simp at h
  | cons p qs ih =>
    unfold qcells at *
    rw [List.flatMap_cons]
    cases i with
    | zero => simp at h; subst h; exact ⟨rfl, rfl⟩
    | succ i =>
      have h' : qs[i]? = some q := by simpa using h
      obtain ⟨h1, h2⟩ := ih i h'
      constructor
      · rw [show (i + 1) * 2 = i * 2 + 2 by omega, List.getElem?_append_right (by simp)]; simpa using h1
      · rw [show (i + 1) * 2 + 1 = i * 2 + 1 + 2 by omega, List.getElem?_append_right (by simp)]; simpa using h2

def Q1.v (q : Q1) : Value := .slice q.a q.z.length q.c
theorem OwnN.lt {w : World} {B : Nat} {v : Value} {z : List Int} (h : OwnN w B v z) : ∀ k, v.ownBlock = some k → B ≤ k ∧ k < w.heap.size ∧ ∃ cur, w.heap[k]? = some (.cells cur 5 (0, 0)) := by
  intro k e
  rcases h with ⟨rfl, _⟩ | h
  · cases e
  · obtain ⟨⟨h1, ⟨h2, _⟩ | ⟨g, cap, cur, h2, hb, hh, _⟩⟩, _⟩ := h
    · rw [h2] at e; cases e
    · rw [h2] at e; cases e; exact ⟨hb, (Array.getElem?_eq_some_iff.1 hh).1, cur, hh⟩
theorem ownsRow_keep {w w' : World} {B : Nat} {e : TypeId} {sz : Nat} {v : Value} {n : Nat} {xs : List Value} (h : w.ownsRow B e sz v n xs) (hk : ∀ k, v.ownBlock = some k → w'.heap[k]? = w.heap[k]?) : w'.ownsRow B e sz v n xs := by
  obtain ⟨h1, h2 | ⟨g, cap, cur, h2, hb, hh, h3, h4, h5, h6⟩⟩ := h
  · exact ⟨h1, .inl h2⟩
  · exact ⟨h1, .inr ⟨g, cap, cur, h2, hb, by rw [hk g (by rw [h2]; rfl)]; exact hh, h3, h4, h5, h6⟩⟩
theorem ownsRow_lt {w : World} {B : Nat} {e : TypeId} {sz : Nat} {v : Value} {n : Nat} {xs : List Value} (h : w.ownsRow B e sz v n xs) : ∀ k, v.ownBlock = some k → B ≤ k ∧ k < w.heap.size ∧ ∃ cur, w.heap[k]? = some (.cells cur e (0, 0)) := by
  intro k hk
  obtain ⟨h1, ⟨h2, _⟩ | ⟨g, cap, cur, h2, hb, hh, h3, h4, h5, h6⟩⟩ := h
  · rw [h2] at hk; cases hk
  · rw [h2] at hk; cases hk; exact ⟨hb, (Array.getElem?_eq_some_iff.1 hh).1, cur, hh⟩
theorem ownsRow_mono {w : World} {B B' : Nat} {e : TypeId} {sz : Nat} {v : Value} {n : Nat} {xs : List Value} (h : w.ownsRow B e sz v n xs) (hB : B' ≤ B) : w.ownsRow B' e sz v n xs := by
  obtain ⟨h1, h2 | ⟨g, cap, cur, h2, hb, hh, h3, h4, h5, h6⟩⟩ := h
  · exact ⟨h1, .inl h2⟩
  · exact ⟨h1, .inr ⟨g, cap, cur, h2, by omega, hh, h3, h4, h5, h6⟩⟩
theorem Own.keep {w w' : World} {B : Nat} {v : Value} {zs : List Int} (h : Own w B v zs) (hk : ∀ k, v.ownBlock = some k → w'.heap[k]? = w.heap[k]?) : Own w' B v zs := ⟨ownsRow_keep h.1 hk, h.2⟩
theorem Own.mono {w : World} {B B' : Nat} {v : Value} {zs : List Int} (h : Own w B v zs) (hB : B' ≤ B) : Own w B' v zs := ⟨ownsRow_mono h.1 hB, h.2⟩
theorem OwnN.keep {w w' : World} {B : Nat} {v : Value} {zs : List Int} (h : OwnN w B v zs) (hk : ∀ k, v.ownBlock = some k → w'.heap[k]? = w.heap[k]?) : OwnN w' B v zs := by
  rcases h with h | h
  · exact .inl h
  · exact .inr (h.keep hk)
theorem OwnN.mono {w : World} {B B' : Nat} {v : Value} {zs : List Int} (h : OwnN w B v zs) (hB : B' ≤ B) : OwnN w B' v zs := by
  rcases h with h | h
  · exact .inl h
  · exact .inr (h.mono hB)

/-- An entry's bytes: of the call's own, or a sector of its own. -/
def QOk (w : World) (B : Nat) (q : Q1) : Prop := OwnN w B q.v q.z ∨ ∃ k, q.v = .slice (some ⟨k, 0, none⟩) 64 64 ∧ B ≤ k ∧ q.z.length = 64 ∧ Row w k 50 q.z
theorem QOk.lt {w : World} {B : Nat} {q : Q1} (h : QOk w B q) : ∀ k, q.v.ownBlock = some k → B ≤ k ∧ k < w.heap.size ∧ ∃ cur t, w.heap[k]? = some (.cells cur t (0, 0)) ∧ t ≠ 44 ∧ t ≠ 29 := by
  intro k e
  rcases h with h | ⟨k', hv, hb, hl, hr⟩
  · obtain ⟨h1, h2, cur, h3⟩ := h.lt k e
    exact ⟨h1, h2, cur, _, h3, by decide, by decide⟩
  · rw [hv] at e; cases e
    exact ⟨hb, hr.lt, _, _, hr, by decide, by decide⟩
theorem QOk.keep {w w' : World} {B : Nat} {q : Q1} (h : QOk w B q) (hk : ∀ k, q.v.ownBlock = some k → w'.heap[k]? = w.heap[k]?) : QOk w' B q := by
  rcases h with h | ⟨k', hv, hb, hl, hr⟩
  · exact .inl (h.keep hk)
  · exact .inr ⟨k', hv, hb, hl, by unfold Row; rw [hk k' (by rw [hv]; rfl)]; exact hr⟩
theorem QOk.mono {w : World} {B B' : Nat} {q : Q1} (h : QOk w B q) (hB : B' ≤ B) : QOk w B' q := by
  rcases h with h | ⟨k', hv, hb, hl, hr⟩
  · exact .inl (h.mono hB)
  · exact .inr ⟨k', hv, by omega, hl, hr⟩
structure POwn (w : World) (B : Nat) (v : Value) (qs : List Q1) : Prop where
  row : w.ownsRow B 44 2 v qs.length (qcells qs)
  each : ∀ (i : Nat) (q : Q1), qs[i]? = some q → QOk w B q
  ord : ∀ (i j : Nat) (q q' : Q1) (k k' : Nat), qs[i]? = some q → qs[j]? = some q' → i < j → q.v.ownBlock = some k → q'.v.ownBlock = some k' → k < k'

theorem POwn.nil (w : World) (B : Nat) : POwn w B (.slice none 0 0) [] := ⟨⟨rfl, .inl ⟨rfl, rfl⟩⟩, fun i q h => by simp at h, fun i j q q' ad ad' h => by simp at h⟩
theorem POwn.below {w w' : World} {B : Nat} {v : Value} {qs : List Q1} (h : POwn w B v qs) (hb : Below w.heap.size w w') : POwn w' B v qs :=
  ⟨ownsRow_keep h.row (fun k hk => hb.block k (ownsRow_lt h.row k hk).2.1), fun i q hq => (h.each i q hq).keep (fun k hk => hb.block k ((h.each i q hq).lt k hk).2.1), h.ord⟩
/-- Blocks of other types may turn. -/
theorem POwn.keep {w w' : World} {B : Nat} {v : Value} {qs : List Q1} (h : POwn w B v qs) (hk : ∀ k, B ≤ k → k < w.heap.size → w'.heap[k]? = w.heap[k]?) : POwn w' B v qs :=
  ⟨ownsRow_keep h.row (fun k e => hk k (ownsRow_lt h.row k e).1 (ownsRow_lt h.row k e).2.1), fun i q hq => (h.each i q hq).keep (fun k e => hk k ((h.each i q hq).lt k e).1 ((h.each i q hq).lt k e).2.1), h.ord⟩

theorem POwn.mine {w : World} {B : Nat} {v : Value} {qs : List Q1} (h : POwn w B v qs) : ∃ a c, v = .slice a qs.length c ∧ PMine B w.heap.size w a (qps qs) := by
  obtain ⟨h1, ⟨h2, h3⟩ | ⟨g, cap, cur, h2, hb, hh, hc, hm, hs, ht⟩⟩ := h.row
  · exact ⟨none, 0, by rw [h2, h3], .inl (by rw [List.eq_nil_of_length_eq_zero h3]; rfl)⟩
  · refine ⟨_, cap, h2, ?_⟩
    have hlt := (Array.getElem?_eq_some_iff.1 hh).1
    refine .inr ⟨g, 0, fun i => (qs.getD i ⟨0, none, 0, []⟩).a, fun i => (qs.getD i ⟨0, none, 0, []⟩).c, rfl, hb, hlt, Nat.le_refl _, fun i hi => ?_, fun i j ad ad' hi hj hij e e' => ?_⟩
    · have hi' : i < qs.length := by simpa [qps] using hi
      have hq : qs[i]? = some qs[i] := List.getElem?_eq_getElem hi'
      have hd : qs.getD i ⟨0, none, 0, []⟩ = qs[i] := by rw [List.getD_eq_getElem?_getD, hq]; rfl
      have hp : (qps qs).getD i (0, []) = (qs[i].s, qs[i].z) := by simp [qps, List.getD, hq]
      obtain ⟨c1, c2⟩ := qcells_get qs i _ hq
      have hcell : ∀ t x, (qcells qs)[t]? = some x → w.cell? ⟨g, 0 + t, none⟩ = some x := fun t x hx => by
        have htl : t < qs.length * 2 := by have := (List.getElem?_eq_some_iff.1 hx).1; rw [qcells_len] at this; exact this
        rw [cell_of_row w g (0 + t) cur _ (0, 0) hh, Nat.zero_add]
        have : (cur.toList.take (qs.length * 2))[t]? = (qcells qs)[t]? := by rw [ht]
        rw [List.getElem?_take_of_lt htl, hx] at this
        simpa using this
      have hE := h.each i _ hq
      dsimp only
      rw [hd, hp]
      refine ⟨hcell _ _ c1, frozen_of_row w g _ cur _ hh, by rw [Nat.add_assoc]; exact hcell _ _ c2, ?_, ?_, fun ad e => ?_, ?_⟩
      · rcases hE with (⟨_, h0⟩ | hO) | ⟨k', hv, hb', hl, hr⟩
        · exact .inl h0
        · obtain ⟨g', c', hv, _, _, _, hA, _⟩ := hO.at_
          have : qs[i].a = some ⟨g', 0, none⟩ := by unfold Q1.v at hv; simp at hv; exact hv.1
          rw [this]; exact hA
        · have : qs[i].a = some ⟨k', 0, none⟩ := by unfold Q1.v at hv; simp at hv; exact hv.1
          rw [this]; exact hr.at_
      · rcases hE with (⟨_, h0⟩ | hO) | ⟨k', hv, hb', hl, hr⟩
        · exact .inl (by rw [h0]; rfl)
        · obtain ⟨g', c', hv, _, _, _, _, hA⟩ := hO.at_
          have : qs[i].a = some ⟨g', 0, none⟩ := by unfold Q1.v at hv; simp at hv; exact hv.1
          rw [this]; exact hA
        · have : qs[i].a = some ⟨k', 0, none⟩ := by unfold Q1.v at hv; simp at hv; exact hv.1
          rw [this]; exact hr.open_
      · obtain ⟨l1, l2, cur', t', l3, l4, _⟩ := hE.lt ad.block (by unfold Q1.v; rw [e]; rfl)
        refine ⟨l1, l2, fun eg => ?_⟩
        rw [eg, hh] at l3
        simp at l3
        exact l4 l3.2.symm
      · rcases hE with (⟨hv, h0⟩ | hO) | ⟨k', hv, hb', hl, hr⟩
        · rw [h0]; exact Nat.zero_le _
        · obtain ⟨g', c', hv, _, _, hle, _, _⟩ := hO.at_
          have : qs[i].c = c' := by unfold Q1.v at hv; simp at hv; exact hv.2
          rw [this]; exact hle
        · have : qs[i].c = 64 := by unfold Q1.v at hv; simp at hv; exact hv.2.2
          rw [this, hl]; exact Nat.le_refl _
    · have hi' : i < qs.length := by simpa [qps] using hi
      have hj' : j < qs.length := by simpa [qps] using hj
      have hd : ∀ t (ht : t < qs.length), qs.getD t ⟨0, none, 0, []⟩ = qs[t] := fun t ht => by rw [List.getD_eq_getElem?_getD, List.getElem?_eq_getElem ht]; rfl
      simp only [hd i hi', hd j hj'] at e e'
      rcases Nat.lt_or_ge i j with hlt' | hge
      · have := h.ord i j _ _ ad.block ad'.block (List.getElem?_eq_getElem hi') (List.getElem?_eq_getElem hj') hlt' (by unfold Q1.v; rw [e]; rfl) (by unfold Q1.v; rw [e']; rfl)
        omega
      · have := h.ord j i _ _ ad'.block ad.block (List.getElem?_eq_getElem hj') (List.getElem?_eq_getElem hi') (by omega) (by unfold Q1.v; rw [e']; rfl) (by unfold Q1.v; rw [e]; rfl)
        omega
end Go.Proofs.Ytiignammhieidaa
