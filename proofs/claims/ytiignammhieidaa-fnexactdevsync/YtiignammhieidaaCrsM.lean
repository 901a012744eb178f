/-
  Own work: what a crash leaves on the disk, as a fact of lists.
-/
import Derived.Test.YtiignammhieidaaOverS
import Derived.Test.YtiignammhieidaaDevVal
import Derived.Test.YtiignammhieidaaBoolB
namespace Go.Proofs.Ytiignammhieidaa
open Go.ChangeShapes Go.WideShapes Go.ChangeAt Go.RowKit
set_option linter.unusedVariables false

/-- How many bytes of entry i get to the disk. -/
def rch (bs : List Bool) (t u : Int) (i : Nat) : Nat := if (i : Int) = t then (min (max u 0) 64).toNat else if bs.getD i false then 64 else 0
theorem rch_le (bs : List Bool) (t u : Int) (i : Nat) : rch bs t u i ≤ 64 := by unfold rch; split; · omega
                                                                                split <;> omega
theorem rch_tear {bs : List Bool} {t u : Int} {i : Nat} (h : (i : Int) = t) : rch bs t u i = (min (max u 0) 64).toNat := by unfold rch; rw [if_pos h]
theorem rch_keep {bs : List Bool} {t u : Int} {i : Nat} (h : ¬ (i : Int) = t) (h' : bs.getD i false = true) : rch bs t u i = 64 := by unfold rch; rw [if_neg h, if_pos h']
theorem rch_no {bs : List Bool} {t u : Int} {i : Nat} (h : ¬ (i : Int) = t) (h' : bs.getD i false = false) : rch bs t u i = 0 := by unfold rch; rw [if_neg h, if_neg (by rw [h']; decide)]

def crL (zs : List Int) (ps : List PD) (bs : List Bool) (t u : Int) : Nat → List Int
  | 0 => zs
  | k + 1 => overL (crL zs ps bs t u k) (ps.getD k (0, [])).1.toNat ((ps.getD k (0, [])).2.take (rch bs t u k))

def PsOk (L : Nat) (ps : List PD) : Prop := ∀ i, i < ps.length → pOk (L / 64) (ps.getD i (0, []))
theorem validB_of {L : Nat} {ps : List PD} {f : Int} (h : validB L ps f = true) : vBase L ps.length f ∧ PsOk L ps := by
  constructor
  · by_cases hv : vBase L ps.length f
    · exact hv
    · rw [validB_no hv] at h; cases h
  · intro i hi
    by_cases hp : pOk (L / 64) (ps.getD i (0, []))
    · exact hp
    · rw [validB_bad hi hp] at h; cases h
/-- The sector of entry i, as a natural number. -/
theorem PsOk.at_ {L : Nat} {ps : List PD} (h : PsOk L ps) (hL : L % 64 = 0) {i : Nat} (hi : i < ps.length) :
    ∃ s : Nat, (ps.getD i (0, [])).1 = (s : Int) ∧ s * 64 + 64 ≤ L ∧ (ps.getD i (0, [])).2.length = 64 := by
  obtain ⟨h1, h2, h3⟩ := h i hi
  refine ⟨(ps.getD i (0, [])).1.toNat, by omega, ?_, h3⟩
  omega

theorem crL_len {zs : List Int} {ps : List PD} {bs : List Bool} {t u : Int} (h : PsOk zs.length ps) (hL : zs.length % 64 = 0) : ∀ k, k ≤ ps.length → (crL zs ps bs t u k).length = zs.length := by
  intro k
  induction k with
  | zero => intro _; rfl
  | succ k ih =>
    intro hk
    obtain ⟨s, h1, h2, h3⟩ := h.at_ hL (i := k) (by omega)
    have := rch_le bs t u k
    have ihk := ih (by omega)
    show (overL _ _ _).length = _
    rw [overL_len, ihk]
    rw [ihk, h1]
    simp
    omega

theorem overL_mix (zs : List Int) (s : Nat) (z : List Int) (n : Nat) (hn : n ≤ 64) (hz : z.length = 64) (hs : s * 64 + 64 ≤ zs.length) :
    overL zs s (z.take n ++ ((zs.drop (s * 64)).take 64).drop n) = overL zs s (z.take n) := by
  have h1 : (z.take n ++ ((zs.drop (s * 64)).take 64).drop n).length = 64 := by simp [hz]; omega
  have h2 : (z.take n).length = n := by simp [hz]; omega
  unfold overL
  rw [h1, h2, List.append_assoc]
  congr 2
  have e1 : zs.drop (s * 64 + 64) = (zs.drop (s * 64)).drop 64 := by rw [List.drop_drop]
  have e2 : zs.drop (s * 64 + n) = (zs.drop (s * 64)).drop n := by rw [List.drop_drop]
  rw [e1, e2]
  have hl : n ≤ ((zs.drop (s * 64)).take 64).length := by simp; omega
  rw [← List.drop_append_of_le_length hl, List.take_append_drop]

def crZ (zs : List Int) (ps : List PD) (f : Int) (bs : List Bool) (t u : Int) : List Int := if validB zs.length ps f then crL zs ps bs t u ps.length else []
def crF (L : Nat) (ps : List PD) (f : Int) : Int := if validB L ps f then -1 else 0
theorem crZ_le (zs : List Int) (ps : List PD) (f : Int) (bs : List Bool) (t u : Int) : (crZ zs ps f bs t u).length ≤ zs.length := by
  unfold crZ; split
  · rename_i h
    obtain ⟨h1, h2⟩ := validB_of h
    rw [crL_len h2 h1.1 _ (Nat.le_refl _)]; exact Nat.le_refl _
  · simp

theorem Own.at_ {w : World} {B : Nat} {v : Value} {zs : List Int} (h : Own w B v zs) : ∃ g c, v = .slice (some ⟨g, 0, none⟩) zs.length c ∧ B ≤ g ∧ g < w.heap.size ∧ zs.length ≤ c ∧ At .u8 w (some ⟨g, 0, none⟩) zs ∧ Open w (some ⟨g, 0, none⟩) zs.length := by
  obtain ⟨g, c, rfl, hb, hg, hc⟩ := h.base
  have hcell : ∀ i, i < zs.length → w.cell? ⟨g, 0 + i, none⟩ = some (.int .u8 (zs.getD i 0)) := fun i hi => by
    rw [Nat.zero_add, h.1.cellAt i (by omega)]; simp [hi]
  refine ⟨g, c, rfl, hb, hg, hc, .inr ⟨g, 0, rfl, hg, hcell⟩, .inr ⟨g, 0, rfl, hg, fun i hi => ⟨by rw [hcell i hi]; rfl, ?_⟩⟩⟩
  rw [Nat.zero_add]; exact h.1.frozenAt i
theorem DMine.keep {B U : Nat} {w w' : World} {v : Value} {zs : List Int} {ps : List PD} {f : Int} {d : Bool} (h : DMine B U w v zs ps f d) (hk : ∀ k, B ≤ k → k < U → w'.heap[k]? = w.heap[k]?) (hs : w.heap.size ≤ w'.heap.size) : DMine B U w' v zs ps f d := by
  obtain ⟨da, dc, ca, cc, B1, hv, h1, h2, h3, h4, h5, h5', h6, h7⟩ := h
  exact ⟨da, dc, ca, cc, B1, hv, h1.keep (fun ad e => by have := h3 ad e; exact hk _ (by omega) (by omega)) hs, h2.keep (fun ad e => by have := h3 ad e; exact hk _ (by omega) (by omega)) hs, h3, h4, h5, by omega, h6.keep (fun k hk1 hk2 => hk k (by omega) hk2) hs, h7⟩
theorem DMine.plain {w : World} {B U : Nat} {v : Value} {zs : List Int} (f : Int) (d : Bool) (h : Own w B v zs) (hU : U = w.heap.size) : DMine B U w (.agg #[v, .slice none 0 0, .int .i64 f, .bool d]) zs [] f d := by
  subst hU
  obtain ⟨g, c, rfl, hb, hg, hc, hA, hO⟩ := h.at_
  exact ⟨_, c, none, 0, w.heap.size, rfl, hA, hO, fun ad e => by cases e; exact ⟨hb, hg⟩, by omega, Nat.le_refl _, Nat.le_refl _, .inl rfl, hc⟩
theorem DMine.nil (w : World) (B U : Nat) (hB : B ≤ U) (hU : U ≤ w.heap.size) (f : Int) (d : Bool) : DMine B U w (.agg #[.slice none 0 0, .slice none 0 0, .int .i64 f, .bool d]) [] [] f d :=
  ⟨none, 0, none, 0, U, rfl, .inl rfl, .inl rfl, (fun ad e => by cases e), hB, Nat.le_refl _, hU, .inl rfl, Nat.le_refl _⟩
end Go.Proofs.Ytiignammhieidaa
