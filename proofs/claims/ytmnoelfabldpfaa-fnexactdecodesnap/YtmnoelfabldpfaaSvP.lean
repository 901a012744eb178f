/-
  Own work: lists of serials as sets, the mathematics.
-/
import Derived.Test.YtmnoelfabldpfaaSvO
namespace Go.Proofs.Ytmnoelfabldpfaa
set_option linter.unusedVariables false

/-- Strictly ascending. -/
def Asc (xs : List Int) : Prop := xs.Pairwise (· < ·)
theorem asc_ext : ∀ (xs ys : List Int), Asc xs → Asc ys → (∀ z, z ∈ xs ↔ z ∈ ys) → xs = ys := by
  intro xs
  induction xs with
  | nil =>
    intro ys _ _ h
    cases ys with
    | nil => rfl
    | cons y ys => exact absurd ((h y).2 (by simp)) (by simp)
  | cons x xs ih =>
    intro ys hx hy h
    cases ys with
    | nil => exact absurd ((h x).1 (by simp)) (by simp)
    | cons y ys =>
      have hx' := List.pairwise_cons.1 hx
      have hy' := List.pairwise_cons.1 hy
      have e : x = y := by
        rcases List.mem_cons.1 ((h x).1 (by simp)) with h1 | h1
        · exact h1
        · rcases List.mem_cons.1 ((h y).2 (by simp)) with h2 | h2
          · exact h2.symm
          · have := hy'.1 x h1; have := hx'.1 y h2; omega
      subst e
      rw [ih ys hx'.2 hy'.2 (fun z => ?_)]
      constructor
      · intro hz
        rcases List.mem_cons.1 ((h z).1 (List.mem_cons_of_mem _ hz)) with h1 | h1
        · have := hx'.1 z hz; omega
        · exact h1
      · intro hz
        rcases List.mem_cons.1 ((h z).2 (List.mem_cons_of_mem _ hz)) with h1 | h1
        · have := hy'.1 z hz; omega
        · exact h1
theorem getD_el {xs : List Int} {i : Nat} (h : i < xs.length) : xs.getD i 0 = xs[i] := by simp [List.getD, h]
theorem SerP.asc {xs : List Int} (h : SerP xs) : Asc xs := by
  have q : ∀ d i, i + d + 1 < xs.length → xs.getD i 0 < xs.getD (i + d + 1) 0 := by
    intro d
    induction d with
    | zero => intro i hi; exact (h (i + 0 + 1) hi).2.2 (by omega)
    | succ d ih =>
      intro i hi
      have h1 := ih i (by omega)
      have h2 := (h (i + (d + 1) + 1) hi).2.2 (by omega)
      rw [show i + (d + 1) + 1 - 1 = i + d + 1 by omega] at h2
      omega
  refine List.pairwise_iff_getElem.2 (fun i j hi hj hij => ?_)
  have := q (j - i - 1) i (by omega)
  rw [show i + (j - i - 1) + 1 = j by omega, getD_el hi, getD_el hj] at this
  exact this
theorem SerP.range {xs : List Int} (h : SerP xs) {z : Int} (hz : z ∈ xs) : 0 ≤ z ∧ z < 256 := by
  obtain ⟨i, hi, rfl⟩ := List.getElem_of_mem hz
  have := h i hi
  unfold okI at this
  rw [getD_el hi] at this
  exact ⟨this.1, this.2.1⟩
theorem SerP.of_asc {xs : List Int} (h : Asc xs) (hr : ∀ z ∈ xs, 0 ≤ z ∧ z < 256) : SerP xs := by
  intro i hi
  have := hr _ (List.getElem_mem hi)
  refine ⟨by rw [getD_el hi]; exact this.1, by rw [getD_el hi]; exact this.2, fun h0 => ?_⟩
  rw [getD_el hi, getD_el (by omega : i - 1 < xs.length)]
  exact List.pairwise_iff_getElem.1 h (i - 1) i (by omega) hi (by omega)
/-- The serials below k that are in P, ascending. -/
def upTo (P : Nat → Bool) (k : Nat) : List Int := ((List.range k).filter P).map Int.ofNat
theorem upTo_succ (P : Nat → Bool) (k : Nat) : upTo P (k + 1) = if P k = true then upTo P k ++ [(k : Int)] else upTo P k := by
  unfold upTo
  rw [List.range_succ, List.filter_append, List.map_append]
  by_cases h : P k = true
  · rw [if_pos h]; simp [h]
  · rw [if_neg h]; simp [h]
theorem upTo_mem {P : Nat → Bool} {k : Nat} {z : Int} : z ∈ upTo P k ↔ ∃ v : Nat, v < k ∧ P v = true ∧ z = v := by
  unfold upTo
  simp only [List.mem_map, List.mem_filter, List.mem_range]
  constructor
  · rintro ⟨v, ⟨h1, h2⟩, rfl⟩; exact ⟨v, h1, h2, rfl⟩
  · rintro ⟨v, h1, h2, rfl⟩; exact ⟨v, ⟨h1, h2⟩, rfl⟩
theorem upTo_asc (P : Nat → Bool) (k : Nat) : Asc (upTo P k) := by
  induction k with
  | zero => exact List.Pairwise.nil
  | succ k ih =>
    rw [upTo_succ]
    split
    · refine List.pairwise_append.2 ⟨ih, List.pairwise_singleton _ _, fun a ha b hb => ?_⟩
      obtain ⟨v, hv, _, rfl⟩ := upTo_mem.1 ha
      rw [List.mem_singleton.1 hb]; omega
    · exact ih
theorem upTo_len (P : Nat → Bool) (k : Nat) : (upTo P k).length ≤ k := by
  unfold upTo
  rw [List.length_map]
  exact Nat.le_trans (List.length_filter_le _ _) (by rw [List.length_range]; exact Nat.le_refl _)
theorem upTo_ser (P : Nat → Bool) : SerP (upTo P 256) := SerP.of_asc (upTo_asc P 256) (fun z hz => by
  obtain ⟨v, hv, _, rfl⟩ := upTo_mem.1 hz
  omega)
/-- A list of serials is what its set says. -/
theorem SerP.eq_upTo {xs : List Int} (h : SerP xs) (P : Nat → Bool) (hP : ∀ v, v < 256 → (P v = true ↔ (v : Int) ∈ xs)) : upTo P 256 = xs := by
  refine asc_ext _ _ (upTo_asc P 256) h.asc (fun z => ?_)
  rw [upTo_mem]
  constructor
  · rintro ⟨v, hv, hp, rfl⟩; exact (hP v hv).1 hp
  · intro hz
    have hr := h.range hz
    obtain ⟨v, rfl⟩ := Int.eq_ofNat_of_zero_le hr.1
    exact ⟨v, by omega, (hP v (by omega)).2 hz, rfl⟩
/-- How many bits of a byte are set. -/
def pop8 (x : Nat) : Nat := ((List.range 8).filter (fun j => x / 2 ^ j % 2 == 1)).length
def popS (bs : List Int) (k : Nat) : Nat := ((List.range k).map (fun i => pop8 (bs.getD i 0).toNat)).sum
theorem popS_succ (bs : List Int) (k : Nat) : popS bs (k + 1) = popS bs k + pop8 (bs.getD k 0).toNat := by
  unfold popS; rw [List.range_succ, List.map_append, List.sum_append]; simp
theorem upTo_add (P : Nat → Bool) (k n : Nat) : (upTo P (k + n)).length = (upTo P k).length + ((List.range n).filter (fun j => P (k + j))).length := by
  induction n with
  | zero => simp
  | succ n ih =>
    rw [← Nat.add_assoc, upTo_succ, List.range_succ, List.filter_append, List.length_append, ← Nat.add_assoc, ← ih]
    by_cases h : P (k + n) = true
    · rw [if_pos h]; simp [h]
    · rw [if_neg h]; simp [h]
theorem popS_upTo {bs : List Int} {Q : Nat → Prop} (hs : SetB bs Q) (P : Nat → Bool) (hP : ∀ v, v < 256 → (P v = true ↔ Q v)) (k : Nat) (hk : k ≤ 32) : popS bs k = (upTo P (k * 8)).length := by
  induction k with
  | zero => rfl
  | succ k ih =>
    rw [popS_succ, ih (by omega), show (k + 1) * 8 = k * 8 + 8 by omega, upTo_add]
    congr 1
    unfold pop8
    congr 1
    refine List.filter_congr (fun j hj => ?_)
    have hj' := List.mem_range.1 hj
    have h3 := hs.2.2 (k * 8 + j) (by omega)
    rw [show (k * 8 + j) / 8 = k by omega, show (k * 8 + j) % 8 = j by omega] at h3
    have h0 := (hs.2.1.get k).1
    obtain ⟨x, hx⟩ := Int.eq_ofNat_of_zero_le h0
    rw [hx] at h3
    rw [hx, Int.toNat_natCast]
    have e : ((x : Int) / 2 ^ j % 2 = 1) ↔ (x / 2 ^ j % 2 = 1) := by
      rw [show ((2 : Int) ^ j) = ((2 ^ j : Nat) : Int) by simp, ← Int.natCast_ediv]; omega
    rw [e] at h3
    have := h3.trans (hP (k * 8 + j) (by omega)).symm
    by_cases hp : P (k * 8 + j) = true
    · rw [hp]; simpa using this.2 hp
    · have h4 : ¬ (x / 2 ^ j % 2 = 1) := fun h => hp (this.1 h)
      rw [Bool.not_eq_true] at hp
      rw [hp]; simpa using h4
theorem pop_len {bs D : List Int} (hs : SetB bs (fun v => (v : Int) ∈ D)) (hD : SerP D) : popS bs 32 = D.length := by
  have h := popS_upTo hs (fun v => decide ((v : Int) ∈ D)) (fun v _ => by simp) 32 (by omega)
  rw [h, hD.eq_upTo _ (fun v _ => by simp)]
theorem without_ser {D : List Int} (hD : SerP D) (x : Int) : SerP (D.filter (fun z => z != x)) :=
  SerP.of_asc (List.Pairwise.filter _ hD.asc) (fun z hz => hD.range (List.mem_filter.1 hz).1)
end Go.Proofs.Ytmnoelfabldpfaa
