/-
  Own work: products of elements as plain mathematics.
-/
import Derived.Test.YthghkfncpdnpoacEl
namespace Go.Proofs.Ythghkfncpdnpoac
set_option linter.unusedVariables false

def U62' (xs : List Int) : Prop := ∀ i, 0 ≤ xs.getD i 0 ∧ xs.getD i 0 < 9223372036854775808
/-! Products of elements. -/
def loE (a b : List Int) (i : Nat) : Int := cs a b i (i + 1)
def hiE (a b : List Int) (i : Nat) : Int := cs a b (5 + i) 5
def tl (a b : List Int) : List Int := (List.range 5).map fun i => loE a b i + 19 * hiE a b i
theorem tl_len (a b : List Int) : (tl a b).length = 5 := by simp [tl]
theorem tl_get (a b : List Int) (i : Nat) (h : i < 5) : (tl a b).getD i 0 = loE a b i + 19 * hiE a b i := rget5 _ i h
theorem cs_past5 {a b : List Int} (ha : a.length = 5) (s : Nat) (d : Nat) : cs a b s (5 + d) = cs a b s 5 := by
  induction d with
  | zero => rfl
  | succ d ih => rw [← Nat.add_assoc, cs, ih, getD_past (xs := a) (by omega)]; omega
theorem cs_zero5 {b : List Int} (a : List Int) (hb : b.length = 5) (i n : Nat) (h : n ≤ i + 1) : cs a b (5 + i) n = 0 := by
  induction n with
  | zero => rfl
  | succ n ih => rw [cs, ih (by omega), getD_past (xs := b) (by omega)]; omega
theorem tl_val (a b : List Int) (ha : a.length = 5) (hb : b.length = 5) : ∃ H, val B51 (tl a b) = val B51 a * val B51 b - H * fp := by
  have e1 := val_pad B51 (mulP a b) (5 + 5) (by have := mulP_len a b; omega)
  rw [val_split, val_mulP] at e1
  refine ⟨val B51 ((List.range 5).map fun i => (mulP a b).getD (5 + i) 0), ?_⟩
  have e2 : tl a b = (List.range 5).map fun i => (mulP a b).getD i 0 + 19 * (mulP a b).getD (5 + i) 0 := by
    unfold tl loE hiE
    congr 1; funext i
    rw [mulP_get, mulP_get, show 5 + i + 1 = 5 + (1 + i) by omega, cs_past5 ha]
  rw [e2, val_lin B51 (fun i => (mulP a b).getD i 0) (fun i => (mulP a b).getD (5 + i) 0) 5 19, ← e1]
  have : (B51 : Int) ^ 5 = fp + 19 := by decide
  rw [this]
  generalize val B51 (List.map (fun i => (mulP a b).getD i 0) (List.range 5)) = p
  generalize val B51 (List.map (fun i => (mulP a b).getD (5 + i) 0) (List.range 5)) = q
  grind
theorem ev_tl (a b : List Int) (ha : a.length = 5) (hb : b.length = 5) : ev (tl a b) = ev a * ev b % fp := by
  obtain ⟨H, e⟩ := tl_val a b ha hb
  unfold ev
  rw [e, ← Int.mul_emod]
  have : val B51 a * val B51 b - H * fp = val B51 a * val B51 b + fp * (-H) := by grind
  rw [this, Int.add_mul_emod_self_left]
theorem EOk.bd {a : List Int} (h : EOk a) : Bd 2251799813685504 a ∧ ∀ i, 0 ≤ a.getD i 0 := by
  refine ⟨fun i => ?_, h.2.1⟩
  have h0 := h.2.1 i
  rcases Nat.eq_zero_or_pos i with rfl | hi
  · have := h.2.2.2; omega
  · have := h.2.2.1 i hi; omega
theorem cs_nonneg {a b : List Int} (ha : ∀ i, 0 ≤ a.getD i 0) (hb : ∀ i, 0 ≤ b.getD i 0) (s n : Nat) : 0 ≤ cs a b s n := by
  induction n with
  | zero => exact Int.le_refl 0
  | succ n ih => rw [cs]; have := Int.mul_nonneg (ha n) (hb (s - n)); omega
/-- The sums stay small. -/
theorem tl_bd {a b : List Int} (ha : EOk a) (hb : EOk b) : (∀ s n, n ≤ 5 → 0 ≤ cs a b s n ∧ cs a b s n ≤ 40564819207303340847894502572032) ∧ (∀ i, 0 ≤ (tl a b).getD i 0 ∧ (tl a b).getD i 0 ≤ 811296384146066816957890051440640) ∧ (∀ i, 0 ≤ gcy B51 (tl a b) i ∧ gcy B51 (tl a b) i ≤ 1152921504606846976) ∧ gcy B51 (tl a b) 5 ≤ 36028797018963968 := by
  have h1 : ∀ s n, n ≤ 5 → 0 ≤ cs a b s n ∧ cs a b s n ≤ 40564819207303340847894502572032 := fun s n hn => by
    have h := (cs_bd ha.bd.1 hb.bd.1 (by decide) s n).2
    have h0 := cs_nonneg ha.2.1 hb.2.1 s n
    refine ⟨h0, ?_⟩
    have hn' : (n : Int) ≤ 5 := by omega
    have := Int.mul_le_mul_of_nonneg_right hn' (show (0 : Int) ≤ 2251799813685504 * 2251799813685504 by decide)
    have e : (5 : Int) * (2251799813685504 * 2251799813685504) ≤ 40564819207303340847894502572032 := by decide
    omega
  have h2 : ∀ i, 0 ≤ (tl a b).getD i 0 ∧ (tl a b).getD i 0 ≤ 811296384146066816957890051440640 := fun i => by
    by_cases h : i < 5
    · rw [tl_get _ _ _ h]; unfold loE hiE
      have p := h1 i (i + 1) (by omega); have q := h1 (5 + i) 5 (by omega); omega
    · rw [getD_past (by rw [tl_len]; omega)]; omega
  have h3 : ∀ i, 0 ≤ gcy B51 (tl a b) i ∧ gcy B51 (tl a b) i ≤ 1152921504606846976 := fun i => gcy_le (M := 811296384146066816957890051440641) (C := 1152921504606846976) (fun i => by have := h2 i; omega) (by decide) (by decide) i
  refine ⟨h1, h2, h3, ?_⟩
  have h4 : (tl a b).getD 4 0 ≤ 40564819207303340847894502572032 := by
    rw [tl_get _ _ _ (by decide)]
    have : hiE a b 4 = 0 := cs_zero5 a hb.1 4 5 (by decide)
    rw [this]; unfold loE; have := h1 4 (4 + 1) (by decide); omega
  have h5 := h3 4
  show ((tl a b).getD 4 0 + gcy B51 (tl a b) 4) / B51 ≤ _
  unfold B51 at *
  omega
theorem times_ok {a b : List Int} (ha : EOk a) (hb : EOk b) : U62' (carryE (tl a b)) ∧ EOk (carryE (carryE (tl a b))) ∧ ev (carryE (carryE (tl a b))) = ev a * ev b % fp := by
  obtain ⟨h1, h2, h3, h4⟩ := tl_bd ha hb
  have g5 := h3 5
  have hb1 : ∀ i, 0 ≤ (carryE (tl a b)).getD i 0 ∧ (carryE (tl a b)).getD i 0 < 1152921504606846976 ∧ (1 ≤ i → (carryE (tl a b)).getD i 0 < 2251799813685248) := fun i => by
    unfold carryE
    have s := sst_bd (tl a b) i
    have s0 := sst_bd (tl a b) 0
    rw [getD_set_eq _ _ _ _ (by rw [sst_len]; decide)]
    split <;> omega
  refine ⟨fun i => by have := hb1 i; omega, carryE_ok ?_ ?_, ?_⟩
  · exact gcy_nonneg (fun i => (hb1 i).1) 5
  · have c1 := (hb1 0); have c2 := (hb1 1); have c3 := hb1 2; have c4 := hb1 3; have c5 := hb1 4
    simp only [gcy]; unfold B51
    omega
  · rw [ev_carryE _ (carryE_len _), ev_carryE _ (tl_len _ _), ev_tl _ _ ha.1 hb.1]
end Go.Proofs.Ythghkfncpdnpoac
