/-
  Own work: the program's elements of five limbs, as plain mathematics.
-/
import Derived.Test.YthghkfncpdnpoacFe
namespace Go.Proofs.Ythghkfncpdnpoac
set_option linter.unusedVariables false

/-! Elements of five limbs of 51 bits. -/
def gcy (B : Int) (xs : List Int) : Nat → Int
  | 0 => 0
  | i + 1 => (xs.getD i 0 + gcy B xs i) / B
theorem gcarry_val (B : Int) (xs : List Int) (n : Nat) : val B ((List.range n).map fun i => (xs.getD i 0 + gcy B xs i) % B) + gcy B xs n * B ^ n = val B ((List.range n).map fun i => xs.getD i 0) := by
  induction n with
  | zero => simp [val, gcy]
  | succ n ih =>
    rw [val_range, val_range, ← ih, Int.pow_succ]
    simp only [gcy]
    have e : (xs.getD n 0 + gcy B xs n) % B + B * ((xs.getD n 0 + gcy B xs n) / B) = xs.getD n 0 + gcy B xs n := Int.emod_add_mul_ediv _ _
    have e2 : ((xs.getD n 0 + gcy B xs n) % B + B * ((xs.getD n 0 + gcy B xs n) / B)) * B ^ n = (xs.getD n 0 + gcy B xs n) * B ^ n := by rw [e]
    generalize B ^ n = P at *
    generalize (xs.getD n 0 + gcy B xs n) / B = q at *
    generalize (xs.getD n 0 + gcy B xs n) % B = r at *
    generalize val B (List.map (fun i => (xs.getD i 0 + gcy B xs i) % B) (List.range n)) = v at *
    grind
def B51 : Int := 2251799813685248
def sdig (xs : List Int) (k i : Nat) : Int := if i < k then (xs.getD i 0 + gcy B51 xs i) % B51 else xs.getD i 0
def sst (xs : List Int) (k : Nat) : List Int := (List.range 5).map (sdig xs k)
theorem sst_len (xs : List Int) (k : Nat) : (sst xs k).length = 5 := by simp [sst]
theorem rget5 (f : Nat → Int) (i : Nat) (h : i < 5) : ((List.range 5).map f).getD i 0 = f i := by simp [h]
theorem sst_get (xs : List Int) (k i : Nat) (h : i < 5) : (sst xs k).getD i 0 = sdig xs k i := rget5 _ i h
theorem list5 {a b : List Int} (ha : a.length = 5) (hb : b.length = 5) (h : ∀ i, i < 5 → a.getD i 0 = b.getD i 0) : a = b := by
  apply List.ext_getElem (by omega)
  intro i h1 h2
  have := h i (by omega)
  simpa [h1, h2] using this
theorem sst_zero (xs : List Int) (h : xs.length = 5) : sst xs 0 = xs := by
  apply list5 (sst_len _ _) h
  intro i hi
  rw [sst_get _ _ _ hi]; simp [sdig]
theorem sst_step (xs : List Int) (k : Nat) (h : k < 5) : (sst xs k).set k ((xs.getD k 0 + gcy B51 xs k) % B51) = sst xs (k + 1) := by
  apply list5 (by simp [sst_len]) (sst_len _ _)
  intro i hi
  rw [getD_set_eq _ _ _ _ (by simp [sst_len]; omega), sst_get _ _ _ hi, sst_get _ _ _ hi]
  unfold sdig
  by_cases h2 : i = k
  · subst h2; simp
  · have h3 : (i < k) ↔ (i < k + 1) := by omega
    simp [h2, h3]
theorem sst_val (xs : List Int) (h : xs.length = 5) : val B51 (sst xs 5) + gcy B51 xs 5 * (fp + 19) = val B51 xs := by
  have e := gcarry_val B51 xs 5
  rw [← val_eq_range B51 xs 5 h] at e
  have e1 : sst xs 5 = (List.range 5).map fun i => (xs.getD i 0 + gcy B51 xs i) % B51 := by
    apply list5 (sst_len _ _) (by simp)
    intro i hi
    rw [sst_get _ _ _ hi, rget5 _ _ hi]; simp [sdig, hi]
  have e2 : (B51 : Int) ^ 5 = fp + 19 := by decide
  rw [e1, ← e2]; exact e
/-- The limbs behind a carry. -/
def carryE (xs : List Int) : List Int := (sst xs 5).set 0 ((sst xs 5).getD 0 0 + 19 * gcy B51 xs 5)
theorem carryE_len (xs : List Int) : (carryE xs).length = 5 := by simp [carryE, sst_len]
theorem carryE_val (xs : List Int) (h : xs.length = 5) : val B51 (carryE xs) = val B51 xs - gcy B51 xs 5 * fp := by
  unfold carryE
  rw [val_set _ _ _ _ (by simp [sst_len]), ← sst_val xs h]
  simp only [Int.pow_zero]
  generalize (sst xs 5).getD 0 0 = y
  generalize gcy B51 xs 5 = c
  generalize val B51 (sst xs 5) = v
  grind
def ev (xs : List Int) : Int := val B51 xs % fp
theorem ev_carryE (xs : List Int) (h : xs.length = 5) : ev (carryE xs) = ev xs := by
  unfold ev
  rw [carryE_val xs h]
  have : val B51 xs - gcy B51 xs 5 * fp = val B51 xs + fp * (-(gcy B51 xs 5)) := by grind
  rw [this, Int.add_mul_emod_self_left]
/-- Limbs as they stand between calls. -/
def EOk (xs : List Int) : Prop := xs.length = 5 ∧ (∀ i, 0 ≤ xs.getD i 0) ∧ (∀ i, 1 ≤ i → xs.getD i 0 < 2251799813685248) ∧ xs.getD 0 0 < 2251799813685504
theorem sst_bd (xs : List Int) (i : Nat) : 0 ≤ (sst xs 5).getD i 0 ∧ (sst xs 5).getD i 0 < 2251799813685248 := by
  by_cases h : i < 5
  · rw [sst_get _ _ _ h]; unfold sdig B51; rw [if_pos h]; omega
  · rw [getD_past (by rw [sst_len]; omega)]; omega
theorem carryE_ok {xs : List Int} (h0 : 0 ≤ gcy B51 xs 5) (h1 : gcy B51 xs 5 ≤ 13) : EOk (carryE xs) := by
  have hl : 0 < (sst xs 5).length := by rw [sst_len]; decide
  have hb0 := sst_bd xs 0
  refine ⟨carryE_len _, fun i => ?_, fun i hi => ?_, ?_⟩
  · unfold carryE; rw [getD_set_eq _ _ _ _ hl]; have := sst_bd xs i; split <;> omega
  · unfold carryE; rw [getD_set_eq _ _ _ _ hl, if_neg (by omega)]; exact (sst_bd xs i).2
  · unfold carryE; rw [getD_set_eq _ _ _ _ hl, if_pos rfl]; omega
theorem gcy_nonneg {xs : List Int} (h : ∀ i, 0 ≤ xs.getD i 0) (i : Nat) : 0 ≤ gcy B51 xs i := by
  induction i with
  | zero => simp [gcy]
  | succ i ih => have := h i; simp only [gcy]; unfold B51 at *; omega
/-- With limbs below M the carry stays below C. -/
theorem gcy_le {xs : List Int} {M C : Int} (h : ∀ i, 0 ≤ xs.getD i 0 ∧ xs.getD i 0 < M) (hC : 0 ≤ C) (hM : M + C ≤ 2251799813685248 * (C + 1)) (i : Nat) : 0 ≤ gcy B51 xs i ∧ gcy B51 xs i ≤ C := by
  induction i with
  | zero => simp [gcy]; omega
  | succ i ih => have := h i; simp only [gcy]; unfold B51 at *; omega
end Go.Proofs.Ythghkfncpdnpoac
