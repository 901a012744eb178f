/-
  Own work: the field of the curve in digits of 16 bits: the least form and powers as plain mathematics.
-/
import Derived.Test.YthghkfncpdnpoacFe
namespace Go.Proofs.Ythghkfncpdnpoac
set_option linter.unusedVariables false

theorem least_dig {xs : List Int} (h : R xs) : ∀ i, 0 ≤ (carryL (carryL xs)).getD i 0 ∧ (carryL (carryL xs)).getD i 0 < 65536 := by
  have hc := cy_bd (C := 2) h.2 (by decide) (by decide) 16
  obtain ⟨b1, b2⟩ := carry_bd (xs := xs) (by decide) hc
  have h0 := carryL_get xs 0 (by decide)
  rw [if_pos rfl] at h0
  have h0' : -76 ≤ (carryL xs).getD 0 0 ∧ (carryL xs).getD 0 0 ≤ 65611 := by rw [h0]; omega
  clear h0 hc
  have h0 := h0'
  generalize hy : carryL xs = ys at *
  have hch : ∀ i, (-1 ≤ cy ys (i + 1) ∧ cy ys (i + 1) ≤ 1) ∧ (cy ys (i + 1) = 1 → 65536 ≤ ys.getD 0 0) ∧ (cy ys (i + 1) = -1 → ys.getD 0 0 < 0) := by
    intro i
    induction i with
    | zero => simp only [cy]; omega
    | succ i ih =>
      have := b2 (i + 1) (by omega)
      rw [show i + 1 + 1 = (i + 1) + 1 from rfl, cy]; omega
  have h16 : (-1 ≤ cy ys 16 ∧ cy ys 16 ≤ 1) ∧ (cy ys 16 = 1 → 65536 ≤ ys.getD 0 0) ∧ (cy ys 16 = -1 → ys.getD 0 0 < 0) := hch 15
  intro i
  by_cases hi : i < 16
  · rw [carryL_get _ _ hi]
    by_cases hi0 : i = 0
    · subst hi0
      rw [if_pos rfl, show cy ys 0 = 0 from rfl]
      generalize cy ys 16 = c at *
      omega
    · rw [if_neg hi0]; omega
  · rw [getD_past (by rw [carryL_len]; omega)]; omega
theorem carry_id {ys : List Int} (hl : ys.length = 16) (h : ∀ i, 0 ≤ ys.getD i 0 ∧ ys.getD i 0 < 65536) : carryL ys = ys := by
  have hc : ∀ i, cy ys i = 0 := fun i => by
    induction i with
    | zero => rfl
    | succ i ih => have := h i; simp only [cy, ih]; omega
  apply list16 (carryL_len _) hl
  intro i hi
  rw [carryL_get _ _ hi, hc, hc]
  have := h i
  split <;> omega
theorem dig_of_get {B : Int} {xs : List Int} (h : ∀ i, 0 ≤ xs.getD i 0 ∧ xs.getD i 0 < B) : Dig B xs := by
  intro z hz
  obtain ⟨i, hi, rfl⟩ := List.mem_iff_getElem.1 hz
  have := h i
  simpa [hi] using this
def pD : List Int := [65517, 65535, 65535, 65535, 65535, 65535, 65535, 65535, 65535, 65535, 65535, 65535, 65535, 65535, 65535, 32767]
theorem pD_val : val 65536 pD = fp := by decide
theorem pD_dig : ∀ i, 0 ≤ pD.getD i 0 ∧ pD.getD i 0 < 65536 := by
  intro i
  by_cases h : i < 16
  · have : i = 0 ∨ i = 1 ∨ i = 2 ∨ i = 3 ∨ i = 4 ∨ i = 5 ∨ i = 6 ∨ i = 7 ∨ i = 8 ∨ i = 9 ∨ i = 10 ∨ i = 11 ∨ i = 12 ∨ i = 13 ∨ i = 14 ∨ i = 15 := by omega
    rcases this with rfl | rfl | rfl | rfl | rfl | rfl | rfl | rfl | rfl | rfl | rfl | rfl | rfl | rfl | rfl | rfl <;> decide
  · rw [getD_past (by simp [pD]; omega)]; decide
theorem pD_get (i : Nat) (h : i < 16) : pD.getD i 0 = if i = 0 then 65517 else if i = 15 then 32767 else 65535 := by
  have : i = 0 ∨ i = 1 ∨ i = 2 ∨ i = 3 ∨ i = 4 ∨ i = 5 ∨ i = 6 ∨ i = 7 ∨ i = 8 ∨ i = 9 ∨ i = 10 ∨ i = 11 ∨ i = 12 ∨ i = 13 ∨ i = 14 ∨ i = 15 := by omega
  rcases this with rfl | rfl | rfl | rfl | rfl | rfl | rfl | rfl | rfl | rfl | rfl | rfl | rfl | rfl | rfl | rfl <;> decide
theorem sub_step16 (B p q z P x y b x' b' : Int) (h : p - q = z - b * P) (hx : x' - b' * B = x - y - b) : (p + x * P) - (q + y * P) = (z + x' * P) - b' * (P * B) := by
  have : (x' - b' * B) * P = (x - y - b) * P := by rw [hx]
  grind
/-- Powers, bit by bit from the highest. -/
def pbit (low nb i : Nat) : Bool := decide (nb ≤ i) || decide (low / 2 ^ i % 2 = 1)
def pstep (x : Int) (b : Bool) (s : Int) : Int := if b then s * s % fp * x % fp else s * s % fp
def pwF (x : Int) (low nb top : Nat) : Nat → Int
  | 0 => 1
  | k + 1 => pstep x (pbit low nb (top - k)) (pwF x low nb top k)
def fpN : Nat := 57896044618658097711785492504343953926634992332820282019728792003956564819949
def pstepN (x : Nat) (b : Bool) (s : Nat) : Nat := if b then s * s % fpN * x % fpN else s * s % fpN
def pwN (x low nb top : Nat) : Nat → Nat
  | 0 => 1
  | k + 1 => pstepN x (pbit low nb (top - k)) (pwN x low nb top k)
theorem fp_fpN : fp = (fpN : Int) := rfl
theorem pwF_N (x low nb top k : Nat) : pwF (x : Int) low nb top k = (pwN x low nb top k : Nat) := by
  induction k with
  | zero => rfl
  | succ k ih =>
    simp only [pwF, pwN, ih, pstep, pstepN, fp_fpN]
    split <;> simp only [Int.natCast_emod, Int.natCast_mul]
end Go.Proofs.Ythghkfncpdnpoac
