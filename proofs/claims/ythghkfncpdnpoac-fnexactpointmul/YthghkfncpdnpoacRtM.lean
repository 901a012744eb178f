/-
  Own work: the roots of program and model are the same: the mathematics.
-/
import Derived.Test.YthghkfncpdnpoacIDd
import Derived.Test.YthghkfncpdnpoacSDc
import Derived.Test.YthghkfncpdnpoacFerm
namespace Go.Proofs.Ythghkfncpdnpoac
set_option linter.unusedVariables false

theorem ml (a b : Int) : (a % fp) * b % fp = a * b % fp := by rw [Int.mul_emod, Int.emod_emod_of_dvd _ (Int.dvd_refl fp), ← Int.mul_emod]
theorem mr (a b : Int) : a * (b % fp) % fp = a * b % fp := by rw [Int.mul_emod, Int.emod_emod_of_dvd _ (Int.dvd_refl fp), ← Int.mul_emod]
theorem mpow (a : Int) (n : Nat) : (a % fp) ^ n % fp = a ^ n % fp := by
  induction n with
  | zero => simp only [Int.pow_zero]
  | succ n ih => rw [Int.pow_succ, Int.pow_succ, mr, Int.mul_emod, ih, ← Int.mul_emod]
theorem ml2 (u a b : Int) : u * (a % fp * b) % fp = u * (a * b) % fp := by rw [← mr u (a % fp * b), ml, mr]
/-- The exponent that pwF makes. -/
def exF (low nb top : Nat) : Nat → Nat
  | 0 => 0
  | k + 1 => 2 * exF low nb top k + (if pbit low nb (top - k) then 1 else 0)
theorem pwF_pow (x : Int) (low nb top k : Nat) : pwF x low nb top k = x ^ exF low nb top k % fp := by
  induction k with
  | zero => simp only [pwF, exF, Int.pow_zero]; decide
  | succ k ih =>
    simp only [pwF, exF, ih, pstep]
    split
    · generalize exF low nb top k = E
      have h1 : ∀ A : Int, A % fp * (A % fp) * x % fp = A * A * x % fp := fun A => by rw [← ml (A % fp * (A % fp)) x, mod_mul_mod, ml]
      rw [ml, h1, Int.pow_succ, Nat.two_mul, Int.pow_add]
    · rw [ml, mr, Nat.add_zero, Nat.two_mul, Int.pow_add]
theorem ex0 : exF 11 5 254 255 = fpN - 2 := by decide +kernel
theorem ex1 : exF 5 3 251 252 = (fpN - 5) / 8 := by decide +kernel
theorem exM : M250 * 4 + 1 = (fpN - 5) / 8 := by unfold M250 m250; decide +kernel
theorem fermatI (x : Int) (h0 : 0 < x) (h1 : x < fp) : x ^ (fpN - 1) % fp = 1 := by
  obtain ⟨a, rfl⟩ := Int.eq_ofNat_of_zero_le (Int.le_of_lt h0)
  rw [fp_fpN] at h1 ⊢
  have ha : ¬ fpN ∣ a := fun h => by
    have := Nat.le_of_dvd (by omega) h; omega
  have := fermat (p := fpN) fp_prm a ha
  rw [← Int.natCast_pow, ← Int.natCast_emod, this]; rfl
/-- The program's root is the model's. -/
theorem root_same (u v : Int) (p e : Nat) (hp : p = 8 * e + 5) (hv : v ^ (p - 1) % fp = 1) :
    u * (v * v * v) * (u * (v * v * v) * (v * v * (v * v))) ^ e % fp = u * v ^ (p - 2) * (u * v ^ (p - 2)) ^ e % fp := by
  have e1 : u * v ^ (p - 2) * (u * v ^ (p - 2)) ^ e = u * u ^ e * (v ^ 3 * (v ^ 7) ^ e) * (v ^ (p - 1)) ^ e := by
    rw [Int.mul_pow, ← Int.pow_mul, ← Int.pow_mul, ← Int.pow_mul]
    have : v ^ (p - 2) * v ^ ((p - 2) * e) = v ^ 3 * v ^ (7 * e) * v ^ ((p - 1) * e) := by
      rw [← Int.pow_add, ← Int.pow_add, ← Int.pow_add]
      congr 1
      subst hp
      have a1 : 8 * e + 5 - 2 = 8 * e + 3 := by omega
      have a2 : 8 * e + 5 - 1 = 8 * e + 4 := by omega
      rw [a1, a2, Nat.add_mul, Nat.add_mul]; omega
    generalize v ^ (p - 2) = A at *
    generalize v ^ ((p - 2) * e) = B at *
    generalize v ^ (7 * e) = C at *
    generalize v ^ ((p - 1) * e) = E at *
    generalize u ^ e = F at *
    have h3 : v ^ 3 = v * v * v := by simp only [Int.pow_succ, Int.pow_zero, Int.one_mul]
    rw [h3] at *
    grind
  have e2 : u * (v * v * v) * (u * (v * v * v) * (v * v * (v * v))) ^ e = u * u ^ e * (v ^ 3 * (v ^ 7) ^ e) := by
    have h7 : u * (v * v * v) * (v * v * (v * v)) = u * v ^ 7 := by simp only [Int.pow_succ, Int.pow_zero, Int.one_mul]; grind
    rw [h7, Int.mul_pow]
    have h3 : v ^ 3 = v * v * v := by simp only [Int.pow_succ, Int.pow_zero, Int.one_mul]
    rw [h3]
    generalize (v ^ 7) ^ e = C
    generalize u ^ e = F
    grind
  rw [e1, e2, Int.mul_emod _ ((v ^ (p - 1)) ^ e), ← mpow (v ^ (p - 1)) e, hv, Int.one_pow]
  generalize u * u ^ e * (v ^ 3 * (v ^ 7) ^ e) = Z
  rw [show (1 : Int) % fp = 1 from by decide, Int.mul_one, Int.emod_emod_of_dvd _ (Int.dvd_refl fp)]

theorem fp_odd_root : fpN = 8 * ((fpN - 5) / 8) + 5 := by decide +kernel
theorem inv0_eq (x : Int) : inv0 x = x ^ (fpN - 2) % fp := by unfold inv0; rw [pwF_pow, ex0]
theorem pw1_eq (x : Int) : pw1 x = x ^ ((fpN - 5) / 8) % fp := by unfold pw1; rw [pwF_pow, ex1]
theorem rpF_eq (x : Int) : rpF x = x ^ ((fpN - 5) / 8) % fp := by unfold rpF; rw [exM]
/-- The two roots, as the two sides make them. -/
theorem rt_md (u v : Int) (h0 : 0 < v) (h1 : v < fp) : rtF u v = u * inv0 v % fp * pw1 (u * inv0 v % fp) % fp := by
  have hs := root_same u v fpN ((fpN - 5) / 8) fp_odd_root (fermatI v h0 h1)
  unfold rtF
  rw [rpF_eq, pw1_eq, inv0_eq]
  have s1 : sqN v 1 = v * v % fp := rfl
  have s2 : sqN v 2 = v * v % fp * (v * v % fp) % fp := rfl
  rw [s1, s2]
  generalize (fpN - 5) / 8 = e at *
  generalize v ^ (fpN - 2) = I at *
  have a1 : u * (v * v % fp * v % fp) % fp = u * (v * v * v) % fp := by rw [mr, ml2]
  have a2 : v * v % fp * (v * v % fp) % fp = v * v * (v * v) % fp := mod_mul_mod _ _
  have a3 : u * (I % fp) % fp = u * I % fp := mr _ _
  rw [a1, a2, a3, mod_mul_mod (u * (v * v * v)) (v * v * (v * v)), mpow, mpow, mod_mul_mod, mod_mul_mod]
  exact hs

def dN : Nat := 37095705934669439343138083508754565189542113879843219016388785533085940283555
theorem mdD_N : mdD = (dN : Int) := by decide +kernel
theorem curveD_N : ev curveDL = (dN : Int) := by decide +kernel
theorem s_sq : pw2 (2 % fp) * pw2 (2 % fp) % fp = fp - 1 := by decide +kernel
theorem s_eq : ev sm1L = pw2 (2 % fp) := by decide +kernel
theorem d_non : mpw dN fpN 255 ((fpN - 1) / 2) = fpN - 1 := by decide +kernel
theorem d_nonI : (dN : Int) ^ ((fpN - 1) / 2) % fp = fp - 1 := by
  have h := mpw_eq dN fpN 255 ((fpN - 1) / 2) (by decide +kernel)
  rw [d_non] at h
  rw [fp_fpN, ← Int.natCast_pow, ← Int.natCast_emod, ← h]; decide +kernel
theorem half_even : (fpN - 1) / 2 = 2 * ((fpN - 1) / 4) := by decide +kernel
theorem half_two : 2 * ((fpN - 1) / 2) = fpN - 1 := by decide +kernel
theorem v_ne (Y : Int) (h0 : 0 ≤ Y) (h1 : Y < fp) : ((dN : Int) * (Y * Y % fp) % fp + 1 % fp) % fp ≠ 0 := by
  intro h
  have hz : (dN : Int) * (Y * Y) % fp = fp - 1 := by
    rw [mr, show (1 : Int) % fp = 1 from by decide] at h
    have a := Int.emod_nonneg ((dN : Int) * (Y * Y)) (show fp ≠ 0 by decide)
    have b := Int.emod_lt_of_pos ((dN : Int) * (Y * Y)) (show 0 < fp by decide)
    generalize (dN : Int) * (Y * Y) % fp = q at *
    rw [fp_lit] at *
    omega
  have hY : 0 < Y := by
    rcases Int.lt_or_eq_of_le h0 with h | h
    · exact h
    · subst h; rw [Int.mul_zero, Int.mul_zero] at hz; exact absurd hz (by decide)
  have f := fermatI Y hY h1
  have e1 : ((dN : Int) * (Y * Y)) ^ ((fpN - 1) / 2) % fp = fp - 1 := by
    rw [Int.mul_pow, ← mod_mul_mod, d_nonI]
    have : (Y * Y) ^ ((fpN - 1) / 2) = Y ^ (fpN - 1) := by
      rw [← half_two, Int.pow_mul]
      congr 1
      simp only [Int.pow_succ, Int.pow_zero, Int.one_mul]
    rw [this, f]; decide
  have e2 : ((dN : Int) * (Y * Y)) ^ ((fpN - 1) / 2) % fp = 1 := by
    rw [← mpow, hz, half_even, Int.pow_mul, ← mpow]
    have : (fp - 1) ^ 2 % fp = 1 := by decide
    rw [this, Int.one_pow]; decide
  rw [e1] at e2
  exact absurd e2 (by decide)
end Go.Proofs.Ythghkfncpdnpoac
