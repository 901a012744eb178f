/-
  Own work: the curve's law of addition: complete, closed, associative (modulo p). The cofactors of the three identities were found by a division of polynomials (wip/assoc.py).
-/
import Derived.Test.YtdaglofgioehhaaMRtM
namespace Go.Proofs.Ytdaglofgioehhaa
set_option linter.unusedVariables false

/-- Zero modulo p. -/
def Z0 (a : Int) : Prop := a % fp = 0
theorem Z0.mul {a : Int} (h : Z0 a) (b : Int) : Z0 (b * a) := by unfold Z0 at *; rw [Int.mul_emod, h, Int.mul_zero]; rfl
theorem Z0.add {a b : Int} (h : Z0 a) (k : Z0 b) : Z0 (a + b) := by unfold Z0 at *; rw [Int.add_emod, h, k]; rfl
theorem Z0.sub {a b : Int} (h : Z0 a) (k : Z0 b) : Z0 (a - b) := by unfold Z0 at *; rw [Int.sub_emod, h, k]; rfl
theorem Z0.of_eq {a b : Int} (h : Z0 a) (e : a = b) : Z0 b := e ▸ h
theorem z0_iff {a b : Int} : Z0 (a - b) ↔ a % fp = b % fp := by unfold Z0; rw [fp_lit]; omega
theorem z0_dvd (a : Int) : Z0 a ↔ (fpN ∣ a.natAbs) := by
  unfold Z0
  rw [fp_fpN]
  constructor
  · intro h; exact Int.ofNat_dvd_left.1 (Int.dvd_of_emod_eq_zero h)
  · intro h; exact Int.emod_eq_zero_of_dvd (Int.ofNat_dvd_left.2 h)
theorem Z0.prime {a b : Int} (h : Z0 (a * b)) : Z0 a ∨ Z0 b := by
  rw [z0_dvd, Int.natAbs_mul] at h
  rcases fp_prm.dvd_mul h with h | h
  · exact .inl ((z0_dvd a).2 h)
  · exact .inr ((z0_dvd b).2 h)
theorem nz_mul {a b : Int} (ha : ¬ Z0 a) (hb : ¬ Z0 b) : ¬ Z0 (a * b) := fun h => by
  rcases h.prime with h | h
  · exact ha h
  · exact hb h
theorem nz_one : ¬ Z0 1 := by unfold Z0; decide
theorem nz_two : ¬ Z0 2 := by unfold Z0; decide
/-- On the curve. -/
def On (x y : Int) : Prop := Z0 (y * y - x * x - 1 - mdD * (x * x) * (y * y))
theorem sq2 (a : Int) : a * a = a ^ 2 := by rw [Int.pow_succ, Int.pow_succ, Int.pow_zero, Int.one_mul]
/-- d is no square times a square that is not zero. -/
theorem d_sq {a b : Int} (h : Z0 (a * a - mdD * (b * b))) : Z0 b := by
  have h' : a * a % fp = mdD * (b * b) % fp := z0_iff.1 h
  by_cases hb : Z0 b
  · exact hb
  exfalso
  have ha : ¬ Z0 a := fun ha => by
    have h1 : Z0 (mdD * (b * b)) := ((ha.mul a).sub h).of_eq (by grind)
    rcases h1.prime with h2 | h2
    · revert h2; unfold Z0; rw [mdD_N]; decide +kernel
    · rcases h2.prime with h3 | h3 <;> exact hb h3
  have red : ∀ c : Int, ¬ Z0 c → c ^ (fpN - 1) % fp = 1 := fun c hc => by
    rw [← mpow]
    refine fermatI (c % fp) ?_ (Int.emod_lt_of_pos _ (by decide))
    have := Int.emod_nonneg c (show fp ≠ 0 by decide)
    unfold Z0 at hc; omega
  have e1 : (a * a) ^ ((fpN - 1) / 2) % fp = 1 := by
    rw [sq2 a, ← Int.pow_mul, half_two]; exact red a ha
  have e2 : (b * b) ^ ((fpN - 1) / 2) % fp = 1 := by
    rw [sq2 b, ← Int.pow_mul, half_two]; exact red b hb
  rw [← mpow, h', mpow, Int.mul_pow, ← mr, e2, Int.mul_one, mdD_N, d_nonI] at e1
  revert e1; decide
theorem i_sq : ∃ s : Int, Z0 (s * s + 1) := ⟨pw2 (2 % fp), by
  have := s_sq
  unfold Z0
  rw [Int.add_emod, this]; decide⟩
def as_x1 (x1 y1 x2 y2 x3 y3 d : Int) : Int := -y1*x2*y2*y2*y2*y2*x3*x3*y3*d - y1*x2*x2*y2*y2*y2*x3*d - y1*x2*x2*y2*y2*y2*x3*x3*x3*d - y1*x2*x2*x2*y2*y2*y3*d + y1*x2*x2*x2*y2*y2*y3*y3*y3*d + y1*x2*x2*x2*y2*y2*y2*y2*x3*x3*y3*d*d + y1*x2*x2*x2*x2*y2*x3*y3*y3*d + y1*x2*x2*x2*x2*y2*y2*y2*x3*y3*y3*d*d + x1*x2*y2*y2*y2*y2*x3*y3*y3*d - x1*x2*x2*y2*y2*y2*y3*d + x1*x2*x2*y2*y2*y2*y3*y3*y3*d - x1*x2*x2*x2*y2*y2*x3*d - x1*x2*x2*x2*y2*y2*x3*x3*x3*d - x1*x2*x2*x2*y2*y2*y2*y2*x3*y3*y3*d*d - x1*x2*x2*x2*x2*y2*x3*x3*y3*d - x1*x2*x2*x2*x2*y2*y2*y2*x3*x3*y3*d*d
def as_x2 (x1 y1 x2 y2 x3 y3 d : Int) : Int := y1*y2*x3 - y1*y2*x3*y3*y3 + y1*y2*x3*x3*x3 + y1*y2*x3*x3*x3*y3*y3*d + y1*x2*y3 - y1*x2*y3*y3*y3 + y1*x2*x3*x3*y3 + y1*x2*x3*x3*y3*y3*y3*d - y1*x2*y2*y2*x3*x3*y3*d - y1*x2*x2*y2*x3*y3*y3*d - y1*y1*y1*y2*x3 + y1*y1*y1*y2*x3*y3*y3 - y1*y1*y1*y2*x3*x3*x3 - y1*y1*y1*y2*x3*x3*x3*y3*y3*d - y1*y1*y1*x2*y3 + y1*y1*y1*x2*y3*y3*y3 - y1*y1*y1*x2*x3*x3*y3 - y1*y1*y1*x2*x3*x3*y3*y3*y3*d + y1*y1*y1*x2*y2*y2*x3*x3*y3*d + y1*y1*y1*x2*x2*y2*x3*y3*y3*d + x1*y2*y3 - x1*y2*y3*y3*y3 + x1*y2*x3*x3*y3 + x1*y2*x3*x3*y3*y3*y3*d + x1*x2*x3 - x1*x2*x3*y3*y3 + x1*x2*x3*x3*x3 + x1*x2*x3*x3*x3*y3*y3*d + x1*x2*y2*y2*x3*y3*y3*d + x1*x2*x2*y2*x3*x3*y3*d - x1*y1*y1*y2*y3 + x1*y1*y1*y2*y3*y3*y3 - x1*y1*y1*y2*x3*x3*y3 - x1*y1*y1*y2*x3*x3*y3*y3*y3*d - x1*y1*y1*x2*x3 + x1*y1*y1*x2*x3*y3*y3 - x1*y1*y1*x2*x3*x3*x3 - x1*y1*y1*x2*x3*x3*x3*y3*y3*d - x1*y1*y1*x2*y2*y2*x3*y3*y3*d + x1*y1*y1*x2*y2*y2*x3*x3*x3*y3*y3*d*d - x1*y1*y1*x2*x2*y2*x3*x3*y3*d - x1*y1*y1*x2*x2*y2*x3*x3*y3*y3*y3*d*d + x1*x1*y1*y2*x3 - x1*x1*y1*y2*x3*y3*y3 + x1*x1*y1*y2*x3*x3*x3 + x1*x1*y1*y2*x3*x3*x3*y3*y3*d + x1*x1*y1*x2*y3 - x1*x1*y1*x2*y3*y3*y3 + x1*x1*y1*x2*x3*x3*y3 + x1*x1*y1*x2*x3*x3*y3*y3*y3*d - x1*x1*y1*x2*y2*y2*x3*x3*y3*d - x1*x1*y1*x2*y2*y2*x3*x3*y3*y3*y3*d*d - x1*x1*y1*x2*x2*y2*x3*y3*y3*d + x1*x1*y1*x2*x2*y2*x3*x3*x3*y3*y3*d*d + x1*x1*x1*y2*y3 - x1*x1*x1*y2*y3*y3*y3 + x1*x1*x1*y2*x3*x3*y3 + x1*x1*x1*y2*x3*x3*y3*y3*y3*d + x1*x1*x1*x2*x3 - x1*x1*x1*x2*x3*y3*y3 + x1*x1*x1*x2*x3*x3*x3 + x1*x1*x1*x2*x3*x3*x3*y3*y3*d + x1*x1*x1*x2*y2*y2*x3*y3*y3*d + x1*x1*x1*x2*x2*y2*x3*x3*y3*d
def as_x3 (x1 y1 x2 y2 x3 y3 d : Int) : Int := -y1*y2*x3 + y1*y2*y2*y2*x3 - y1*x2*y3 + y1*x2*y2*y2*y3 - y1*x2*x2*y2*x3 - y1*x2*x2*x2*y3 + y1*y1*y1*y2*x3 - y1*y1*y1*y2*y2*y2*x3 + y1*y1*y1*x2*y3 - y1*y1*y1*x2*y2*y2*y3 + y1*y1*y1*x2*x2*y2*x3 + y1*y1*y1*x2*x2*x2*y3 - x1*y2*y3 + x1*y2*y2*y2*y3 - x1*x2*x3 + x1*x2*y2*y2*x3 - x1*x2*x2*y2*y3 - x1*x2*x2*x2*x3 + x1*y1*y1*y2*y3 - x1*y1*y1*y2*y2*y2*y3 + x1*y1*y1*x2*x3 - x1*y1*y1*x2*y2*y2*x3 - x1*y1*y1*x2*y2*y2*x3*d + x1*y1*y1*x2*x2*y2*y3 + x1*y1*y1*x2*x2*y2*y3*d + x1*y1*y1*x2*x2*x2*x3 - x1*x1*y1*y2*x3 + x1*x1*y1*y2*y2*y2*x3 - x1*x1*y1*x2*y3 + x1*x1*y1*x2*y2*y2*y3 + x1*x1*y1*x2*y2*y2*y3*d - x1*x1*y1*x2*x2*y2*x3 - x1*x1*y1*x2*x2*y2*x3*d - x1*x1*y1*x2*x2*x2*y3 - x1*x1*x1*y2*y3 + x1*x1*x1*y2*y2*y2*y3 - x1*x1*x1*x2*x3 + x1*x1*x1*x2*y2*y2*x3 - x1*x1*x1*x2*x2*y2*y3 - x1*x1*x1*x2*x2*x2*x3
set_option maxHeartbeats 2000000 in
theorem as_x (x1 y1 x2 y2 x3 y3 d : Int) : ((x1*y2 + x2*y1)*(1 - d*x1*x2*y1*y2)*y3 + (y1*y2 + x1*x2)*(1 + d*x1*x2*y1*y2)*x3) * ((1 + d*x2*x3*y2*y3)*(1 - d*x2*x3*y2*y3) + d*(x2*y3 + x3*y2)*(y2*y3 + x2*x3)*x1*y1) - (x1*(y2*y3 + x2*x3)*(1 + d*x2*x3*y2*y3) + (x2*y3 + x3*y2)*(1 - d*x2*x3*y2*y3)*y1) * ((1 + d*x1*x2*y1*y2)*(1 - d*x1*x2*y1*y2) + d*(x1*y2 + x2*y1)*(y1*y2 + x1*x2)*x3*y3) = as_x1 x1 y1 x2 y2 x3 y3 d * (y1*y1 - x1*x1 - 1 - d*(x1*x1)*(y1*y1)) + as_x2 x1 y1 x2 y2 x3 y3 d * (y2*y2 - x2*x2 - 1 - d*(x2*x2)*(y2*y2)) + as_x3 x1 y1 x2 y2 x3 y3 d * (y3*y3 - x3*x3 - 1 - d*(x3*x3)*(y3*y3)) := by
  unfold as_x1 as_x2 as_x3
  grind
def as_y1 (x1 y1 x2 y2 x3 y3 d : Int) : Int := y1*x2*y2*y2*y2*y2*x3*y3*y3*d - y1*x2*x2*y2*y2*y2*y3*d + y1*x2*x2*y2*y2*y2*y3*y3*y3*d - y1*x2*x2*x2*y2*y2*x3*d - y1*x2*x2*x2*y2*y2*x3*x3*x3*d - y1*x2*x2*x2*y2*y2*y2*y2*x3*y3*y3*d*d - y1*x2*x2*x2*x2*y2*x3*x3*y3*d - y1*x2*x2*x2*x2*y2*y2*y2*x3*x3*y3*d*d - x1*x2*y2*y2*y2*y2*x3*x3*y3*d - x1*x2*x2*y2*y2*y2*x3*d - x1*x2*x2*y2*y2*y2*x3*x3*x3*d - x1*x2*x2*x2*y2*y2*y3*d + x1*x2*x2*x2*y2*y2*y3*y3*y3*d + x1*x2*x2*x2*y2*y2*y2*y2*x3*x3*y3*d*d + x1*x2*x2*x2*x2*y2*x3*y3*y3*d + x1*x2*x2*x2*x2*y2*y2*y2*x3*y3*y3*d*d
def as_y2 (x1 y1 x2 y2 x3 y3 d : Int) : Int := y1*y2*y3 - y1*y2*y3*y3*y3 + y1*y2*x3*x3*y3 + y1*y2*x3*x3*y3*y3*y3*d + y1*x2*x3 - y1*x2*x3*y3*y3 + y1*x2*x3*x3*x3 + y1*x2*x3*x3*x3*y3*y3*d + y1*x2*y2*y2*x3*y3*y3*d + y1*x2*x2*y2*x3*x3*y3*d - y1*y1*y1*y2*y3 + y1*y1*y1*y2*y3*y3*y3 - y1*y1*y1*y2*x3*x3*y3 - y1*y1*y1*y2*x3*x3*y3*y3*y3*d - y1*y1*y1*x2*x3 + y1*y1*y1*x2*x3*y3*y3 - y1*y1*y1*x2*x3*x3*x3 - y1*y1*y1*x2*x3*x3*x3*y3*y3*d - y1*y1*y1*x2*y2*y2*x3*y3*y3*d - y1*y1*y1*x2*x2*y2*x3*x3*y3*d + x1*y2*x3 - x1*y2*x3*y3*y3 + x1*y2*x3*x3*x3 + x1*y2*x3*x3*x3*y3*y3*d + x1*x2*y3 - x1*x2*y3*y3*y3 + x1*x2*x3*x3*y3 + x1*x2*x3*x3*y3*y3*y3*d - x1*x2*y2*y2*x3*x3*y3*d - x1*x2*x2*y2*x3*y3*y3*d - x1*y1*y1*y2*x3 + x1*y1*y1*y2*x3*y3*y3 - x1*y1*y1*y2*x3*x3*x3 - x1*y1*y1*y2*x3*x3*x3*y3*y3*d - x1*y1*y1*x2*y3 + x1*y1*y1*x2*y3*y3*y3 - x1*y1*y1*x2*x3*x3*y3 - x1*y1*y1*x2*x3*x3*y3*y3*y3*d + x1*y1*y1*x2*y2*y2*x3*x3*y3*d + x1*y1*y1*x2*y2*y2*x3*x3*y3*y3*y3*d*d + x1*y1*y1*x2*x2*y2*x3*y3*y3*d - x1*y1*y1*x2*x2*y2*x3*x3*x3*y3*y3*d*d + x1*x1*y1*y2*y3 - x1*x1*y1*y2*y3*y3*y3 + x1*x1*y1*y2*x3*x3*y3 + x1*x1*y1*y2*x3*x3*y3*y3*y3*d + x1*x1*y1*x2*x3 - x1*x1*y1*x2*x3*y3*y3 + x1*x1*y1*x2*x3*x3*x3 + x1*x1*y1*x2*x3*x3*x3*y3*y3*d + x1*x1*y1*x2*y2*y2*x3*y3*y3*d - x1*x1*y1*x2*y2*y2*x3*x3*x3*y3*y3*d*d + x1*x1*y1*x2*x2*y2*x3*x3*y3*d + x1*x1*y1*x2*x2*y2*x3*x3*y3*y3*y3*d*d + x1*x1*x1*y2*x3 - x1*x1*x1*y2*x3*y3*y3 + x1*x1*x1*y2*x3*x3*x3 + x1*x1*x1*y2*x3*x3*x3*y3*y3*d + x1*x1*x1*x2*y3 - x1*x1*x1*x2*y3*y3*y3 + x1*x1*x1*x2*x3*x3*y3 + x1*x1*x1*x2*x3*x3*y3*y3*y3*d - x1*x1*x1*x2*y2*y2*x3*x3*y3*d - x1*x1*x1*x2*x2*y2*x3*y3*y3*d
def as_y3 (x1 y1 x2 y2 x3 y3 d : Int) : Int := -y1*y2*y3 + y1*y2*y2*y2*y3 - y1*x2*x3 + y1*x2*y2*y2*x3 - y1*x2*x2*y2*y3 - y1*x2*x2*x2*x3 + y1*y1*y1*y2*y3 - y1*y1*y1*y2*y2*y2*y3 + y1*y1*y1*x2*x3 - y1*y1*y1*x2*y2*y2*x3 + y1*y1*y1*x2*x2*y2*y3 + y1*y1*y1*x2*x2*x2*x3 - x1*y2*x3 + x1*y2*y2*y2*x3 - x1*x2*y3 + x1*x2*y2*y2*y3 - x1*x2*x2*y2*x3 - x1*x2*x2*x2*y3 + x1*y1*y1*y2*x3 - x1*y1*y1*y2*y2*y2*x3 + x1*y1*y1*x2*y3 - x1*y1*y1*x2*y2*y2*y3 - x1*y1*y1*x2*y2*y2*y3*d + x1*y1*y1*x2*x2*y2*x3 + x1*y1*y1*x2*x2*y2*x3*d + x1*y1*y1*x2*x2*x2*y3 - x1*x1*y1*y2*y3 + x1*x1*y1*y2*y2*y2*y3 - x1*x1*y1*x2*x3 + x1*x1*y1*x2*y2*y2*x3 + x1*x1*y1*x2*y2*y2*x3*d - x1*x1*y1*x2*x2*y2*y3 - x1*x1*y1*x2*x2*y2*y3*d - x1*x1*y1*x2*x2*x2*x3 - x1*x1*x1*y2*x3 + x1*x1*x1*y2*y2*y2*x3 - x1*x1*x1*x2*y3 + x1*x1*x1*x2*y2*y2*y3 - x1*x1*x1*x2*x2*y2*x3 - x1*x1*x1*x2*x2*x2*y3
set_option maxHeartbeats 2000000 in
theorem as_y (x1 y1 x2 y2 x3 y3 d : Int) : ((y1*y2 + x1*x2)*(1 + d*x1*x2*y1*y2)*y3 + (x1*y2 + x2*y1)*(1 - d*x1*x2*y1*y2)*x3) * ((1 + d*x2*x3*y2*y3)*(1 - d*x2*x3*y2*y3) - d*(x2*y3 + x3*y2)*(y2*y3 + x2*x3)*x1*y1) - (y1*(y2*y3 + x2*x3)*(1 + d*x2*x3*y2*y3) + (x2*y3 + x3*y2)*(1 - d*x2*x3*y2*y3)*x1) * ((1 + d*x1*x2*y1*y2)*(1 - d*x1*x2*y1*y2) - d*(x1*y2 + x2*y1)*(y1*y2 + x1*x2)*x3*y3) = as_y1 x1 y1 x2 y2 x3 y3 d * (y1*y1 - x1*x1 - 1 - d*(x1*x1)*(y1*y1)) + as_y2 x1 y1 x2 y2 x3 y3 d * (y2*y2 - x2*x2 - 1 - d*(x2*x2)*(y2*y2)) + as_y3 x1 y1 x2 y2 x3 y3 d * (y3*y3 - x3*x3 - 1 - d*(x3*x3)*(y3*y3)) := by
  unfold as_y1 as_y2 as_y3
  grind
def cl1 (x1 y1 x2 y2 d : Int) : Int := y2*y2*y2*y2 - 4*x2*x2*y2*y2 - 2*x2*x2*y2*y2*d + 2*x2*x2*y2*y2*y2*y2 + x2*x2*x2*x2 - 2*x2*x2*x2*x2*y2*y2 - 2*x2*x2*x2*x2*y2*y2*y2*y2*d - x2*x2*x2*x2*y2*y2*y2*y2*d*d - y1*y1*x2*x2*y2*y2*y2*y2*d + y1*y1*x2*x2*x2*x2*y2*y2*d + y1*y1*x2*x2*x2*x2*y2*y2*y2*y2*d*d + x1*x1*x2*x2*y2*y2*y2*y2*d - x1*x1*x2*x2*x2*x2*y2*y2*d - x1*x1*x2*x2*x2*x2*y2*y2*y2*y2*d*d + x1*x1*y1*y1*x2*x2*x2*x2*y2*y2*y2*y2*d*d*d
def cl2 (x1 y1 x2 y2 d : Int) : Int := 1 + y2*y2 - x2*x2 + 2*x2*x2*y2*y2 + x2*x2*y2*y2*d - y1*y1*y2*y2 + y1*y1*x2*x2 - 2*y1*y1*x2*x2*y2*y2 - 2*y1*y1*x2*x2*y2*y2*d + y1*y1*y1*y1*x2*x2*y2*y2*d + x1*x1*y2*y2 - x1*x1*x2*x2 + 2*x1*x1*x2*x2*y2*y2 + 2*x1*x1*x2*x2*y2*y2*d + x1*x1*x1*x1*x2*x2*y2*y2*d
set_option maxHeartbeats 2000000 in
theorem clo_id (x1 y1 x2 y2 d : Int) : (y1*y2 + x1*x2)*(y1*y2 + x1*x2)*((1 + d*x1*x2*y1*y2)*(1 + d*x1*x2*y1*y2)) - (x1*y2 + x2*y1)*(x1*y2 + x2*y1)*((1 - d*x1*x2*y1*y2)*(1 - d*x1*x2*y1*y2)) - (1 + d*x1*x2*y1*y2)*(1 + d*x1*x2*y1*y2)*((1 - d*x1*x2*y1*y2)*(1 - d*x1*x2*y1*y2)) - d*((x1*y2 + x2*y1)*(x1*y2 + x2*y1)*((y1*y2 + x1*x2)*(y1*y2 + x1*x2))) = cl1 x1 y1 x2 y2 d * (y1*y1 - x1*x1 - 1 - d*(x1*x1)*(y1*y1)) + cl2 x1 y1 x2 y2 d * (y2*y2 - x2*x2 - 1 - d*(x2*x2)*(y2*y2)) := by
  unfold cl1 cl2
  grind

theorem compl1 {s e x1 y1 x2 y2 : Int} (h1 : On x1 y1) (h2 : On x2 y2) (hs : Z0 (s * s + 1)) (he : e * e = 1) (hg : Z0 (mdD*x1*x2*y1*y2 - e)) : Z0 (x1 * y1 * (s * x2 + y2)) := by
  refine d_sq (a := s * x1 + e * y1) ?_
  unfold On at h1 h2
  refine ((((h1.sub (h2.mul (mdD * (x1 * x1) * (y1 * y1)))).add (hs.mul (x1 * x1 - mdD * (x1 * x1) * (y1 * y1) * (x2 * x2)))).sub (hg.mul (mdD*x1*x2*y1*y2 - e))).sub (hg.mul (2 * e + 2 * s * x1 * y1))).of_eq ?_
  generalize mdD = d at *
  grind
theorem compl {e x1 y1 x2 y2 : Int} (h1 : On x1 y1) (h2 : On x2 y2) (he : e * e = 1) : ¬ Z0 (mdD*x1*x2*y1*y2 - e) := fun hg => by
  obtain ⟨s, hs⟩ := i_sq
  have a1 := compl1 h1 h2 hs he hg
  have a2 := compl1 (s := -s) h1 h2 (hs.of_eq (by grind)) he hg
  have hne : ¬ Z0 e := fun h => nz_one ((h.mul e).of_eq he)
  have hxy : ¬ Z0 (x1 * y1) := fun h => hne (((h.mul (mdD * x2 * y2)).sub hg).of_eq (by generalize mdD = d at *; grind))
  have hy : ¬ Z0 y2 := fun h => hne (((h.mul (mdD * x1 * x2 * y1)).sub hg).of_eq (by generalize mdD = d at *; grind))
  rcases a1.prime with h | b1
  · exact hxy h
  rcases a2.prime with h | b2
  · exact hxy h
  rcases ((b1.add b2).of_eq (show _ = 2 * y2 by grind)).prime with h | h
  · exact nz_two h
  · exact hy h
theorem nzU {x1 y1 x2 y2 : Int} (h1 : On x1 y1) (h2 : On x2 y2) : ¬ Z0 (1 + mdD*x1*x2*y1*y2) := fun h => compl (e := -1) h1 h2 (by decide) (h.of_eq (by generalize mdD = d at *; grind))
theorem nzW {x1 y1 x2 y2 : Int} (h1 : On x1 y1) (h2 : On x2 y2) : ¬ Z0 (1 - mdD*x1*x2*y1*y2) := fun h => compl (e := 1) h1 h2 (by decide) ((h.mul (-1)).of_eq (by generalize mdD = d at *; grind))
theorem cmul {a b c d : Int} (h : Z0 (a - b)) (k : Z0 (c - d)) : Z0 (a * c - b * d) := ((h.mul c).add (k.mul b)).of_eq (by grind)
theorem canc {x x' U a : Int} (h : Z0 (x * U - a)) (h' : Z0 (x' * U - a)) (hU : ¬ Z0 U) : Z0 (x - x') := by
  rcases ((h.sub h').of_eq (show _ = (x - x') * U by grind)).prime with h | h
  · exact h
  · exact absurd h hU
/-- A sum of two points. -/
def Sm (x1 y1 x2 y2 x3 y3 : Int) : Prop := Z0 (x3 * (1 + mdD*x1*x2*y1*y2) - (x1*y2 + x2*y1)) ∧ Z0 (y3 * (1 - mdD*x1*x2*y1*y2) - (y1*y2 + x1*x2))
theorem Sm.on {x1 y1 x2 y2 x3 y3 : Int} (h1 : On x1 y1) (h2 : On x2 y2) (h : Sm x1 y1 x2 y2 x3 y3) : On x3 y3 := by
  obtain ⟨ha, hb⟩ := h
  have hU := nzU h1 h2
  have hW := nzW h1 h2
  have hxx := cmul ha ha
  have hyy := cmul hb hb
  have hF : Z0 _ := ((h1.mul (cl1 x1 y1 x2 y2 mdD)).add (h2.mul (cl2 x1 y1 x2 y2 mdD))).of_eq (clo_id x1 y1 x2 y2 mdD).symm
  generalize (1 + mdD*x1*x2*y1*y2) = U at *
  generalize (1 - mdD*x1*x2*y1*y2) = W at *
  generalize (x1*y2 + x2*y1) = a at *
  generalize (y1*y2 + x1*x2) = b at *
  have hz : Z0 ((y3 * y3 - x3 * x3 - 1 - mdD * (x3 * x3) * (y3 * y3)) * (U * U * (W * W))) := by
    refine ((((hF.add (hyy.mul (U * U))).sub (hxx.mul (W * W))).sub ((cmul hxx hyy).mul mdD))).of_eq ?_
    generalize mdD = d at *
    grind
  rcases hz.prime with h | h
  · exact h
  · exact absurd h (nz_mul (nz_mul hU hU) (nz_mul hW hW))
theorem sm_assoc {x1 y1 x2 y2 x3 y3 xa ya xb yb xc yc xe ye : Int} (h1 : On x1 y1) (h2 : On x2 y2) (h3 : On x3 y3) (ha : Sm x1 y1 x2 y2 xa ya) (hb : Sm xa ya x3 y3 xb yb) (hc : Sm x2 y2 x3 y3 xc yc) (he : Sm x1 y1 xc yc xe ye) : Z0 (xb - xe) ∧ Z0 (yb - ye) := by
  have oa := ha.on h1 h2
  have oc := hc.on h2 h3
  have ix := as_x x1 y1 x2 y2 x3 y3 mdD
  have iy := as_y x1 y1 x2 y2 x3 y3 mdD
  have zx : Z0 _ := (((h1.mul (as_x1 x1 y1 x2 y2 x3 y3 mdD)).add (h2.mul (as_x2 x1 y1 x2 y2 x3 y3 mdD))).add (h3.mul (as_x3 x1 y1 x2 y2 x3 y3 mdD))).of_eq ix.symm
  have zy : Z0 _ := (((h1.mul (as_y1 x1 y1 x2 y2 x3 y3 mdD)).add (h2.mul (as_y2 x1 y1 x2 y2 x3 y3 mdD))).add (h3.mul (as_y3 x1 y1 x2 y2 x3 y3 mdD))).of_eq iy.symm
  clear ix iy
  have nU := nzU h1 h2
  have nW := nzW h1 h2
  have nU2 := nzU h2 h3
  have nW2 := nzW h2 h3
  have nU3 := nzU oa h3
  have nW3 := nzW oa h3
  have nU4 := nzU h1 oc
  have nW4 := nzW h1 oc
  obtain ⟨ax, ay⟩ := ha
  obtain ⟨bx, by'⟩ := hb
  obtain ⟨cx, cy⟩ := hc
  obtain ⟨ex, ey⟩ := he
  generalize (x1*y2 + x2*y1) = a12 at *
  generalize (y1*y2 + x1*x2) = b12 at *
  generalize (1 + mdD*x1*x2*y1*y2) = U at *
  generalize (1 - mdD*x1*x2*y1*y2) = W at *
  generalize (x2*y3 + x3*y2) = a23 at *
  generalize (y2*y3 + x2*x3) = b23 at *
  generalize (1 + mdD*x2*x3*y2*y3) = U2 at *
  generalize (1 - mdD*x2*x3*y2*y3) = W2 at *
  have axy := cmul ax ay
  have cxy := cmul cx cy
  -- the denominators
  have dl : Z0 ((1 + mdD*xa*x3*ya*y3) * (U * W) - (U * W + mdD*a12*b12*x3*y3)) := (axy.mul (mdD * x3 * y3)).of_eq (by generalize mdD = d at *; grind)
  have dl' : Z0 ((1 - mdD*xa*x3*ya*y3) * (U * W) - (U * W - mdD*a12*b12*x3*y3)) := (axy.mul (-(mdD * x3 * y3))).of_eq (by generalize mdD = d at *; grind)
  have dr : Z0 ((1 + mdD*x1*xc*y1*yc) * (U2 * W2) - (U2 * W2 + mdD*a23*b23*x1*y1)) := (cxy.mul (mdD * x1 * y1)).of_eq (by generalize mdD = d at *; grind)
  have dr' : Z0 ((1 - mdD*x1*xc*y1*yc) * (U2 * W2) - (U2 * W2 - mdD*a23*b23*x1*y1)) := (cxy.mul (-(mdD * x1 * y1))).of_eq (by generalize mdD = d at *; grind)
  have nz_of : ∀ {p q r : Int}, ¬ Z0 p → ¬ Z0 q → Z0 (p * q - r) → ¬ Z0 r := fun {p q r} hp hq h hr => nz_mul hp hq ((h.add hr).of_eq (by grind))
  have nl := nz_of nU3 (nz_mul nU nW) dl
  have nl' := nz_of nW3 (nz_mul nU nW) dl'
  have nr := nz_of nU4 (nz_mul nU2 nW2) dr
  have nr' := nz_of nW4 (nz_mul nU2 nW2) dr'
  have lx : Z0 (xb * (U * W + mdD*a12*b12*x3*y3) - (a12*W*y3 + b12*U*x3)) := ((((bx.mul (U * W)).sub (dl.mul xb)).add (ax.mul (W * y3))).add (ay.mul (U * x3))).of_eq (by generalize mdD = d at *; grind)
  have rx : Z0 (xe * (U2 * W2 + mdD*a23*b23*x1*y1) - (x1*b23*U2 + a23*W2*y1)) := ((((ex.mul (U2 * W2)).sub (dr.mul xe)).add (cy.mul (U2 * x1))).add (cx.mul (W2 * y1))).of_eq (by generalize mdD = d at *; grind)
  have ly : Z0 (yb * (U * W - mdD*a12*b12*x3*y3) - (b12*U*y3 + a12*W*x3)) := ((((by'.mul (U * W)).sub (dl'.mul yb)).add (ay.mul (U * y3))).add (ax.mul (W * x3))).of_eq (by generalize mdD = d at *; grind)
  have ry : Z0 (ye * (U2 * W2 - mdD*a23*b23*x1*y1) - (y1*b23*U2 + a23*W2*x1)) := ((((ey.mul (U2 * W2)).sub (dr'.mul ye)).add (cy.mul (U2 * y1))).add (cx.mul (W2 * x1))).of_eq (by generalize mdD = d at *; grind)
  have fin : ∀ {p q Dl Dr Nl Nr : Int}, Z0 (p * Dl - Nl) → Z0 (q * Dr - Nr) → Z0 (Nl * Dr - Nr * Dl) → ¬ Z0 Dl → ¬ Z0 Dr → Z0 (p - q) := fun {p q Dl Dr Nl Nr} h1 h2 h3 h4 h5 => by
    rcases ((((h1.mul Dr).sub (h2.mul Dl)).add h3).of_eq (show _ = (p - q) * (Dl * Dr) by grind)).prime with h | h
    · exact h
    · exact absurd h (nz_mul h4 h5)
  exact ⟨fin lx rx zx nl nr, fin ly ry zy nl' nr'⟩
end Go.Proofs.Ytdaglofgioehhaa
