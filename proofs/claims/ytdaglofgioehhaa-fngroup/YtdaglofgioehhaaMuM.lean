/-
  Own work: the mathematics of multiples: the program doubles the neutral point too, the model does not; the codes are the same.
-/
import Derived.Test.YtdaglofgioehhaaICd
namespace Go.Proofs.Ytdaglofgioehhaa
set_option linter.unusedVariables false

abbrev Q4 : Type := Int × Int × Int × Int
theorem al (a b : Int) : (a % fp + b) % fp = (a + b) % fp := by rw [Int.add_emod, Int.emod_emod_of_dvd _ (Int.dvd_refl fp), ← Int.add_emod]
theorem ar (a b : Int) : (a + b % fp) % fp = (a + b) % fp := by rw [Int.add_emod, Int.emod_emod_of_dvd _ (Int.dvd_refl fp), ← Int.add_emod]
theorem sl (a b : Int) : (a % fp - b) % fp = (a - b) % fp := by rw [Int.sub_emod, Int.emod_emod_of_dvd _ (Int.dvd_refl fp), ← Int.sub_emod]
theorem sr_ (a b : Int) : (a - b % fp) % fp = (a - b) % fp := by rw [Int.sub_emod, Int.emod_emod_of_dvd _ (Int.dvd_refl fp), ← Int.sub_emod]
theorem mm_ (a : Int) : a % fp % fp = a % fp := Int.emod_emod_of_dvd _ (Int.dvd_refl fp)
/-- The four numbers of a sum. -/
def fX (A B C G : Int) : Int := (B - A) % fp * ((G - C) % fp) % fp
def fY (A B C G : Int) : Int := (G + C) % fp * ((B + A) % fp) % fp
def fZ (A B C G : Int) : Int := (G - C) % fp * ((G + C) % fp) % fp
def fT (A B C G : Int) : Int := (B - A) % fp * ((B + A) % fp) % fp
def F4 (P Q : Q4) : Q4 :=
  (fX (smA P.1 P.2.1 Q.1 Q.2.1) (smB P.1 P.2.1 Q.1 Q.2.1) (smC mdD P.2.2.2 Q.2.2.2) (smG P.2.2.1 Q.2.2.1),
   fY (smA P.1 P.2.1 Q.1 Q.2.1) (smB P.1 P.2.1 Q.1 Q.2.1) (smC mdD P.2.2.2 Q.2.2.2) (smG P.2.2.1 Q.2.2.1),
   fZ (smA P.1 P.2.1 Q.1 Q.2.1) (smB P.1 P.2.1 Q.1 Q.2.1) (smC mdD P.2.2.2 Q.2.2.2) (smG P.2.2.1 Q.2.2.1),
   fT (smA P.1 P.2.1 Q.1 Q.2.1) (smB P.1 P.2.1 Q.1 Q.2.1) (smC mdD P.2.2.2 Q.2.2.2) (smG P.2.2.1 Q.2.2.1))
def scl (l : Int) (P : Q4) : Q4 := (l * P.1 % fp, l * P.2.1 % fp, l * P.2.2.1 % fp, l * P.2.2.2 % fp)
theorem scA (l m X1 Y1 X2 Y2 : Int) : smA (l * X1 % fp) (l * Y1 % fp) (m * X2 % fp) (m * Y2 % fp) = l * m * smA X1 Y1 X2 Y2 % fp := by
  unfold smA
  simp only [ml, mr, sl, sr_]
  congr 1; grind
theorem scB (l m X1 Y1 X2 Y2 : Int) : smB (l * X1 % fp) (l * Y1 % fp) (m * X2 % fp) (m * Y2 % fp) = l * m * smB X1 Y1 X2 Y2 % fp := by
  unfold smB
  simp only [ml, mr, al, ar]
  congr 1; grind
theorem scC (l m D T1 T2 : Int) : smC D (l * T1 % fp) (m * T2 % fp) = l * m * smC D T1 T2 % fp := by
  unfold smC
  simp only [ml, mr]
  congr 1; grind
theorem scG (l m Z1 Z2 : Int) : smG (l * Z1 % fp) (m * Z2 % fp) = l * m * smG Z1 Z2 % fp := by
  unfold smG
  simp only [ml, mr, al, ar]
  congr 1; grind
theorem scFX (k A B C G : Int) : fX (k * A % fp) (k * B % fp) (k * C % fp) (k * G % fp) = k * k * fX A B C G % fp := by
  unfold fX
  simp only [ml, mr, sl, sr_]
  congr 1; grind
theorem scFY (k A B C G : Int) : fY (k * A % fp) (k * B % fp) (k * C % fp) (k * G % fp) = k * k * fY A B C G % fp := by
  unfold fY
  simp only [ml, mr, al, ar]
  congr 1; grind
theorem scFZ (k A B C G : Int) : fZ (k * A % fp) (k * B % fp) (k * C % fp) (k * G % fp) = k * k * fZ A B C G % fp := by
  unfold fZ
  simp only [ml, mr, al, ar, sl, sr_]
  congr 1; grind
theorem scFT (k A B C G : Int) : fT (k * A % fp) (k * B % fp) (k * C % fp) (k * G % fp) = k * k * fT A B C G % fp := by
  unfold fT
  simp only [ml, mr, al, ar, sl, sr_]
  congr 1; grind
theorem F4_scl (l m : Int) (P Q : Q4) : F4 (scl l P) (scl m Q) = scl (l * m * (l * m)) (F4 P Q) := by
  obtain ⟨x, y, z, t⟩ := P
  obtain ⟨x', y', z', t'⟩ := Q
  simp only [F4, scl, scA, scB, scC, scG, scFX, scFY, scFZ, scFT]
theorem scl_scl (l m : Int) (P : Q4) : scl l (scl m P) = scl (l * m) P := by
  obtain ⟨x, y, z, t⟩ := P
  simp only [scl, mr, Int.mul_assoc]
def Rd (P : Q4) : Prop := (0 ≤ P.1 ∧ P.1 < fp) ∧ (0 ≤ P.2.1 ∧ P.2.1 < fp) ∧ (0 ≤ P.2.2.1 ∧ P.2.2.1 < fp) ∧ (0 ≤ P.2.2.2 ∧ P.2.2.2 < fp)
theorem scl_one {P : Q4} (h : Rd P) : scl 1 P = P := by
  obtain ⟨x, y, z, t⟩ := P
  obtain ⟨h1, h2, h3, h4⟩ := h
  simp only [scl, Int.one_mul]
  simp only at h1 h2 h3 h4
  rw [Int.emod_eq_of_lt h1.1 h1.2, Int.emod_eq_of_lt h2.1 h2.2, Int.emod_eq_of_lt h3.1 h3.2, Int.emod_eq_of_lt h4.1 h4.2]
theorem md_rd (a : Int) : 0 ≤ a % fp ∧ a % fp < fp := ⟨Int.emod_nonneg _ (by decide), Int.emod_lt_of_pos _ (by decide)⟩
theorem F4_rd (P Q : Q4) : Rd (F4 P Q) := ⟨md_rd _, md_rd _, md_rd _, md_rd _⟩
def idQ : Q4 := (0, 1, 1, 0)
theorem idQ_dbl : F4 idQ idQ = scl 4 idQ := by
  have h : smA 0 1 0 1 = 1 ∧ smB 0 1 0 1 = 1 ∧ smC mdD 0 0 = 0 ∧ smG 1 1 = 2 := by
    refine ⟨by decide, by decide, ?_, by decide⟩
    unfold smC; rw [Int.mul_zero]; decide
  unfold idQ
  simp only [F4, h.1, h.2.1, h.2.2.1, h.2.2.2]
  decide
/-- Bit i of V. -/
def vbit (V : Int) (i : Nat) : Bool := V / 2 ^ i % 2 == 1
/-- The program's sum after n of its 256 rounds. -/
def pS (V : Int) (P : Q4) : Nat → Q4
  | 0 => idQ
  | n + 1 => bif vbit V (255 - n) then F4 (F4 (pS V P n) (pS V P n)) P else F4 (pS V P n) (pS V P n)
/-- The model's, and whether a bit was set. -/
def mS (V : Int) (P : Q4) : Nat → Q4 × Bool
  | 0 => (idQ, false)
  | n + 1 =>
    let d := bif (mS V P n).2 then F4 (mS V P n).1 (mS V P n).1 else (mS V P n).1
    bif vbit V (255 - n) then (F4 d P, true) else (d, (mS V P n).2)
theorem same_S (V : Int) (P : Q4) (hP : Rd P) (n : Nat) : (∃ k : Nat, pS V P n = scl (2 ^ k) (mS V P n).1) ∧ ((mS V P n).2 = false → (mS V P n).1 = idQ) ∧ Rd (mS V P n).1 := by
  induction n with
  | zero => exact ⟨⟨0, by show idQ = scl 1 idQ; decide⟩, fun _ => rfl, by show Rd idQ; unfold Rd idQ; decide⟩
  | succ n ih =>
    obtain ⟨⟨k, hk⟩, hi, hr⟩ := ih
    have hd : ∃ j : Nat, F4 (pS V P n) (pS V P n) = scl (2 ^ j) (bif (mS V P n).2 then F4 (mS V P n).1 (mS V P n).1 else (mS V P n).1) := by
      rw [hk, F4_scl]
      cases hb : (mS V P n).2 with
      | true => exact ⟨k + k + (k + k), by rw [cond_true, Int.pow_add, Int.pow_add]⟩
      | false =>
        rw [hi hb, idQ_dbl, scl_scl, cond_false]
        exact ⟨k + k + (k + k) + 2, by rw [Int.pow_add, Int.pow_add, Int.pow_add]; rfl⟩
    obtain ⟨j, hj⟩ := hd
    have hrd : Rd (bif (mS V P n).2 then F4 (mS V P n).1 (mS V P n).1 else (mS V P n).1) := by
      cases (mS V P n).2 with
      | true => exact F4_rd _ _
      | false => exact hr
    cases hv : vbit V (255 - n) with
    | true =>
      refine ⟨⟨j + j, ?_⟩, ?_, ?_⟩
      · simp only [pS, mS, hv, cond_true]
        rw [hj]
        have e := F4_scl (2 ^ j) 1 (bif (mS V P n).2 then F4 (mS V P n).1 (mS V P n).1 else (mS V P n).1) P
        rw [scl_one hP, Int.mul_one] at e
        rw [e, Int.pow_add]
      · simp only [mS, hv, cond_true]; intro h; cases h
      · simp only [mS, hv, cond_true]; exact F4_rd _ _
    | false =>
      refine ⟨⟨j, ?_⟩, ?_, ?_⟩
      · simp only [pS, mS, hv, cond_false]; exact hj
      · simp only [mS, hv, cond_false]; intro h; rw [h]; exact hi h
      · simp only [mS, hv, cond_false]; exact hrd
theorem pow_inv (n k : Nat) (X Z : Int) (h : (2 : Int) ^ (n + 1) % fp = 1) : (2 ^ k * X % fp) * ((2 ^ k * Z % fp) ^ n % fp) % fp = X * (Z ^ n % fp) % fp := by
  rw [ml, mr, mr, ← mr, mpow, mr, Int.mul_pow]
  have e : (2 : Int) ^ k * X * ((2 ^ k) ^ n * Z ^ n) = (2 ^ (n + 1)) ^ k * (X * Z ^ n) := by
    have e1 : (2 : Int) ^ k * (2 ^ k) ^ n = (2 ^ (n + 1)) ^ k := by
      rw [← Int.pow_mul, ← Int.pow_add, ← Int.pow_mul]; congr 1; grind
    rw [← e1]; grind
  rw [e, ← ml, ← mpow, h, Int.one_pow, show (1 : Int) % fp = 1 from by decide, Int.one_mul]
theorem cdV_scl (k : Nat) (X Y Z : Int) : cdV (2 ^ k * X % fp) (2 ^ k * Y % fp) (2 ^ k * Z % fp) = cdV X Y Z := by
  have h : (2 : Int) ^ (fpN - 2 + 1) % fp = 1 := by
    have := fermatI 2 (by decide) (by decide)
    rwa [show fpN - 2 + 1 = fpN - 1 from by decide +kernel]
  unfold cdV
  rw [inv0_eq, inv0_eq, pow_inv _ k X Z h, pow_inv _ k Y Z h]
/-- The number of the code of a multiple. -/
def muV (V : Int) (P : Q4) : Int := cdV (mS V P 256).1.1 (mS V P 256).1.2.1 (mS V P 256).1.2.2.1
theorem muV_prog (V : Int) (P : Q4) (hP : Rd P) : cdV (pS V P 256).1 (pS V P 256).2.1 (pS V P 256).2.2.1 = muV V P := by
  obtain ⟨⟨k, hk⟩, _, _⟩ := same_S V P hP 256
  rw [hk]
  exact cdV_scl k _ _ _
end Go.Proofs.Ytdaglofgioehhaa
