/-
  Own work: the mathematics of multiples: the program doubles the neutral point too, the model does not; the codes are the same.
-/
import Derived.Test.YtclmhdhblghfnaaDoorICd
namespace Go.Proofs.YtclmhdhblghfnaaDoor
set_option linter.unusedVariables false

abbrev Q4 : Type := Int × Int × Int × Int
theorem al (a b : Int) : (a % fp + b) % fp = (a + b) % fp := by rw [Int.add_emod, Int.emod_emod_of_dvd _ (Int.dvd_refl fp), ← Int.add_emod]
theorem ar (a b : Int) : (a + b % fp) % fp = (a + b) % fp := by rw [Int.add_emod, Int.emod_emod_of_dvd _ (Int.dvd_refl fp), ← Int.add_emod]
theorem sl (a b : Int) : (a % fp - b) % fp = (a - b) % fp := by rw [Int.sub_emod, Int.emod_emod_of_dvd _ (Int.dvd_refl fp), ← Int.sub_emod]
theorem sr_ (a b : Int) : (a - b % fp) % fp = (a - b) % fp := by rw [Int.sub_emod, Int.emod_emod_of_dvd _ (Int.dvd_refl fp), ← Int.sub_emod]
theorem mm_ (a : Int) : a % fp % fp = a % fp := Int.emod_emod_of_dvd _ (Int.dvd_refl fp)
/-- The four numbers of a sum. -/
def fX (A B C G : Int) : Int := (B - A) % fp * ((G - C) % fp) % fp
def fY (A B C G : Int) : Int := (G + C) % fp * ((B + A) % fp) % fp
def fZ (A B C G : Int) : Int := (G - C) % fp * ((G + C) % fp) % fp
def fT (A B C G : Int) : Int := (B - A) % fp * ((B + A) % fp) % fp
def F4 (P Q : Q4) : Q4 :=
  (fX (smA P.1 P.2.1 Q.1 Q.2.1) (smB P.1 P.2.1 Q.1 Q.2.1) (smC mdD P.2.2.2 Q.2.2.2) (smG P.2.2.1 Q.2.2.1),
   fY (smA P.1 P.2.1 Q.1 Q.2.1) (smB P.1 P.2.1 Q.1 Q.2.1) (smC mdD P.2.2.2 Q.2.2.2) (smG P.2.2.1 Q.2.2.1),
   fZ (smA P.1 P.2.1 Q.1 Q.2.1) (smB P.1 P.2.1 Q.1 Q.2.1) (smC mdD P.2.2.2 Q.2.2.2) (smG P.2.2.1 Q.2.2.1),
   fT (smA P.1 P.2.1 Q.1 Q.2.1) (smB P.1 P.2.1 Q.1 Q.2.1) (smC mdD P.2.2.2 Q.2.2.2) (smG P.2.2.1 Q.2.2.1))
def scl (l : Int) (P : Q4) : Q4 := (l * P.1 % fp, l * P.2.1 % fp, l * P.2.2.1 % fp, l * P.2.2.2 % fp)
theorem scA (l m X1 Y1 X2 Y2 : Int) : smA (l * X1 % fp) (l * Y1 % fp) (m * X2 % fp) (m * Y2 % fp) = l * m * smA X1 Y1 X2 Y2 % fp := by
  unfold smA
  simp only [ml, mr, sl, sr_]
  congr 1; grind
theorem scB (l m X1 Y1 X2 Y2 : Int) : smB (l * X1 % fp) (l * Y1 % fp) (m * X2 % fp) (m * Y2 % fp) = l * m * smB X1 Y1 X2 Y2 % fp := by
  unfold smB
  simp only [ml, mr, al, ar]
  congr 1; grind
theorem scC (l m D T1 T2 : Int) : smC D (l * T1 % fp) (m * T2 % fp) = l * m * smC D T1 T2 % fp := by
  unfold smC
  simp only [ml, mr]
  congr 1; grind
theorem scG (l m Z1 Z2 : Int) : smG (l * Z1 % fp) (m * Z2 % fp) = l * m * smG Z1 Z2 % fp := by
  unfold smG
  simp only [ml, mr, al, ar]
  congr 1; grind
theorem scFX (k A B C G : Int) : fX (k * A % fp) (k * B % fp) (k * C % fp) (k * G % fp) = k * k * fX A B C G % fp := by
  unfold fX
  simp only [ml, mr, sl, sr_]
  congr 1; grind
theorem scFY (k A B C G : Int) : fY (k * A % fp) (k * B % fp) (k * C % fp) (k * G % fp) = k * k * fY A B C G % fp := by
  unfold fY
  simp only [ml, mr, al, ar]
  congr 1; grind
theorem scFZ (k A B C G : Int) : fZ (k * A % fp) (k * B % fp) (k * C % fp) (k * G % fp) = k * k * fZ A B C G % fp := by
  unfold fZ
  simp only [ml, mr, al, ar, sl, sr_]
  congr 1; grind
theorem scFT (k A B C G : Int) : fT (k * A % fp) (k * B % fp) (k * C % fp) (k * G % fp) = k * k * fT A B C G % fp := by
  unfold fT
  simp only [ml, mr, al, ar, sl, sr_]
  congr 1; grind
theorem F4_scl (l m : Int) (P Q : Q4) : F4 (scl l P) (scl m Q) = scl (l * m * (l * m)) (F4 P Q) := by
  obtain ⟨x, y, z, t⟩ := P
  obtain ⟨x', y', z', t'⟩ := Q
  simp only [F4, scl, scA, scB, scC, scG, scFX, scFY, scFZ, scFT]
theorem scl_scl (l m : Int) (P : Q4) : scl l (scl m P) = scl (l * m) P := by
  obtain ⟨x, y, z, t⟩ := P
  simp only [scl, mr, Int.mul_assoc]
def Rd (P : Q4) : Prop := (0 ≤ P.1 ∧ P.1 < fp) ∧ (0 ≤ P.2.1 ∧ P.2.1 < fp) ∧ (0 ≤ P.2.2.1 ∧ P.2.2.1 < fp) ∧ (0 ≤ P.2.2.2 ∧ P.2.2.2 < fp)
theorem scl_one {P : Q4} (h : Rd P) : scl 1 P = P := by
  obtain ⟨x, y, z, t⟩ := P
  obtain ⟨h1, h2, h3, h4⟩ := h
  simp only [scl, Int.one_mul]
  simp only at h1 h2 h3 h4
  rw [Int.emod_eq_of_lt h1.1 h1.2, Int.emod_eq_of_lt h2.1 h2.2, Int.emod_eq_of_lt h3.1 h3.2, Int.emod_eq_of_lt h4.1 h4.2]
theorem md_rd (a : Int) : 0 ≤ a % fp ∧ a % fp < fp := ⟨Int.emod_nonneg _ (by decide), Int.emod_lt_of_pos _ (by decide)⟩
theorem F4_rd (P Q : Q4) : Rd (F4 P Q) := ⟨md_rd _, md_rd _, md_rd _, md_rd _⟩
def idQ : Q4 := (0, 1, 1, 0)
theorem idQ_dbl : F4 idQ idQ = scl 4 idQ := by
  have h : smA 0 1 0 1 = 1 ∧ smB 0 1 0 1 = 1 ∧ smC mdD 0 0 = 0 ∧ smG 1 1 = 2 := by
    refine ⟨by decide, by decide, ?_, by decide⟩
    unfold smC; rw [Int.mul_zero]; decide
  unfold idQ
  simp only [F4, h.1, h.2.1, h.2.2.1, h.2.2.2]
  decide
/-- Bit i of V. -/
def vbit (V : Int) (i : Nat) : Bool := V / 2 ^ i % 2 == 1
/-- The program's sum after n of its 256 rounds. -/
def pS (V : Int) (P : Q4) : Nat → Q4
  | 0 => idQ
  | n + 1 => bif vbit V (255 - n) then F4 (F4 (pS V P n) (pS V P n)) P else F4 (pS V P n) (pS V P n)
/-- The model's, and whether a bit was set. -/
def mS (V : Int) (P : Q4) : Nat → Q4 × Bool
  | 0 => (idQ, false)
  | n + 1 =>
    let d := bif (mS V P n).2 then F4 (mS V P n).1 (mS V P n).1 else (mS V P n).1
    bif vbit V (255 - n) then (F4 d P, true) else (d, (mS V P n).2)
theorem same_S (V : Int) (P : Q4) (hP : Rd P) (n : Nat) : (∃ k : Nat, pS V P n = scl (2 ^ k) (mS V P n).1) ∧ ((mS V P n).2 = false → (mS V P n).1 = idQ) ∧ Rd (mS V P n).1 := by
  induction n with
  | zero => exact ⟨⟨0, by show idQ = scl 1 idQ; decide⟩, fun _ => rfl, by show Rd idQ; unfold Rd idQ; decide⟩
  | succ n ih =>
    obtain ⟨⟨k, hk⟩, hi, hr⟩ := ih
    have hd : ∃ j : Nat, F4 (pS V P n) (pS V P n) = scl (2 ^ j) (bif (mS V P n).2 then F4 (mS V P n).1 (mS V P n).1 else (mS V P n).1) := by
      rw [hk, F4_scl]
      cases hb : (mS V P n).2 with
      | true => exact ⟨k + k + (k + k), by rw [cond_true, Int.pow_add, Int.pow_add]⟩
      | false =>
        rw [hi hb, idQ_dbl, scl_scl, cond_false]
        exact ⟨k + k + (k + k) + 2, by rw [Int.pow_add, Int.pow_add, Int.pow_add]; rfl⟩
    obtain ⟨j, hj⟩ := hd
    have hrd : Rd (bif (mS V P n).2 then F4 (mS V P n).1 (mS V P n).1 else (mS V P n).1) := by
      cases (mS V P n).2 with
      | true => exact F4_rd _ _
      | false => exact hr
    cases hv : vbit V (255 - n) with
    | true =>
      refine ⟨⟨j + j, ?_⟩, ?_, ?_⟩
      · simp only [pS, mS, hv, cond_true]
        rw [hj]
        have e := F4_scl (2 ^ j) 1 (bif (mS V P n).2 then F4 (mS V P n).1 (mS V P n).1 else (mS V P n).1) P
        rw [scl_one hP, Int.mul_one] at e
        rw [e, Int.pow_add]
      · simp only [mS, hv, cond_true]; intro h; cases h
      · simp only [mS, hv, cond_true]; exact F4_rd _ _
    | false =>
      refine ⟨⟨j, ?_⟩, ?_, ?_⟩
      · simp only [pS, mS, hv, cond_false]; exact hj
      · simp only [mS, hv, cond_false]; intro h; rw [h]; exact hi h
      · simp only [mS, hv, cond_false]; exact hrd
theorem pow_inv (n k : Nat) (X Z : Int) (h : (2 : Int) ^ (n + 1) % fp = 1) : (2 ^ k * X % fp) * ((2 ^ k * Z % fp) ^ n % fp) % fp = X * (Z ^ n % fp) % fp := by
  rw [ml, mr, mr, ← mr, mpow, mr, Int.mul_pow]
  have e : (2 : Int) ^ k * X * ((2 ^ k) ^ n * Z ^ n) = (2 ^ (n + 1)) ^ k * (X * Z ^ n) := by
    have e1 : (2 : Int) ^ k * (2 ^ k) ^ n = (2 ^ (n + 1)) ^ k := by
      rw [← Int.pow_mul, ← Int.pow_add, ← Int.pow_mul]; congr 1; grind
    rw [← e1]; grind
  rw [e, ← ml, ← mpow, h, Int.one_pow, show (1 : Int) % fp = 1 from by decide, Int.one_mul]
theorem cdV_scl (k : Nat) (X Y Z : Int) : cdV (2 ^ k * X % fp) (2 ^ k * Y % fp) (2 ^ k * Z % fp) = cdV X Y Z := by
  have h : (2 : Int) ^ (fpN - 2 + 1) % fp = 1 := by
    have := fermatI 2 (by decide) (by decide)
    rwa [show fpN - 2 + 1 = fpN - 1 from by decide +kernel]
  unfold cdV
  rw [inv0_eq, inv0_eq, pow_inv _ k X Z h, pow_inv _ k Y Z h]
/-- The number of the code of a multiple. -/
def muV (V : Int) (P : Q4) : Int := cdV (mS V P 256).1.1 (mS V P 256).1.2.1 (mS V P 256).1.2.2.1
theorem muV_prog (V : Int) (P : Q4) (hP : Rd P) : cdV (pS V P 256).1 (pS V P 256).2.1 (pS V P 256).2.2.1 = muV V P := by
  obtain ⟨⟨k, hk⟩, _, _⟩ := same_S V P hP 256
  rw [hk]
  exact cdV_scl k _ _ _
end Go.Proofs.YtclmhdhblghfnaaDoor
namespace Go.Proofs.YtclmhdhblghfnaaDoor
open Go.ChangeShapes Go.WideShapes Go.ChangeAt Go.RowKit
set_option linter.unusedVariables false

theorem word_bit (ns : List Int) (hw : Wrd ns) (i : Nat) : ns.getD (i / 64) 0 / 2 ^ (i % 64) % 2 = val 18446744073709551616 ns / 2 ^ i % 2 := by
  have hd := val_digit (B := 18446744073709551616) (by decide) hw (i / 64)
  rw [← hd]
  generalize val 18446744073709551616 ns = V
  have e1 : (18446744073709551616 : Int) ^ (i / 64) = 2 ^ (64 * (i / 64)) := by rw [Int.pow_mul]; rfl
  have e2 : (2 : Int) ^ i = 2 ^ (64 * (i / 64)) * 2 ^ (i % 64) := by rw [← Int.pow_add]; congr 1; omega
  have hp : (0 : Int) ≤ 2 ^ (64 * (i / 64)) := Int.le_of_lt (Int.pow_pos (by decide))
  rw [e1, e2, ← Int.ediv_ediv_of_nonneg hp]
  generalize V / 2 ^ (64 * (i / 64)) = U
  have e3 : (18446744073709551616 : Int) = 2 ^ (i % 64) * 2 ^ (64 - i % 64) := by
    rw [← Int.pow_add, show i % 64 + (64 - i % 64) = 64 by omega]; rfl
  have h1 : 0 < 64 - i % 64 := by omega
  rw [e3]
  have hq : (0 : Int) < 2 ^ (i % 64) := Int.pow_pos (by decide)
  rw [Int.emod_def U, Int.mul_assoc, Int.sub_eq_add_neg, ← Int.mul_neg, Int.add_mul_ediv_left _ _ (by omega)]
  obtain ⟨m, hm⟩ : ∃ m, 64 - i % 64 = m + 1 := ⟨63 - i % 64, by omega⟩
  rw [hm, Int.pow_succ]
  generalize U / 2 ^ (i % 64) = A
  generalize U / (2 ^ (i % 64) * (2 ^ m * 2)) = B
  rw [show -(2 ^ m * 2 * B) = 2 * (-(2 ^ m * B)) by grind, Int.add_mul_emod_self_left]

set_option maxHeartbeats 1000000 in
theorem bit_any (g : Nat) (ns : List Int) (i : Nat) (w : World) (hl : ns.length = 4) (hi : i < 256) (hr : RowW w g 46 ns) (hw : Wrd ns) :
    Calls Tryd.prog 44 #[.pointer (some ⟨g, 0, none⟩), .int .i64 i] w fun e w' => e = .returned (.int .u64 (val 18446744073709551616 ns / 2 ^ i % 2)) ∧ w' = w := by
  have c3 := hr.cell (i / 64) (by omega)
  obtain ⟨h0, h1⟩ := hw.get (i / 64)
  have HB : Hid (ns.getD (i / 64) 0 / 2 ^ (i % 64) % 2 = val 18446744073709551616 ns / 2 ^ i % 2) := word_bit ns hw i
  have hp : (0 : Int) < 2 ^ (i % 64) := Int.pow_pos (by decide)
  have HA : Hid (bits .and .u64 (ns.getD (i / 64) 0 / 2 ^ (i % 64)) 1 = ns.getD (i / 64) 0 / 2 ^ (i % 64) % 2) := by
    have q0 : 0 ≤ ns.getD (i / 64) 0 / 2 ^ (i % 64) := Int.ediv_nonneg h0 (by omega)
    have q1 : ns.getD (i / 64) 0 / 2 ^ (i % 64) ≤ ns.getD (i / 64) 0 := Int.ediv_le_self _ h0
    exact u64_and_mask _ 1 q0 (by omega) 1 (by decide) (by decide)
  have hlt : (i : Int) / 64 < 4 := by omega
  have hi' : (i : Int) < 256 := by omega
  clear hr hw hl hp
  generalize ns.getD (i / 64) 0 = x at *
  go_enter Tryd.func44, Tryd.ntmps44
  go_wp2
  rw [HA.out, HB.out]
  go_ret
  exact ⟨rfl, rfl⟩

theorem AddP.q4 {w : World} {g : Nat} {X1 Y1 Z1 T1 X2 Y2 Z2 T2 : Int} {e : Ending} {w' : World} (h : AddP w g X1 Y1 Z1 T1 X2 Y2 Z2 T2 e w') :
    ∃ x y z t, Pt w' g x y z t ∧ WrH g w w' ∧ e = .returned (.tuple #[]) ∧ ((ev x, ev y, ev z, ev t) : Q4) = F4 (X1, Y1, Z1, T1) (X2, Y2, Z2, T2) := by
  obtain ⟨x, y, z, t, h1, h2, h3, h4, h5, h6, h7⟩ := h
  exact ⟨x, y, z, t, h1, h2, h3, by rw [h4, h5, h6, h7]; rfl⟩
theorem Pt.wrh2 {w w' : World} {g V : Nat} {x y z t : List Int} (h : Pt w g x y z t) (hw : WrH V w w') (hne : g ≠ V) : Pt w' g x y z t := ⟨hw.rowW h.row hne, h.x, h.y, h.z, h.t⟩
/-- What multiply leaves. -/
def MulP (w : World) (g : Nat) (Q : Q4) (e : Ending) (w' : World) : Prop :=
  ∃ x y z t, Pt w' g x y z t ∧ WrH g w w' ∧ e = .returned (.tuple #[]) ∧ ((ev x, ev y, ev z, ev t) : Q4) = Q
structure MuS (w : World) (g : Nat) (x y z t ns : List Int) (Q : Q4) (wr : World) : Prop where
  below : Below w.heap.size w wr
  num : RowW wr w.heap.size 46 ns
  pt : Pt wr g x y z t
  lt : g < w.heap.size
  sum : ∃ a b c d, Pt wr (w.heap.size + 1 + 1) a b c d ∧ ((ev a, ev b, ev c, ev d) : Q4) = Q
theorem ev_id : ((ev [0, 0, 0, 0, 0], ev [1, 0, 0, 0, 0], ev [1, 0, 0, 0, 0], ev [0, 0, 0, 0, 0]) : Q4) = idQ := by decide
theorem heap_third (w : World) (o1 o2 o3 : Obj) : (((w.alloc o1).alloc o2).alloc o3).heap[w.heap.size + 1 + 1]? = some o3 := by
  have := heap_alloc_new ((w.alloc o1).alloc o2) o3
  rwa [show ((w.alloc o1).alloc o2).heap.size = w.heap.size + 1 + 1 by simp] at this
def z20 : List Int := [0, 0, 0, 0, 0, 0, 0, 0, 0, 0, 0, 0, 0, 0, 0, 0, 0, 0, 0, 0]
theorem one_ok2 : EOk [1, 0, 0, 0, 0] := one_ok
theorem Tryd.sizePoint2 : (Tryd.prog.info? 43).map (·.size) = some 20 := by kernel_rfl

set_option maxRecDepth 100000 in
set_option maxHeartbeats 4000000 in
theorem multiply_gen (S : Nat → Q4) (g : Nat) (x y z t ns : List Int) (w : World) (hp : Pt w g x y z t) (hl : ns.length = 4) (hw : Wrd ns) (hS0 : Hid (S 0 = idQ))
    (hSs : Hid (∀ n, S (n + 1) = bif vbit (val 18446744073709551616 ns) (255 - n) then F4 (F4 (S n) (S n)) (ev x, ev y, ev z, ev t) else F4 (S n) (S n))) :
    Calls Tryd.prog 21 #[.pointer (some ⟨g, 0, none⟩), .agg (ns.map (Value.int .u64)).toArray] w (MulP w g (S 256)) := by
  match ns, hl with
  | [n0, n1, n2, n3], _ =>
  have HB : Hid (Below w.heap.size w (((w.alloc (.cells #[.int .u64 n0, .int .u64 n1, .int .u64 n2, .int .u64 n3] 46)).alloc (.cells #[.int .u64 1, .int .u64 0, .int .u64 0, .int .u64 0, .int .u64 0] 41)).alloc (.cells #[.int .u64 0, .int .u64 0, .int .u64 0, .int .u64 0, .int .u64 0, .int .u64 0, .int .u64 0, .int .u64 0, .int .u64 0, .int .u64 0, .int .u64 0, .int .u64 0, .int .u64 0, .int .u64 0, .int .u64 0, .int .u64 0, .int .u64 0, .int .u64 0, .int .u64 0, .int .u64 0] 43))) := (((Below.refl _ _).alloc (Nat.le_refl _) _).alloc (by simp) _).alloc (by simp; omega) _
  have HNR : Hid (RowW (((w.alloc (.cells #[.int .u64 n0, .int .u64 n1, .int .u64 n2, .int .u64 n3] 46)).alloc (.cells #[.int .u64 1, .int .u64 0, .int .u64 0, .int .u64 0, .int .u64 0] 41)).alloc (.cells #[.int .u64 0, .int .u64 0, .int .u64 0, .int .u64 0, .int .u64 0, .int .u64 0, .int .u64 0, .int .u64 0, .int .u64 0, .int .u64 0, .int .u64 0, .int .u64 0, .int .u64 0, .int .u64 0, .int .u64 0, .int .u64 0, .int .u64 0, .int .u64 0, .int .u64 0, .int .u64 0] 43)) w.heap.size 46 [n0, n1, n2, n3]) := by
    show _ = _
    rw [Below.heap_alloc _ _ w.heap.size (by simp; omega), Below.heap_alloc _ _ w.heap.size (by simp)]; exact heap_alloc_new w _
  have HZR : Hid (RowW (((w.alloc (.cells #[.int .u64 n0, .int .u64 n1, .int .u64 n2, .int .u64 n3] 46)).alloc (.cells #[.int .u64 1, .int .u64 0, .int .u64 0, .int .u64 0, .int .u64 0] 41)).alloc (.cells #[.int .u64 0, .int .u64 0, .int .u64 0, .int .u64 0, .int .u64 0, .int .u64 0, .int .u64 0, .int .u64 0, .int .u64 0, .int .u64 0, .int .u64 0, .int .u64 0, .int .u64 0, .int .u64 0, .int .u64 0, .int .u64 0, .int .u64 0, .int .u64 0, .int .u64 0, .int .u64 0] 43)) (w.heap.size + 1 + 1) 43 z20) := heap_third w _ _ _
  have HER : Hid (EAt ((w.alloc (.cells #[.int .u64 n0, .int .u64 n1, .int .u64 n2, .int .u64 n3] 46)).alloc (.cells #[.int .u64 1, .int .u64 0, .int .u64 0, .int .u64 0, .int .u64 0] 41)) (w.heap.size + 1) 0 [1, 0, 0, 0, 0]) := by
    have r : RowW ((w.alloc (.cells #[.int .u64 n0, .int .u64 n1, .int .u64 n2, .int .u64 n3] 46)).alloc (.cells #[.int .u64 1, .int .u64 0, .int .u64 0, .int .u64 0, .int .u64 0] 41)) (w.heap.size + 1) 41 [1, 0, 0, 0, 0] := by
      have := heap_alloc_new (w.alloc (.cells #[.int .u64 n0, .int .u64 n1, .int .u64 n2, .int .u64 n3] 46)) (.cells #[.int .u64 1, .int .u64 0, .int .u64 0, .int .u64 0, .int .u64 0] 41)
      rwa [show (w.alloc (.cells #[.int .u64 n0, .int .u64 n1, .int .u64 n2, .int .u64 n3] 46)).heap.size = w.heap.size + 1 by simp] at this
    exact EAt.of_row r one_ok2
  have HPT : Hid (Pt w g x y z t) := hp
  have HWD : Hid (Wrd [n0, n1, n2, n3]) := hw
  clear hp hw
  simp only [List.map_cons, List.map_nil]
  go_enter Tryd.func21, Tryd.ntmps21
  go_wp2_with (first
    | (refine wpList_loadE rfl (.tmp 4) rfl (w.heap.size + 1) 0 [1, 0, 0, 0, 0] rfl HER.out ?_)
    | (refine wpList_storeP rfl (.tmp 5) (.tmp 10) rfl (w.heap.size + 1 + 1) [0, 0, 0, 0, 0] [1, 0, 0, 0, 0] [1, 0, 0, 0, 0] [0, 0, 0, 0, 0] z20 rfl rfl zero_ok one_ok2 one_ok2 zero_ok rfl HZR.out ?_)
    | fail)
  intro w0 hp0 hw0
  have HS : Hid (MuS w g x y z t [n0, n1, n2, n3] (S 0) w0) := by
    have b0 : Below w.heap.size w w0 := HB.out.trans (hw0.below (by omega))
    exact ⟨b0, hw0.rowW HNR.out (by omega), HPT.out.below b0 HPT.out.row.lt, HPT.out.row.lt, [0, 0, 0, 0, 0], [1, 0, 0, 0, 0], [1, 0, 0, 0, 0], [0, 0, 0, 0, 0], hp0, by rw [hS0.out]; exact ev_id⟩
  clear hp0 hw0 HB HNR HZR HER
  go_wp2_with fail
  go_loopw [6] (fun i wr => ∃ j : Nat, j ≤ 256 ∧ i = .int .i64 ((j : Int) - 1) ∧ MuS w g x y z t [n0, n1, n2, n3] (S (256 - j)) wr) (fun i _ => (intOf i + 1).toNat)
  case atStart => exact ⟨256, Nat.le_refl _, by go_num, by rw [Nat.sub_self]; exact HS.out⟩
  case round =>
    clear HS
    obtain ⟨j, hj, rfl, hst⟩ := hrel
    by_cases hj0 : 0 < j
    · obtain ⟨i, rfl⟩ : ∃ i, j = i + 1 := ⟨j - 1, by omega⟩
      have ei : ((i + 1 : Nat) : Int) - 1 = (i : Int) := by omega
      rw [ei]
      clear ei
      obtain ⟨hbel, hnum, hpt, hlt, a, b, c, d, hsum, hq⟩ := hst
      have HST : Hid (Below w.heap.size w wr ∧ RowW wr w.heap.size 46 [n0, n1, n2, n3] ∧ Pt wr g x y z t ∧ g < w.heap.size ∧ Pt wr (w.heap.size + 1 + 1) a b c d ∧ ((ev a, ev b, ev c, ev d) : Q4) = S (256 - (i + 1))) := ⟨hbel, hnum, hpt, hlt, hsum, hq⟩
      clear hbel hnum hpt hlt hsum hq
      go_wp2_with fail
      refine (add_any (w.heap.size + 1 + 1) (w.heap.size + 1 + 1) a b c d a b c d _ HST.out.2.2.2.2.1 HST.out.2.2.2.2.1).mono ?_
      intro e w2 h2
      obtain ⟨a2, b2, c2, d2, p2, hw2, rfl, q2⟩ := h2.q4
      obtain ⟨s1, s2, s3, s4, s5, s6⟩ := HST.out
      have HST2 : Hid (Below w.heap.size w w2 ∧ RowW w2 w.heap.size 46 [n0, n1, n2, n3] ∧ Pt w2 g x y z t ∧ g < w.heap.size ∧ Pt w2 (w.heap.size + 1 + 1) a2 b2 c2 d2 ∧ ((ev a2, ev b2, ev c2, ev d2) : Q4) = F4 (S (256 - (i + 1))) (S (256 - (i + 1)))) :=
        ⟨s1.trans (hw2.below w.heap.size (by omega) s1.size), hw2.rowW s2 (by omega), s3.wrh2 hw2 (by omega), s4, p2, by rw [q2, s6]⟩
      clear h2 p2 hw2 q2 s1 s2 s3 s4 s5 s6 HST
      go_wp2_with fail
      refine (bit_any w.heap.size [n0, n1, n2, n3] i _ rfl (by omega) HST2.out.2.1 HWD.out).mono ?_
      rintro e w3 ⟨rfl, rfl⟩
      have hv : val 18446744073709551616 [n0, n1, n2, n3] / 2 ^ i % 2 = 0 ∨ val 18446744073709551616 [n0, n1, n2, n3] / 2 ^ i % 2 = 1 := by omega
      have en : 256 - i = 256 - (i + 1) + 1 := by omega
      have en2 : 255 - (256 - (i + 1)) = i := by omega
      rcases hv with hv | hv
      · have hvb : vbit (val 18446744073709551616 [n0, n1, n2, n3]) i = false := by unfold vbit; rw [hv]; rfl
        have HN : Hid (MuS w g x y z t [n0, n1, n2, n3] (S (256 - i)) w3) := by
          obtain ⟨s1, s2, s3, s4, s5, s6⟩ := HST2.out
          refine ⟨s1, s2, s3, s4, a2, b2, c2, d2, s5, ?_⟩
          rw [s6, en, hSs.out, en2, hvb]; rfl
        rw [hv]
        clear hv HST2 en en2 hvb
        go_wp2
        go_roundw
        case rel => exact ⟨i, by omega, by go_num, HN.out⟩
        case measure => simp [intOf]
      · have hvb : vbit (val 18446744073709551616 [n0, n1, n2, n3]) i = true := by unfold vbit; rw [hv]; rfl
        rw [hv]
        clear hv
        go_wp2_with fail
        refine (add_any (w.heap.size + 1 + 1) g a2 b2 c2 d2 x y z t _ HST2.out.2.2.2.2.1 HST2.out.2.2.1).mono ?_
        intro e w4 h4
        obtain ⟨a4, b4, c4, d4, p4, hw4, rfl, q4⟩ := h4.q4
        have HN : Hid (MuS w g x y z t [n0, n1, n2, n3] (S (256 - i)) w4) := by
          obtain ⟨s1, s2, s3, s4, s5, s6⟩ := HST2.out
          refine ⟨s1.trans (hw4.below w.heap.size (by omega) s1.size), hw4.rowW s2 (by omega), s3.wrh2 hw4 (by omega), s4, a4, b4, c4, d4, p4, ?_⟩
          rw [q4, s6, en, hSs.out, en2, hvb]; rfl
        clear HST2 en en2 hvb h4 p4 hw4 q4
        go_wp2
        go_roundw
        case rel => exact ⟨i, by omega, by go_num, HN.out⟩
        case measure => simp [intOf]
    · have hj00 : j = 0 := by omega
      subst hj00
      obtain ⟨hbel, hnum, hpt, hlt, a, b, c, d, hsum, hq⟩ := hst
      rw [Nat.sub_zero] at hq
      have HL : Hid (wr.heap[w.heap.size + 1 + 1]? = some (.cells ((pl a b c d).map (Value.int .u64)).toArray 43 (0, 0))) := hsum.row
      have HPX : Hid ((pl x y z t).length = 20) := by show _ = _; unfold pl; simp [HPT.out.x.1, HPT.out.y.1, HPT.out.z.1, HPT.out.t.1]
      have HSZ : Hid ((Tryd.prog.info? 43).map (·.size) = some ((pl a b c d).map (Value.int .u64)).toArray.size) := by
        show _ = _
        rw [Tryd.sizePoint2]; unfold pl; simp [hsum.x.1, hsum.y.1, hsum.z.1, hsum.t.1]
      have HOK : Hid (EOk a ∧ EOk b ∧ EOk c ∧ EOk d) := ⟨hsum.x, hsum.y, hsum.z, hsum.t⟩
      have HPR : Hid (RowW wr g 43 (pl x y z t)) := hpt.row
      have HFF : Hid (Below w.heap.size w wr ∧ ((ev a, ev b, ev c, ev d) : Q4) = S 256) := ⟨hbel, hq⟩
      clear hbel hnum hpt hsum hq
      go_wp2_with (first
        | (refine wpList_load_row rfl 43 (.tmp 5) rfl (w.heap.size + 1 + 1) rfl 43 _ (0, 0) _ HL.out Tryd.underlying43 rfl HSZ.out ?_)
        | (refine wpList_storeP rfl (.tmp 23) (.tmp 22) rfl g a b c d _ rfl rfl HOK.out.1 HOK.out.2.1 HOK.out.2.2.1 HOK.out.2.2.2 HPX.out HPR.out ?_)
        | fail)
      intro w5 hp5 hw5
      have HF : Hid (MulP w g (S 256) (.returned (.tuple #[])) w5) :=
        ⟨a, b, c, d, hp5, (WrH.of_below HFF.out.1).trans hw5.wrH, rfl, HFF.out.2⟩
      clear hp5 hw5 HFF HPR HOK HSZ HPX HL
      go_wp2
      go_end0
      exact HF.out
theorem multiply_any (g : Nat) (x y z t ns : List Int) (w : World) (hp : Pt w g x y z t) (hl : ns.length = 4) (hw : Wrd ns) :
    Calls Tryd.prog 21 #[.pointer (some ⟨g, 0, none⟩), .agg (ns.map (Value.int .u64)).toArray] w (MulP w g (pS (val 18446744073709551616 ns) (ev x, ev y, ev z, ev t) 256)) :=
  multiply_gen (pS (val 18446744073709551616 ns) (ev x, ev y, ev z, ev t)) g x y z t ns w hp hl hw rfl (fun _ => rfl)
end Go.Proofs.YtclmhdhblghfnaaDoor
