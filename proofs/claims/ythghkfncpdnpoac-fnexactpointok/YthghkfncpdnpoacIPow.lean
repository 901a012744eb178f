/-
  Own work: powers of elements.
-/
import Derived.Test.YthghkfncpdnpoacIEl
namespace Go.Proofs.Ythghkfncpdnpoac
open Go.ChangeShapes Go.WideShapes Go.ChangeAt Go.RowKit
set_option linter.unusedVariables false

theorem mod_mul_mod (a b : Int) : (a % fp) * (b % fp) % fp = a * b % fp := (Int.mul_emod a b fp).symm
theorem sqN_eq (x : Int) (h0 : 0 ≤ x) (h1 : x < fp) (n : Nat) : sqN x n = x ^ (2 ^ n) % fp := by
  induction n with
  | zero => simp only [sqN, Nat.pow_zero, Int.pow_succ, Int.pow_zero, Int.one_mul]; exact (Int.emod_eq_of_lt h0 h1).symm
  | succ n ih => rw [sqN, ih, mod_mul_mod, ← Int.pow_add, Nat.pow_succ]; congr 2; omega
theorem pow_mod_pow (x : Int) (a b : Nat) : (x ^ a % fp) ^ b % fp = x ^ (a * b) % fp := by
  induction b with
  | zero => simp
  | succ b ih => rw [Int.pow_succ, Int.mul_emod, ih, Int.emod_emod_of_dvd _ (Int.dvd_refl fp), mod_mul_mod, ← Int.pow_add, Nat.mul_succ]
theorem ev_bd (es : List Int) : 0 ≤ ev es ∧ ev es < fp := by unfold ev fp; omega
theorem ones_even (x : Int) (h : Nat) : sqN (x ^ (2 ^ h - 1) % fp) h * (x ^ (2 ^ h - 1) % fp) % fp = x ^ (2 ^ (h + h) - 1) % fp := by
  have b : 0 ≤ x ^ (2 ^ h - 1) % fp ∧ x ^ (2 ^ h - 1) % fp < fp := by unfold fp; omega
  rw [sqN_eq _ b.1 b.2, pow_mod_pow, mod_mul_mod, ← Int.pow_add]
  congr 2
  have hp : 1 ≤ 2 ^ h := Nat.pow_pos (by decide)
  rw [Nat.pow_add, Nat.sub_mul, Nat.one_mul]
  have : 2 ^ h ≤ 2 ^ h * 2 ^ h := Nat.le_mul_of_pos_left _ hp
  omega
theorem ones_odd (x : Int) (m : Nat) (h0 : 0 ≤ x) (h1 : x < fp) : sqN (x ^ (2 ^ m - 1) % fp) 1 * x % fp = x ^ (2 ^ (m + 1) - 1) % fp := by
  have b : 0 ≤ x ^ (2 ^ m - 1) % fp ∧ x ^ (2 ^ m - 1) % fp < fp := by unfold fp; omega
  have hx : x = x ^ 1 % fp := by rw [Int.pow_succ, Int.pow_zero, Int.one_mul]; exact (Int.emod_eq_of_lt h0 h1).symm
  rw [sqN_eq _ b.1 b.2, pow_mod_pow]
  conv => lhs; rw [show x ^ ((2 ^ m - 1) * 2 ^ 1) % fp * x = x ^ ((2 ^ m - 1) * 2 ^ 1) % fp * (x ^ 1 % fp) from by rw [← hx]]
  rw [mod_mul_mod, ← Int.pow_add]
  congr 2
  have hp : 1 ≤ 2 ^ m := Nat.pow_pos (by decide)
  rw [Nat.pow_succ]; omega

theorem EAt.wr {w w' : World} {g o V : Nat} {es : List Int} (h : EAt w g o es) (hw : Wr V w w') (hne : g ≠ V) : EAt w' g o es :=
  ⟨by rw [hw.size]; exact h.1, h.2.1, fun i hi => by rw [World.cell?_of_block (a := ⟨g, o + i, none⟩) (w := w) (hw.block g hne)]; exact h.2.2 i hi⟩

set_option maxHeartbeats 2000000 in
theorem ones_any (n : Nat) : ∀ (g o : Nat) (xs : List Int) (w : World), 1 ≤ n → n ≤ 1024 → EAt w g o xs →
    Calls Try.prog 129 #[.pointer (some ⟨g, o, none⟩), .int .i64 n] w (EP w (ev xs ^ (2 ^ n - 1) % fp)) := by
  induction n using Nat.strongRecOn with
  | ind n ih =>
    intro g o xs w hn1 hn2 h
    have HX : Hid (EAt (w.alloc (.cells #[.int .u64 0, .int .u64 0, .int .u64 0, .int .u64 0, .int .u64 0] 82)) g o xs) := h.below (below_new2 _ _)
    have HK : Hid (EOk xs) := h.2.1
    have hev := ev_bd xs
    have hgw : g < w.heap.size := h.1
    clear h
    by_cases h1 : n = 1
    · have h1' : ((n : Int) == 1) = true := by rw [h1]; rfl
      have HV : Hid (ev xs = ev xs ^ (2 ^ n - 1) % fp) := by
        show _ = _
        rw [h1]; simp only [Nat.pow_one, Nat.reduceSub, Int.pow_succ, Int.pow_zero, Int.one_mul]
        exact (Int.emod_eq_of_lt hev.1 hev.2).symm
      clear h1 ih
      have HR0 : Hid (RowW (w.alloc (.cells #[.int .u64 0, .int .u64 0, .int .u64 0, .int .u64 0, .int .u64 0] 82)) w.heap.size 82 [0, 0, 0, 0, 0]) := row0 w
      go_enter Try.func129, Try.ntmps129
      go_wp2_with (first
        | (refine wpList_loadE rfl (.tmp 10) rfl g o xs rfl HX.out ?_)
        | (refine wpList_storeE rfl (.tmp 4) (.tmp 11) rfl w.heap.size xs [0, 0, 0, 0, 0] rfl rfl HK.out.1 rfl HR0.out ?_)
        | fail)
      intro w3 hr3 hw3
      have HB3 : Hid (Below w.heap.size w w3) := (below_new2 _ _).trans (hw3.below (Nat.le_refl _))
      have HR3 : Hid (RowW w3 w.heap.size 82 xs) := hr3
      clear hr3 hw3 HX HR0
      go_wp2
      exact bodyPost_ret (v := .agg (xs.map (Value.int .u64)).toArray) (resE rfl _ _ w.heap.size xs HK.out.1 rfl HR3.out) rfl ⟨xs, HK.out, HV.out, rfl, HB3.out⟩
    · have h1' : ((n : Int) == 1) = false := by simp; omega
      have IH : Hid (∀ (w : World), 1 ≤ n / 2 → n / 2 ≤ 1024 → EAt w g o xs → Calls Try.prog 129 #[.pointer (some ⟨g, o, none⟩), .int .i64 ((n / 2 : Nat) : Int)] w (EP w (ev xs ^ (2 ^ (n / 2) - 1) % fp))) := ih (n / 2) (by omega) g o xs
      have HD : Hid ((n : Int) / 2 = ((n / 2 : Nat) : Int)) := by show _ = _; omega
      clear ih
      have hb0 : Below w.heap.size w (w.alloc (.cells #[.int .u64 0, .int .u64 0, .int .u64 0, .int .u64 0, .int .u64 0] 82)) := below_new2 _ _
      have HR0 : RowW (w.alloc (.cells #[.int .u64 0, .int .u64 0, .int .u64 0, .int .u64 0, .int .u64 0] 82)) w.heap.size 82 [0, 0, 0, 0, 0] := row0 w
      go_enter Try.func129, Try.ntmps129
      go_wp2_with fail
      generalize w.alloc (.cells #[.int .u64 0, .int .u64 0, .int .u64 0, .int .u64 0, .int .u64 0] 82) = w0 at *
      rw [HD.out]
      refine (IH.out _ (by omega) (by omega) HX.out).mono ?_
      rintro e w1 ⟨es, hok, hes, rfl, b1⟩
      have HE1 : Hid (EOk es ∧ ev es = ev xs ^ (2 ^ (n / 2) - 1) % fp) := ⟨hok, hes⟩
      have s0 := hb0.size
      have hl0 := HR0.lt
      have HR1 : RowW w1 w.heap.size 82 [0, 0, 0, 0, 0] := HR0.below b1 hl0
      have B1 : Below w.heap.size w w1 := hb0.trans (b1.mono s0)
      have X1 := HX.out.below b1
      clear hok hes b1 HR0 hb0 HX IH
      have s1 := B1.size
      have hl1 := HR1.lt
      have HRN : Hid (RowW (w1.alloc (.cells #[.int .u64 0, .int .u64 0, .int .u64 0, .int .u64 0, .int .u64 0] 82)) w1.heap.size 82 [0, 0, 0, 0, 0]) := row0 w1
      go_wp2_with (first
        | (refine wpList_storeE rfl (.tmp 5) (.tmp 15) rfl w1.heap.size es [0, 0, 0, 0, 0] rfl rfl HE1.out.1.1 rfl HRN.out ?_)
        | fail)
      intro w2 hr2 hw2
      have b2 : Below w1.heap.size w1 w2 := (below_new2 _ _).trans (hw2.below (Nat.le_refl _))
      clear HRN
      have HR2 := HR1.below b2 hl1
      have B2 : Below w.heap.size w w2 := B1.trans (b2.mono s1)
      have X2 := X1.below b2
      have E2 := EAt.of_row hr2 HE1.out.1
      have hG : w.heap.size < w1.heap.size := hl1
      clear X1 HR1 B1 b2 hw2
      generalize hGd : w1.heap.size = G at *
      clear hGd
      go_wp2_with fail
      rw [HD.out]
      refine (squared_any G 0 es (n / 2) _ (by omega) E2).mono ?_
      rintro e w3 ⟨fs, hfk, hfv, rfl, b3⟩
      have s2 := B2.size
      have hl2 := HR2.lt
      have HR3 := HR2.below b3 hl2
      have B3 : Below w.heap.size w w3 := B2.trans (b3.mono s2)
      have X3 := X2.below b3
      have E3 := E2.below b3
      have HF : Hid (EOk fs ∧ ev fs = sqN (ev xs ^ (2 ^ (n / 2) - 1) % fp) (n / 2)) := ⟨hfk, by rw [hfv, HE1.out.2]⟩
      clear hfk hfv b3 B2 X2 E2 HR2 hr2
      have s3 := B3.size
      have hl3 := HR3.lt
      have hG3 : G < w3.heap.size := E3.1
      have HRN : Hid (RowW (w3.alloc (.cells #[.int .u64 0, .int .u64 0, .int .u64 0, .int .u64 0, .int .u64 0] 82)) w3.heap.size 82 [0, 0, 0, 0, 0]) := row0 w3
      go_wp2_with (first
        | (refine wpList_storeE rfl (.tmp 6) (.tmp 18) rfl w3.heap.size fs [0, 0, 0, 0, 0] rfl rfl HF.out.1.1 rfl HRN.out ?_)
        | fail)
      intro w4 hr4 hw4
      have b4 : Below w3.heap.size w3 w4 := (below_new2 _ _).trans (hw4.below (Nat.le_refl _))
      clear HRN
      have HR4 := HR3.below b4 hl3
      have B4 : Below w.heap.size w w4 := B3.trans (b4.mono s3)
      have X4 := X3.below b4
      have E4 := E3.below b4
      have F4 := EAt.of_row hr4 HF.out.1
      have hV : w.heap.size < w3.heap.size := by omega
      clear X3 E3 HR3 B3 b4 hw4
      generalize hVd : w3.heap.size = V at *
      clear hVd
      go_wp2_with fail
      refine (times_any V 0 G 0 fs es _ F4 E4).mono ?_
      rintro e w5 ⟨us, huk, huv, rfl, b5⟩
      have s4 := B4.size
      have HU : Hid (EOk us ∧ ev us = ev xs ^ (2 ^ (n / 2 + n / 2) - 1) % fp) := ⟨huk, by rw [huv, HF.out.2, HE1.out.2, ones_even]⟩
      have HR5 := HR4.below b5 HR4.lt
      have hrV := hr4.below b5 hr4.lt
      have B5 : Below w.heap.size w w5 := B4.trans (b5.mono s4)
      have X5 := X4.below b5
      have HFL : Hid (fs.length = 5) := HF.out.1.1
      clear huk huv b5 B4 X4 E4 F4 HR4 hr4
      have HRV : Hid (RowW w5 V 82 fs) := hrV
      clear hrV
      go_wp2_with (first
        | (refine wpList_storeE rfl (.tmp 6) (.tmp 19) rfl V us fs rfl rfl HU.out.1.1 HFL.out HRV.out ?_)
        | fail)
      intro w6 hr6 hw6
      have HR6 : RowW w6 w.heap.size 82 [0, 0, 0, 0, 0] := hw6.rowW HR5 (by omega)
      have B6 : Below w.heap.size w w6 := B5.trans (hw6.below (by omega))
      have X6 := X5.wr hw6 (by omega)
      have hr6' : RowW w6 V 82 us := hr6
      clear X5 HR5 B5 hw6 HRV hr6
      have hmod : (n : Int) % 2 = ((n % 2 : Nat) : Int) := by omega
      by_cases hodd : n % 2 = 1
      · have ho1 : (n : Int) % 2 = 1 := by omega
        have ho2 : (n : Int).tmod 2 = 1 := by rw [Int.tmod_eq_emod_of_nonneg (by omega)]; exact ho1
        have HNE : Hid (n / 2 + n / 2 + 1 = n) := by show _ = _; omega
        clear hmod hodd
        have U6 := EAt.of_row hr6' HU.out.1
        go_wp2_with fail
        refine (squared_any V 0 us 1 _ (by decide) U6).mono ?_
        rintro e w7 ⟨vs, hvk, hvv, rfl, b7⟩
        have s6 := B6.size
        have HV7 : Hid (EOk vs ∧ ev vs = sqN (ev xs ^ (2 ^ (n / 2 + n / 2) - 1) % fp) 1) := ⟨hvk, by rw [hvv, HU.out.2]⟩
        have HR7 := HR6.below b7 HR6.lt
        have HRV7 : Hid (RowW w7 V 82 us) := hr6'.below b7 hr6'.lt
        have B7 : Below w.heap.size w w7 := B6.trans (b7.mono s6)
        have X7 := X6.below b7
        have HUL : Hid (us.length = 5) := HU.out.1.1
        clear hvk hvv b7 U6 HR6 hr6' B6 X6
        go_wp2_with (first
          | (refine wpList_storeE rfl (.tmp 6) (.tmp 23) rfl V vs us rfl rfl HV7.out.1.1 HUL.out HRV7.out ?_)
          | fail)
        intro w8 hr8 hw8
        have HR8 : RowW w8 w.heap.size 82 [0, 0, 0, 0, 0] := hw8.rowW HR7 (by omega)
        have B8 : Below w.heap.size w w8 := B7.trans (hw8.below (by omega))
        have X8 := X7.wr hw8 (by omega)
        have V8 := EAt.of_row hr8 HV7.out.1
        clear HR7 B7 X7 hw8 HRV7
        go_wp2_with fail
        refine (times_any V 0 g o vs xs _ V8 X8).mono ?_
        rintro e wa ⟨ts, htk, htv, rfl, ba⟩
        have s8 := B8.size
        have HT : Hid (EOk ts ∧ ev ts = ev xs ^ (2 ^ n - 1) % fp) := ⟨htk, by rw [htv, HV7.out.2, ones_odd _ _ hev.1 hev.2, HNE.out]⟩
        have HRa := HR8.below ba HR8.lt
        have HRVa : Hid (RowW wa V 82 vs) := hr8.below ba hr8.lt
        have Ba : Below w.heap.size w wa := B8.trans (ba.mono s8)
        have HVL8 : Hid (vs.length = 5) := HV7.out.1.1
        clear htk htv ba V8 X8 HR8 B8 hr8
        go_wp2_with (first
          | (refine wpList_storeE rfl (.tmp 6) (.tmp 25) rfl V ts vs rfl rfl HT.out.1.1 HVL8.out HRVa.out ?_)
          | fail)
        intro wb hrb hwb
        have HRb : RowW wb w.heap.size 82 [0, 0, 0, 0, 0] := hwb.rowW HRa (by omega)
        have Bb : Below w.heap.size w wb := Ba.trans (hwb.below (by omega))
        clear HRa Ba hwb HRVa
        have HRES : Hid (RowW wb w.heap.size 82 [0, 0, 0, 0, 0]) := HRb
        have HBE : Hid (Below w.heap.size w wb) := Bb
        have HVL : Hid (EAt wb V 0 ts) := EAt.of_row hrb HT.out.1
        clear hrb HRb Bb
        go_wp2_with (first
          | (refine wpList_loadE rfl (.tmp 6) rfl V 0 ts rfl HVL.out ?_)
          | (refine wpList_storeE rfl (.tmp 4) (.tmp 26) rfl w.heap.size ts [0, 0, 0, 0, 0] rfl rfl HT.out.1.1 rfl HRES.out ?_)
          | fail)
        intro w9 hr9 hw9
        have HB9 : Hid (Below w.heap.size w w9) := HBE.out.trans (hw9.below (Nat.le_refl _))
        have HR9 : Hid (RowW w9 w.heap.size 82 ts) := hr9
        clear hr9 hw9 HRES HBE HVL
        go_wp2
        exact bodyPost_ret (v := .agg (ts.map (Value.int .u64)).toArray) (resE rfl _ _ w.heap.size ts HT.out.1.1 rfl HR9.out) rfl ⟨ts, HT.out.1, HT.out.2, rfl, HB9.out⟩
      · have ho1 : (n : Int) % 2 = 0 := by omega
        have ho2 : (n : Int).tmod 2 = 0 := by rw [Int.tmod_eq_emod_of_nonneg (by omega)]; exact ho1
        have HT : Hid (EOk us ∧ ev us = ev xs ^ (2 ^ n - 1) % fp) := ⟨HU.out.1, by rw [HU.out.2, show n / 2 + n / 2 = n by omega]⟩
        clear hmod hodd X6
        have HRES : Hid (RowW w6 w.heap.size 82 [0, 0, 0, 0, 0]) := HR6
        have HBE : Hid (Below w.heap.size w w6) := B6
        have HVL : Hid (EAt w6 V 0 us) := EAt.of_row hr6' HT.out.1
        clear hr6' HR6 B6
        go_wp2_with (first
          | (refine wpList_loadE rfl (.tmp 6) rfl V 0 us rfl HVL.out ?_)
          | (refine wpList_storeE rfl (.tmp 4) (.tmp 26) rfl w.heap.size us [0, 0, 0, 0, 0] rfl rfl HT.out.1.1 rfl HRES.out ?_)
          | fail)
        intro w9 hr9 hw9
        have HB9 : Hid (Below w.heap.size w w9) := HBE.out.trans (hw9.below (Nat.le_refl _))
        have HR9 : Hid (RowW w9 w.heap.size 82 us) := hr9
        clear hr9 hw9 HRES HBE HVL
        go_wp2
        exact bodyPost_ret (v := .agg (us.map (Value.int .u64)).toArray) (resE rfl _ _ w.heap.size us HT.out.1.1 rfl HR9.out) rfl ⟨us, HT.out.1, HT.out.2, rfl, HB9.out⟩
end Go.Proofs.Ythghkfncpdnpoac
