/-
  Own work: the model's roots.
-/
import Derived.Test.YthghkfncpdnpoaaDoorSAtm
import Derived.Test.YthghkfncpdnpoaaDoorSPrm
namespace Go.Proofs.YthghkfncpdnpoaaDoor
open Go.ChangeShapes Go.WideShapes Go.ChangeAt Go.RowKit
set_option linter.unusedVariables false

/-- What is known when the bits from j on are settled. -/
structure RI (p e j X : Nat) : Prop where
  lo : X ^ e ≤ p * 2 ^ (64 * e)
  hi : p * 2 ^ (64 * e) < (X + 2 ^ j) ^ e
  dvd : 2 ^ j ∣ X
  le : X + 2 ^ j ≤ 2 ^ 67

theorem RI.yes {p e j X : Nat} (h : RI p e (j + 1) X) (hy : (X + 2 ^ j) ^ e ≤ p * 2 ^ (64 * e)) : RI p e j (X + 2 ^ j) := by
  have e2 : 2 ^ (j + 1) = 2 ^ j + 2 ^ j := by rw [Nat.pow_succ]; omega
  refine ⟨hy, ?_, ?_, ?_⟩
  · have := h.hi; rw [e2, ← Nat.add_assoc] at this; exact this
  · exact Nat.dvd_add (Nat.dvd_trans ⟨2, by rw [Nat.pow_succ]⟩ h.dvd) (Nat.dvd_refl _)
  · have := h.le; omega
theorem RI.no {p e j X : Nat} (h : RI p e (j + 1) X) (hy : ¬ (X + 2 ^ j) ^ e ≤ p * 2 ^ (64 * e)) : RI p e j X := by
  have e2 : 2 ^ (j + 1) = 2 ^ j + 2 ^ j := by rw [Nat.pow_succ]; omega
  refine ⟨h.lo, by omega, Nat.dvd_trans ⟨2, by rw [Nat.pow_succ]⟩ h.dvd, by have := h.le; have : 0 < 2 ^ j := Nat.pow_pos (by decide); omega⟩

/-- The digit takes the bit. -/
theorem digit_room (X d : Nat) (j : Nat) (hd : X / 4294967296 ^ (j / 32) % 4294967296 = d) (hX : 2 ^ (j + 1) ∣ X) : d + 2 ^ (j % 32) < 4294967296 := by
  obtain ⟨t, rfl⟩ := hX
  have e1 : 2 ^ (j + 1) * t = 4294967296 ^ (j / 32) * (2 ^ (j % 32 + 1) * t) := by
    rw [show (4294967296 : Nat) = 2 ^ 32 from rfl, ← Nat.pow_mul, ← Nat.mul_assoc, ← Nat.pow_add]
    congr 2; omega
  rw [e1, Nat.mul_div_cancel_left _ (Nat.pow_pos (by decide))] at hd
  have hr : j % 32 < 32 := Nat.mod_lt _ (by decide)
  obtain ⟨q, hq⟩ : ∃ q, j % 32 + 1 + q = 32 := ⟨31 - j % 32, by omega⟩
  have e3 : (4294967296 : Nat) = 2 ^ (j % 32 + 1) * 2 ^ q := by rw [← Nat.pow_add, hq]
  rw [e3, Nat.mul_mod_mul_left] at hd
  have hlt : t % 2 ^ q < 2 ^ q := Nat.mod_lt _ (Nat.pow_pos (by decide))
  have h4 : 2 ^ (j % 32 + 1) * (t % 2 ^ q + 1) ≤ 2 ^ (j % 32 + 1) * 2 ^ q := Nat.mul_le_mul_left _ hlt
  rw [← e3, Nat.mul_add, Nat.mul_one, hd, Nat.pow_succ] at h4
  have : 0 < 2 ^ (j % 32) := Nat.pow_pos (by decide)
  omega

def RootPost (p e : Nat) (w : World) (en : Ending) (w' : World) : Prop :=
  ∃ X : Nat, en = .returned (.int .u64 ((X : Int) % 18446744073709551616)) ∧ X ^ e ≤ p * 2 ^ (64 * e) ∧ p * 2 ^ (64 * e) < (X + 1) ^ e ∧ Below w.heap.size w w'

structure RS (w : World) (p e j : Nat) (v : Value) (wr : World) : Prop where
  st : ∃ (xs : List Int) (X : Nat), OwnU wr w.heap.size v xs ∧ xs.length = 3 ∧ D32 xs ∧ val 4294967296 xs = X ∧ RI p e j X
  below : Below w.heap.size w wr

theorem pw32 (k : Nat) : (4294967296 : Int) ^ k = 2 ^ (32 * k) := by rw [show (4294967296 : Int) = 2 ^ 32 from by decide, ← Int.pow_mul]

set_option maxHeartbeats 1000000 in
theorem root_any (p e : Nat) (w : World) (hp : p ≤ 409) (he : (e = 2 ∧ p < 64) ∨ e = 3) :
    Calls Tryd.prog 6 #[.int .u64 p, .int .i64 e] w (RootPost p e w) := by
  have H0 : RI p e 67 0 := by
    refine ⟨?_, ?_, ⟨0, rfl⟩, by decide⟩
    · rcases he with ⟨rfl, _⟩ | rfl <;> simp
    · rcases he with ⟨rfl, h⟩ | rfl
      · rw [show (0 + 2 ^ 67) ^ 2 = 64 * 2 ^ (64 * 2) from by decide]
        exact Nat.mul_lt_mul_of_pos_right h (by decide)
      · rw [show (0 + 2 ^ 67) ^ 3 = 512 * 2 ^ (64 * 3) from by decide]
        exact Nat.mul_lt_mul_of_pos_right (by omega) (by decide)
  have HS : Hid (RS w p e 67 (.slice (some ⟨w.heap.size, 0, none⟩) 3 3) (w.alloc (.cells #[.int .u64 0, .int .u64 0, .int .u64 0] 22))) :=
    ⟨⟨[0, 0, 0], 0, OwnK.lit w _ [0, 0, 0] (Nat.le_refl _) (by decide), rfl, by unfold D32; decide, by decide, H0⟩, (Below.refl _ _).alloc (Nat.le_refl _) _⟩
  have he3 : e ≤ 3 := by omega
  have he0 : 2 ≤ e := by omega
  clear H0
  go_enter Tryd.func6, Tryd.ntmps6
  go_wp2
  go_loopw [5, 6] (fun v i wr => ∃ j : Nat, j ≤ 67 ∧ i = .int .i64 ((j : Int) - 1) ∧ RS w p e j v wr) (fun _ i _ => (intOf i + 1).toNat)
  case atStart => exact ⟨67, Nat.le_refl _, by go_num, HS.out⟩
  case round =>
    clear HS
    obtain ⟨j, hj, rfl, ⟨xs, X, hown, hxl, hxd, hxv, hri⟩, hbel⟩ := hrel
    by_cases hj0 : 0 < j
    · obtain ⟨j, rfl⟩ : ∃ i, j = i + 1 := ⟨j - 1, by omega⟩
      have ei : ((j + 1 : Nat) : Int) - 1 = (j : Int) := by omega
      rw [ei]
      clear ei
      obtain ⟨g, c, rfl, hg, hg', hA⟩ := hown.at_
      rw [hxl] at hown ⊢
      obtain ⟨_, _, hE, _, hcl⟩ := hA.get (by omega)
      cases hE
      have hsz := hbel.size
      -- the digit and the bit
      have hdg := val_digit (B := 4294967296) (by decide) hxd (j / 32)
      have hdr := hxd.get (j / 32)
      rw [hxv] at hdg
      have hdn : X / 4294967296 ^ (j / 32) % 4294967296 = (xs.getD (j / 32) 0).toNat := by
        have : ((X / 4294967296 ^ (j / 32) % 4294967296 : Nat) : Int) = xs.getD (j / 32) 0 := by rw [← hdg]; simp
        omega
      have hroom := digit_room X _ j hdn hri.dvd
      have hrm : xs.getD (j / 32) 0 + 2 ^ (j % 32) < 4294967296 := by
        have : ((2 ^ (j % 32) : Nat) : Int) = (2 : Int) ^ (j % 32) := by simp
        omega
      have h2p : (0 : Int) < 2 ^ (j % 32) := Int.pow_pos (by decide)
      have hys : val 4294967296 (xs.set (j / 32) (xs.getD (j / 32) 0 + 2 ^ (j % 32))) = ((X + 2 ^ j : Nat) : Int) := by
        rw [val_set _ _ _ _ (by omega), hxv]
        have : xs.getD (j / 32) 0 + 2 ^ (j % 32) - xs.getD (j / 32) 0 = (2 : Int) ^ (j % 32) := by omega
        rw [this, pw32, ← Int.pow_add]
        have : j % 32 + 32 * (j / 32) = j := by omega
        rw [this]; simp
      have HYD : Hid (D32 (xs.set (j / 32) (xs.getD (j / 32) 0 + 2 ^ (j % 32)))) := hxd.set _ _ (by omega) hrm
      have HYL : Hid ((xs.set (j / 32) (xs.getD (j / 32) 0 + 2 ^ (j % 32))).length = 3) := by rw [List.length_set]; exact hxl
      have HYV : Hid (val 4294967296 (xs.set (j / 32) (xs.getD (j / 32) 0 + 2 ^ (j % 32))) = ((X + 2 ^ j : Nat) : Int)) := hys
      have HRI : Hid (RI p e (j + 1) X) := hri
      have HX : Hid (xs.length = 3 ∧ D32 xs ∧ val 4294967296 xs = X) := ⟨hxl, hxd, hxv⟩
      have HO : Hid (OwnU wr w.heap.size (.slice (some ⟨g, 0, none⟩) 3 c) xs) := hown
      have HB : Hid (Below w.heap.size w wr) := hbel
      have HN : Hid (∀ i, i < 3 → (wr.alloc (.cells #[] 22)).cell? ((⟨g, 0, none⟩ : Addr).add i) = some (.int .u64 (xs.getD i 0))) := fun i hi => by
        rw [Addr.add_lit]
        rw [((Below.refl wr.heap.size wr).alloc (Nat.le_refl _) (.cells #[] 22)).cell (p := ⟨g, 0 + i, none⟩) hg']; exact hcl i (by omega)
      have HXL : Hid (xs.length = 3) := hxl
      clear hdg hdn hroom hys hri hown hbel hxd hxv hcl hA hxl
      go_wp2_with (at_builtin; refine wpList_appK _ ktU rfl _ _ rfl wr.heap.size _ [] rfl (OwnK.empty _ _ (Nat.le_refl _)) ⟨g, 0, none⟩ 3 _ xs rfl HXL.out HN.out ?c2 ?c3 ?_)
      case c2 => decide
      case c3 => simp
      intro v' w1 hown' hbel' _
      obtain ⟨g1, c1, rfl, hg1, hg1', _⟩ := hown'.at_
      rw [HXL.out] at hown' ⊢
      have hB1 : Below wr.heap.size wr w1 := ((Below.refl _ _).alloc (Nat.le_refl _) _).trans hbel'
      obtain ⟨cz, fz, oz⟩ := OwnK.set HXL.out hown' (j / 32) (xs.getD (j / 32) 0 + 2 ^ (j % 32)) (by omega)
      have HO2 : Hid (OwnU (w1.setCell ⟨g1, j / 32, none⟩ (.int .u64 (xs.getD (j / 32) 0 + 2 ^ (j % 32)))) wr.heap.size (.slice (some ⟨g1, 0, none⟩) 3 c1) (xs.set (j / 32) (xs.getD (j / 32) 0 + 2 ^ (j % 32)))) := oz
      have HB2 : Hid (Below wr.heap.size wr (w1.setCell ⟨g1, j / 32, none⟩ (.int .u64 (xs.getD (j / 32) 0 + 2 ^ (j % 32))))) := hB1.setCell hg1 _
      clear oz hown' hB1 hbel' HN
      obtain ⟨hd0, hd1⟩ := hdr
      generalize hdd : xs.getD (j / 32) 0 = d at *
      have hsh : IntKind.u64.wrap (1 * 2 ^ (j % 32)) = 2 ^ (j % 32) := by rw [Int.one_mul, IntKind.wrap_u64]; exact Int.emod_eq_of_lt (by omega) (by omega)
      have hsh' : IntKind.u64.wrap (2 ^ (j % 32)) = 2 ^ (j % 32) := by rw [IntKind.wrap_u64]; exact Int.emod_eq_of_lt (by omega) (by omega)
      have hj3 : (j : Int) / 32 < 3 := by omega
      clear hdd
      go_wp2_with fail
      have o2 := HO2.out
      have b2 := HB2.out
      have HDL := HX.out
      clear HO2 HB2 cz fz
      generalize hyy : xs.set (j / 32) (d + 2 ^ (j % 32)) = ys at *
      clear hyy
      generalize w1.setCell ⟨g1, j / 32, none⟩ (.int .u64 (d + 2 ^ (j % 32))) = w2 at *
      obtain ⟨hYA, _, _⟩ := o2.atS
      have HO9 : Hid (OwnU w2 wr.heap.size (.slice (some ⟨g1, 0, none⟩) 3 c1) ys) := o2
      have HO0 : Hid (OwnU w2 w.heap.size (.slice (some ⟨g, 0, none⟩) 3 c) xs) := HO.out.grow b2
      have HB9 : Hid (Below w.heap.size w w2) := HB.out.trans (b2.mono hsz)
      clear o2 b2 HO HB
      refine (mul_any _ _ 3 3 _ _ ys ys _ HYL.out HYL.out (by decide) (by decide) (by decide) (by decide) hYA hYA HYD.out HYD.out).mono ?_
      rintro en w3 ⟨v3, zs, rfl, O3, hzl, hzd, hzv, B3⟩
      obtain ⟨g3, c3, rfl, hg3, hg3', hZA⟩ := O3.at_
      rw [HYV.out] at hzv
      have hzl' : zs.length = 6 := by rw [hzl, HYL.out]
      have hYA3 := hYA.below B3
      have HO9' : Hid (OwnU w3 wr.heap.size (.slice (some ⟨g1, 0, none⟩) 3 c1) ys) := HO9.out.grow B3
      have HO0' : Hid (OwnU w3 w.heap.size (.slice (some ⟨g, 0, none⟩) 3 c) xs) := HO0.out.grow B3
      have HB9' : Hid (Below w.heap.size w w3) := HB9.out.trans (B3.mono HB9.out.size)
      have hsz9 := B3.size
      rw [hzl'] at O3 ⊢
      clear HO9 HO0 HB9 hYA O3 B3 hzl
      have HTT : Hid ((p : Int) * 4294967296 ^ (2 * e) = ((p * 2 ^ (64 * e) : Nat) : Int)) := by
        show _ = _
        rw [pw32, Int.natCast_mul, show 32 * (2 * e) = 64 * e by omega]; simp
      have h2e : ((2 * e : Nat) : Int) = 2 * (e : Int) := by omega
      rcases he with ⟨he2, hp2⟩ | he2
      · have hne : ((e : Int) == 3) = false := by rw [he2]; decide
        have HZV : Hid (val 4294967296 zs = (((X + 2 ^ j) ^ e : Nat) : Int)) := by
          show _ = _
          rw [he2, hzv, Nat.pow_succ, Nat.pow_succ, Nat.pow_zero, Nat.one_mul, Int.natCast_mul]
        clear hzv he2
        have hzl := hzl'
        clear hzl'
        go_wp2_with fail
        generalize hW : w3 = W9 at *
        clear hW
        generalize hc9 : c3 = c9 at *
        clear hc9
        have HO9 := HO9'
        have HO0 := HO0'
        have HB9 := HB9'
        clear HO9' HO0' HB9'
        by_cases hle : (X + 2 ^ j) ^ e ≤ p * 2 ^ (64 * e)
        · have HQ : Hid (decide (val 4294967296 zs ≤ (p : Int) * 4294967296 ^ (2 * e)) = true) := by
            show _ = _
            rw [HZV.out, HTT.out]
            have : (((X + 2 ^ j) ^ e : Nat) : Int) ≤ ((p * 2 ^ (64 * e) : Nat) : Int) := by exact Int.ofNat_le.2 hle
            simpa using this
          have HP : Hid (RS w p e j (.slice (some ⟨g1, 0, none⟩) 3 c1) W9) :=
            ⟨⟨_, _, (HO9.out.lower hsz), HYL.out, HYD.out, HYV.out, HRI.out.yes hle⟩, HB9.out⟩
          clear hle
          have A := atm_any _ _ c9 (2 * e) (p : Int) zs W9 hzl (by omega) (by omega) hZA hzd (by omega) (by omega)
          rw [h2e] at A
          refine A.mono ?_
          rintro en w5 ⟨rfl, rfl⟩
          rw [HQ.out]
          clear HQ A
          go_wp2
          go_roundw
          case rel => exact ⟨j, by omega, rfl, HP.out⟩
          case measure => first | (simp [intOf]; done) | (simp [intOf]; omega)
        · have HQ : Hid (decide (val 4294967296 zs ≤ (p : Int) * 4294967296 ^ (2 * e)) = false) := by
            show _ = _
            rw [HZV.out, HTT.out]
            have : ¬ (((X + 2 ^ j) ^ e : Nat) : Int) ≤ ((p * 2 ^ (64 * e) : Nat) : Int) := fun h => hle (Int.ofNat_le.1 h)
            simpa using this
          have HP : Hid (RS w p e j (.slice (some ⟨g, 0, none⟩) 3 c) W9) :=
            ⟨⟨xs, X, HO0.out, HX.out.1, HX.out.2.1, HX.out.2.2, HRI.out.no hle⟩, HB9.out⟩
          clear hle
          have A := atm_any _ _ c9 (2 * e) (p : Int) zs W9 hzl (by omega) (by omega) hZA hzd (by omega) (by omega)
          rw [h2e] at A
          refine A.mono ?_
          rintro en w5 ⟨rfl, rfl⟩
          rw [HQ.out]
          clear HQ A
          go_wp2
          go_roundw
          case rel => exact ⟨j, by omega, rfl, HP.out⟩
          case measure => first | (simp [intOf]; done) | (simp [intOf]; omega)
      · have hne : ((e : Int) == 3) = true := by rw [he2]; decide
        have HE : Hid (e = 3) := he2
        clear he2
        have hzl := hzl'
        clear hzl'
        go_wp2_with fail
        refine (mul_any _ _ 6 3 _ _ zs ys _ hzl HYL.out (by decide) (by decide) (by decide) (by decide) hZA hYA3 hzd HYD.out).mono ?_
        rintro en w4 ⟨v4, us, rfl, O4, hul, hud, huv, B4⟩
        obtain ⟨g4, c4, rfl, hg4, hg4', hUA⟩ := O4.at_
        rw [HYV.out, hzv] at huv
        have hul' : us.length = 9 := by rw [hul, hzl, HYL.out]
        have HO9 : Hid (OwnU w4 wr.heap.size (.slice (some ⟨g1, 0, none⟩) 3 c1) ys) := HO9'.out.grow B4
        have HO0 : Hid (OwnU w4 w.heap.size (.slice (some ⟨g, 0, none⟩) 3 c) xs) := HO0'.out.grow B4
        have HB9 : Hid (Below w.heap.size w w4) := HB9'.out.trans (B4.mono HB9'.out.size)
        rw [hul'] at O4 ⊢
        clear HO9' HO0' HB9' O4 B4 hul hzl hzd hzv hZA
        have hzl := hul'
        have hzd := hud
        have hZA := hUA
        clear hul' hud hUA
        have HZV : Hid (val 4294967296 us = (((X + 2 ^ j) ^ e : Nat) : Int)) := by
          show _ = _
          rw [HE.out, huv, Nat.pow_succ, Nat.pow_succ, Nat.pow_succ, Nat.pow_zero, Nat.one_mul, Int.natCast_mul, Int.natCast_mul]
        clear huv
        go_wp2_with fail
        generalize hW : w4 = W9 at *
        clear hW
        generalize hc9 : c4 = c9 at *
        clear hc9
        by_cases hle : (X + 2 ^ j) ^ e ≤ p * 2 ^ (64 * e)
        · have HQ : Hid (decide (val 4294967296 us ≤ (p : Int) * 4294967296 ^ (2 * e)) = true) := by
            show _ = _
            rw [HZV.out, HTT.out]
            have : (((X + 2 ^ j) ^ e : Nat) : Int) ≤ ((p * 2 ^ (64 * e) : Nat) : Int) := by exact Int.ofNat_le.2 hle
            simpa using this
          have HP : Hid (RS w p e j (.slice (some ⟨g1, 0, none⟩) 3 c1) W9) :=
            ⟨⟨_, _, (HO9.out.lower hsz), HYL.out, HYD.out, HYV.out, HRI.out.yes hle⟩, HB9.out⟩
          clear hle
          have A := atm_any _ _ c9 (2 * e) (p : Int) us W9 hzl (by omega) (by omega) hZA hzd (by omega) (by omega)
          rw [h2e] at A
          refine A.mono ?_
          rintro en w5 ⟨rfl, rfl⟩
          rw [HQ.out]
          clear HQ A
          go_wp2
          go_roundw
          case rel => exact ⟨j, by omega, rfl, HP.out⟩
          case measure => first | (simp [intOf]; done) | (simp [intOf]; omega)
        · have HQ : Hid (decide (val 4294967296 us ≤ (p : Int) * 4294967296 ^ (2 * e)) = false) := by
            show _ = _
            rw [HZV.out, HTT.out]
            have : ¬ (((X + 2 ^ j) ^ e : Nat) : Int) ≤ ((p * 2 ^ (64 * e) : Nat) : Int) := fun h => hle (Int.ofNat_le.1 h)
            simpa using this
          have HP : Hid (RS w p e j (.slice (some ⟨g, 0, none⟩) 3 c) W9) :=
            ⟨⟨xs, X, HO0.out, HX.out.1, HX.out.2.1, HX.out.2.2, HRI.out.no hle⟩, HB9.out⟩
          clear hle
          have A := atm_any _ _ c9 (2 * e) (p : Int) us W9 hzl (by omega) (by omega) hZA hzd (by omega) (by omega)
          rw [h2e] at A
          refine A.mono ?_
          rintro en w5 ⟨rfl, rfl⟩
          rw [HQ.out]
          clear HQ A
          go_wp2
          go_roundw
          case rel => exact ⟨j, by omega, rfl, HP.out⟩
          case measure => first | (simp [intOf]; done) | (simp [intOf]; omega)
    · obtain rfl : j = 0 := by omega
      obtain ⟨g, c, rfl, hg, hg', _⟩ := hown.at_
      rw [hxl] at hown ⊢
      have c0 := OwnK.cellAt hxl hown 0 (by decide)
      have c1 := OwnK.cellAt hxl hown 1 (by decide)
      have d0 := hxd.get 0
      have d1 := hxd.get 1
      have d2 := hxd.get 2
      have HX : Hid ((X : Int) % 18446744073709551616 = xs.getD 0 0 + xs.getD 1 0 * 4294967296) := by
        show _ = _
        rw [← hxv]
        match xs, hxl with
        | [a, b, d], _ =>
          simp only [List.getD_cons_zero, List.getD_cons_succ, val] at d0 d1 d2 ⊢
          omega
      have HP : Hid (X ^ e ≤ p * 2 ^ (64 * e) ∧ p * 2 ^ (64 * e) < (X + 1) ^ e) := ⟨hri.lo, by simpa using hri.hi⟩
      clear hri hxv hown hxd
      generalize xs.getD 0 0 = x0 at *
      generalize xs.getD 1 0 = x1 at *
      obtain ⟨d00, d01⟩ := d0
      obtain ⟨d10, d11⟩ := d1
      go_wp2
      go_quiet (fail)
      go_wp2
      go_ret
      refine ⟨X, ?_, HP.out.1, HP.out.2, ⟨hbel.os, hbel.tape, hbel.output, hbel.size, hbel.block⟩⟩
      rw [HX.out]; rfl
end Go.Proofs.YthghkfncpdnpoaaDoor
