/-
  Own work: the model's powers.
-/
import Derived.Test.YthghkfncpdnpoacSPow
namespace Go.Proofs.Ythghkfncpdnpoac
open Go.ChangeShapes Go.WideShapes Go.ChangeAt Go.RowKit
set_option linter.unusedVariables false



set_option maxHeartbeats 1000000 in
theorem pow1_any (a : Option Addr) (cap : Nat) (x : Int) (w : World) (ha : FeA w a x) :
    Calls Try.prog 94 #[.slice a 16 cap, .int .i64 1] w (FeP w (pwF x 5 3 251 252)) := by
  have HA : Hid (FeA w a x) := ha
  clear ha
  go_enter Try.func94, Try.ntmps94
  go_wp2_with fail
  refine (small_any 1 _ (by decide) (by decide)).mono ?_
  rintro e w1 ⟨g1, c1, rfl, hg1, hg1', hf1, hb1⟩
  have HS : Hid (PwS w (pwF x 5 3 251 0) (.slice (some ⟨g1, 0, none⟩) 16 c1) w1) := ⟨⟨g1, c1, rfl, hg1, hg1', hf1⟩, hb1⟩
  clear hf1 hb1
  go_wp2
  go_loopw [8, 9] (fun v i wr => ∃ j : Nat, j ≤ 252 ∧ i = .int .i64 ((j : Int) - 1) ∧ PwS w (pwF x 5 3 251 (252 - j)) v wr) (fun _ i _ => (intOf i + 1).toNat)
  case atStart => exact ⟨252, Nat.le_refl _, by go_num, HS.out⟩
  case round =>
    clear HS
    obtain ⟨j, hj, rfl, ⟨⟨g, c, rfl, hg, hg', hf⟩, hbel⟩⟩ := hrel
    by_cases hj0 : 0 < j
    · obtain ⟨j, rfl⟩ : ∃ i, j = i + 1 := ⟨j - 1, by omega⟩
      have ei : ((j + 1 : Nat) : Int) - 1 = (j : Int) := by omega
      rw [ei]
      clear ei
      have hstep : pwF x 5 3 251 (252 - j) = pstep x (pbit 5 3 j) (pwF x 5 3 251 (252 - (j + 1))) := by
        have e1 : 252 - j = (252 - (j + 1)) + 1 := by omega
        rw [e1, pwF]
        have e2 : 251 - (252 - (j + 1)) = j := by omega
        rw [e2]
      have HST : Hid (pwF x 5 3 251 (252 - j) = pstep x (pbit 5 3 j) (pwF x 5 3 251 (252 - (j + 1)))) := hstep
      clear hstep
      generalize pwF x 5 3 251 (252 - (j + 1)) = s at *
      have HF : Hid (FeA wr (some ⟨g, 0, none⟩) s) := hf
      have HB : Hid (Below w.heap.size w wr) := hbel
      clear hf hbel
      go_wp2_with fail
      refine (fmul_any _ _ c c s s _ HF.out HF.out).mono ?_
      rintro e w2 ⟨g2, c2, rfl, hg2, hg2', hf2, hb2⟩
      have HB2 : Hid (Below w.heap.size w w2) := HB.out.trans (hb2.mono HB.out.size)
      have HF2 : Hid (FeA w2 (some ⟨g2, 0, none⟩) (s * s % fp)) := hf2
      have HA2 : Hid (FeA w2 a x) := (HA.out.below HB.out).below hb2
      have hs := HB.out.size
      clear hf2 hb2 HF HB
      by_cases hge : 3 ≤ j
      · have hge' : (3 : Int) ≤ (j : Int) := by omega
        have hge2 : decide ((3 : Int) ≤ (j : Int)) = true := by simpa using hge'
        have HPS : Hid (pstep x (pbit 5 3 j) s = s * s % fp * x % fp) := by show _ = _; unfold pbit pstep; simp [hge]
        go_wp2_with fail
        refine (fmul_any _ _ c2 cap (s * s % fp) x _ HF2.out HA2.out).mono ?_
        rintro e w3 ⟨g3, c3, rfl, hg3, hg3', hf3, hb3⟩
        have HP : Hid (PwS w (pwF x 5 3 251 (252 - j)) (.slice (some ⟨g3, 0, none⟩) 16 c3) w3) := by
          rw [HST.out, HPS.out]
          exact ⟨⟨g3, c3, rfl, by have := HB2.out.size; omega, hg3', hf3⟩, HB2.out.trans (hb3.mono HB2.out.size)⟩
        clear hf3 hb3 HST HPS HB2 HF2 HA2
        go_wp2
        go_roundw
        case rel => exact ⟨j, by omega, rfl, HP.out⟩
        case measure => first | (simp [intOf]; done) | (simp [intOf]; omega)
      · have hge' : ¬ (3 : Int) ≤ (j : Int) := by omega
        have hge2 : decide ((3 : Int) ≤ (j : Int)) = false := by simpa using hge'
        by_cases hbit : 5 / 2 ^ j % 2 = 1
        · have HPS : Hid (pstep x (pbit 5 3 j) s = s * s % fp * x % fp) := by show _ = _; unfold pbit pstep; simp [hbit]
          have hb2 : ((5 : Int) / 2 ^ j).tmod 2 = 1 := by
            rw [Int.tmod_eq_emod_of_nonneg (Int.ediv_nonneg (by decide) (Int.pow_nonneg (by decide)))]
            have : (((5 / 2 ^ j % 2 : Nat)) : Int) = 1 := by rw [hbit]; rfl
            simpa using this
          have hb3 : ((5 : Int) / 2 ^ j) % 2 = 1 := by
            have : (((5 / 2 ^ j % 2 : Nat)) : Int) = 1 := by rw [hbit]; rfl
            simpa using this
          clear hbit
          go_wp2_with fail
          refine (fmul_any _ _ c2 cap (s * s % fp) x _ HF2.out HA2.out).mono ?_
          rintro e w3 ⟨g3, c3, rfl, hg3, hg3', hf3, hb3'⟩
          have HP : Hid (PwS w (pwF x 5 3 251 (252 - j)) (.slice (some ⟨g3, 0, none⟩) 16 c3) w3) := by
            rw [HST.out, HPS.out]
            exact ⟨⟨g3, c3, rfl, by have := HB2.out.size; omega, hg3', hf3⟩, HB2.out.trans (hb3'.mono HB2.out.size)⟩
          clear hf3 hb3' HST HPS HB2 HF2 HA2
          go_wp2
          go_roundw
          case rel => exact ⟨j, by omega, rfl, HP.out⟩
          case measure => first | (simp [intOf]; done) | (simp [intOf]; omega)
        · have HPS : Hid (pstep x (pbit 5 3 j) s = s * s % fp) := by show _ = _; unfold pbit pstep; simp [hge, hbit]
          have hbit0 : 5 / 2 ^ j % 2 = 0 := by omega
          have hb3 : ((5 : Int) / 2 ^ j) % 2 = 0 := by
            have : (((5 / 2 ^ j % 2 : Nat)) : Int) = 0 := by rw [hbit0]; rfl
            simpa using this
          have hb2 : ((5 : Int) / 2 ^ j).tmod 2 = 0 := by
            rw [Int.tmod_eq_emod_of_nonneg (Int.ediv_nonneg (by decide) (Int.pow_nonneg (by decide)))]; exact hb3
          clear hbit hbit0
          have HP : Hid (PwS w (pwF x 5 3 251 (252 - j)) (.slice (some ⟨g2, 0, none⟩) 16 c2) w2) := by
            rw [HST.out, HPS.out]
            exact ⟨⟨g2, c2, rfl, by omega, hg2', HF2.out⟩, HB2.out⟩
          clear HST HPS HB2 HF2 HA2
          go_wp2
          go_roundw
          case rel => exact ⟨j, by omega, rfl, HP.out⟩
          case measure => first | (simp [intOf]; done) | (simp [intOf]; omega)
    · obtain rfl : j = 0 := by omega
      have HP : Hid (FeP w (pwF x 5 3 251 252) (.returned (.slice (some ⟨g, 0, none⟩) 16 c)) wr) := ⟨g, c, rfl, hg, hg', hf, hbel⟩
      clear hf hbel
      go_wp2
      go_ret
      exact HP.out

set_option maxHeartbeats 1000000 in
theorem pow2_any (a : Option Addr) (cap : Nat) (x : Int) (w : World) (ha : FeA w a x) :
    Calls Try.prog 94 #[.slice a 16 cap, .int .i64 2] w (FeP w (pwF x 3 3 252 253)) := by
  have HA : Hid (FeA w a x) := ha
  clear ha
  go_enter Try.func94, Try.ntmps94
  go_wp2_with fail
  refine (small_any 1 _ (by decide) (by decide)).mono ?_
  rintro e w1 ⟨g1, c1, rfl, hg1, hg1', hf1, hb1⟩
  have HS : Hid (PwS w (pwF x 3 3 252 0) (.slice (some ⟨g1, 0, none⟩) 16 c1) w1) := ⟨⟨g1, c1, rfl, hg1, hg1', hf1⟩, hb1⟩
  clear hf1 hb1
  go_wp2
  go_loopw [8, 9] (fun v i wr => ∃ j : Nat, j ≤ 253 ∧ i = .int .i64 ((j : Int) - 1) ∧ PwS w (pwF x 3 3 252 (253 - j)) v wr) (fun _ i _ => (intOf i + 1).toNat)
  case atStart => exact ⟨253, Nat.le_refl _, by go_num, HS.out⟩
  case round =>
    clear HS
    obtain ⟨j, hj, rfl, ⟨⟨g, c, rfl, hg, hg', hf⟩, hbel⟩⟩ := hrel
    by_cases hj0 : 0 < j
    · obtain ⟨j, rfl⟩ : ∃ i, j = i + 1 := ⟨j - 1, by omega⟩
      have ei : ((j + 1 : Nat) : Int) - 1 = (j : Int) := by omega
      rw [ei]
      clear ei
      have hstep : pwF x 3 3 252 (253 - j) = pstep x (pbit 3 3 j) (pwF x 3 3 252 (253 - (j + 1))) := by
        have e1 : 253 - j = (253 - (j + 1)) + 1 := by omega
        rw [e1, pwF]
        have e2 : 252 - (253 - (j + 1)) = j := by omega
        rw [e2]
      have HST : Hid (pwF x 3 3 252 (253 - j) = pstep x (pbit 3 3 j) (pwF x 3 3 252 (253 - (j + 1)))) := hstep
      clear hstep
      generalize pwF x 3 3 252 (253 - (j + 1)) = s at *
      have HF : Hid (FeA wr (some ⟨g, 0, none⟩) s) := hf
      have HB : Hid (Below w.heap.size w wr) := hbel
      clear hf hbel
      go_wp2_with fail
      refine (fmul_any _ _ c c s s _ HF.out HF.out).mono ?_
      rintro e w2 ⟨g2, c2, rfl, hg2, hg2', hf2, hb2⟩
      have HB2 : Hid (Below w.heap.size w w2) := HB.out.trans (hb2.mono HB.out.size)
      have HF2 : Hid (FeA w2 (some ⟨g2, 0, none⟩) (s * s % fp)) := hf2
      have HA2 : Hid (FeA w2 a x) := (HA.out.below HB.out).below hb2
      have hs := HB.out.size
      clear hf2 hb2 HF HB
      by_cases hge : 3 ≤ j
      · have hge' : (3 : Int) ≤ (j : Int) := by omega
        have hge2 : decide ((3 : Int) ≤ (j : Int)) = true := by simpa using hge'
        have HPS : Hid (pstep x (pbit 3 3 j) s = s * s % fp * x % fp) := by show _ = _; unfold pbit pstep; simp [hge]
        go_wp2_with fail
        refine (fmul_any _ _ c2 cap (s * s % fp) x _ HF2.out HA2.out).mono ?_
        rintro e w3 ⟨g3, c3, rfl, hg3, hg3', hf3, hb3⟩
        have HP : Hid (PwS w (pwF x 3 3 252 (253 - j)) (.slice (some ⟨g3, 0, none⟩) 16 c3) w3) := by
          rw [HST.out, HPS.out]
          exact ⟨⟨g3, c3, rfl, by have := HB2.out.size; omega, hg3', hf3⟩, HB2.out.trans (hb3.mono HB2.out.size)⟩
        clear hf3 hb3 HST HPS HB2 HF2 HA2
        go_wp2
        go_roundw
        case rel => exact ⟨j, by omega, rfl, HP.out⟩
        case measure => first | (simp [intOf]; done) | (simp [intOf]; omega)
      · have hge' : ¬ (3 : Int) ≤ (j : Int) := by omega
        have hge2 : decide ((3 : Int) ≤ (j : Int)) = false := by simpa using hge'
        by_cases hbit : 3 / 2 ^ j % 2 = 1
        · have HPS : Hid (pstep x (pbit 3 3 j) s = s * s % fp * x % fp) := by show _ = _; unfold pbit pstep; simp [hbit]
          have hb2 : ((3 : Int) / 2 ^ j).tmod 2 = 1 := by
            rw [Int.tmod_eq_emod_of_nonneg (Int.ediv_nonneg (by decide) (Int.pow_nonneg (by decide)))]
            have : (((3 / 2 ^ j % 2 : Nat)) : Int) = 1 := by rw [hbit]; rfl
            simpa using this
          have hb3 : ((3 : Int) / 2 ^ j) % 2 = 1 := by
            have : (((3 / 2 ^ j % 2 : Nat)) : Int) = 1 := by rw [hbit]; rfl
            simpa using this
          clear hbit
          go_wp2_with fail
          refine (fmul_any _ _ c2 cap (s * s % fp) x _ HF2.out HA2.out).mono ?_
          rintro e w3 ⟨g3, c3, rfl, hg3, hg3', hf3, hb3'⟩
          have HP : Hid (PwS w (pwF x 3 3 252 (253 - j)) (.slice (some ⟨g3, 0, none⟩) 16 c3) w3) := by
            rw [HST.out, HPS.out]
            exact ⟨⟨g3, c3, rfl, by have := HB2.out.size; omega, hg3', hf3⟩, HB2.out.trans (hb3'.mono HB2.out.size)⟩
          clear hf3 hb3' HST HPS HB2 HF2 HA2
          go_wp2
          go_roundw
          case rel => exact ⟨j, by omega, rfl, HP.out⟩
          case measure => first | (simp [intOf]; done) | (simp [intOf]; omega)
        · have HPS : Hid (pstep x (pbit 3 3 j) s = s * s % fp) := by show _ = _; unfold pbit pstep; simp [hge, hbit]
          have hbit0 : 3 / 2 ^ j % 2 = 0 := by omega
          have hb3 : ((3 : Int) / 2 ^ j) % 2 = 0 := by
            have : (((3 / 2 ^ j % 2 : Nat)) : Int) = 0 := by rw [hbit0]; rfl
            simpa using this
          have hb2 : ((3 : Int) / 2 ^ j).tmod 2 = 0 := by
            rw [Int.tmod_eq_emod_of_nonneg (Int.ediv_nonneg (by decide) (Int.pow_nonneg (by decide)))]; exact hb3
          clear hbit hbit0
          have HP : Hid (PwS w (pwF x 3 3 252 (253 - j)) (.slice (some ⟨g2, 0, none⟩) 16 c2) w2) := by
            rw [HST.out, HPS.out]
            exact ⟨⟨g2, c2, rfl, by omega, hg2', HF2.out⟩, HB2.out⟩
          clear HST HPS HB2 HF2 HA2
          go_wp2
          go_roundw
          case rel => exact ⟨j, by omega, rfl, HP.out⟩
          case measure => first | (simp [intOf]; done) | (simp [intOf]; omega)
    · obtain rfl : j = 0 := by omega
      have HP : Hid (FeP w (pwF x 3 3 252 253) (.returned (.slice (some ⟨g, 0, none⟩) 16 c)) wr) := ⟨g, c, rfl, hg, hg', hf, hbel⟩
      clear hf hbel
      go_wp2
      go_ret
      exact HP.out
end Go.Proofs.Ythghkfncpdnpoac
