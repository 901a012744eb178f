/-
  Own work: the model's comparison of a number of digits with p times a power.
-/
import Derived.Test.YthghkfncpdnpoaaDoorSMul
namespace Go.Proofs.YthghkfncpdnpoaaDoor
open Go.ChangeShapes Go.WideShapes Go.ChangeAt Go.RowKit
set_option linter.unusedVariables false

set_option maxHeartbeats 400000 in
theorem digit_any (a : Option Addr) (n cap i : Nat) (zs : List Int) (w : World) (hn : zs.length = n) (hm : n ≤ 4096) (hi : i ≤ 8192) (ha : At .u64 w a zs) :
    Calls Tryd.prog 11 #[.slice a n cap, .int .i64 i] w fun e w' => e = .returned (.int .u64 (zs.getD i 0)) ∧ w' = w := by
  by_cases h : i < n
  · obtain ⟨b, off, rfl, hb, hc⟩ := ha.get (by omega)
    have c0 := hc i (by omega)
    have h' : (i : Int) < (n : Int) := by omega
    generalize zs.getD i 0 = x at *
    clear hc
    go_enter Tryd.func11, Tryd.ntmps11
    go_wp2
    go_ret
    exact ⟨rfl, rfl⟩
  · have e : zs.getD i 0 = 0 := by rw [List.getD_eq_getElem?_getD, List.getElem?_eq_none (by omega)]; rfl
    rw [e]
    have h' : ¬ (i : Int) < (n : Int) := by omega
    go_enter Tryd.func11, Tryd.ntmps11
    go_wp2
    go_ret
    exact ⟨rfl, rfl⟩

theorem want_digit (B p : Int) (k i : Nat) (hB : 1 < B) (h0 : 0 ≤ p) (h1 : p < B) : p * B ^ k / B ^ i % B = if i = k then p else 0 := by
  have hp : ∀ j : Nat, (0 : Int) < B ^ j := fun j => Int.pow_pos (by omega)
  by_cases h : i = k
  · subst h
    rw [if_pos rfl, Int.mul_ediv_cancel _ (Int.ne_of_gt (hp i))]; exact Int.emod_eq_of_lt h0 h1
  · rw [if_neg h]
    rcases Nat.lt_or_gt_of_ne h with hl | hg
    · obtain ⟨d, rfl⟩ : ∃ d, k = i + 1 + d := ⟨k - i - 1, by omega⟩
      have e : p * B ^ (i + 1 + d) = (p * B ^ d * B) * B ^ i := by rw [Int.pow_add, Int.pow_succ]; grind
      rw [e, Int.mul_ediv_cancel _ (Int.ne_of_gt (hp i)), Int.mul_emod_left]
    · have hlt : p * B ^ k < B ^ i := by
        obtain ⟨d, rfl⟩ : ∃ d, i = k + 1 + d := ⟨i - k - 1, by omega⟩
        have a1 : p * B ^ k < B * B ^ k := Int.mul_lt_mul_of_pos_right h1 (hp k)
        have a2 : B * B ^ k ≤ B ^ (k + 1 + d) := by
          have : B ^ (k + 1 + d) = B * B ^ k * B ^ d := by rw [Int.pow_add, Int.pow_succ]; grind
          rw [this]
          have h3 : B * B ^ k * 1 ≤ B * B ^ k * B ^ d := Int.mul_le_mul_of_nonneg_left (by have := hp d; omega) (Int.mul_nonneg (by omega) (Int.le_of_lt (hp k)))
          omega
        omega
      rw [Int.ediv_eq_zero_of_lt (Int.mul_nonneg h0 (Int.le_of_lt (hp k))) hlt]; rfl

theorem high_step {A T P B : Int} (hB : 0 < B) (hP : 0 < P) (h : A / (P * B) = T / (P * B)) : (A / P % B = T / P % B → A / P = T / P) ∧ (A / P % B < T / P % B → A < T) ∧ (T / P % B < A / P % B → T < A) := by
  have e1 := Int.emod_add_mul_ediv (A / P) B
  have e2 := Int.emod_add_mul_ediv (T / P) B
  rw [Int.ediv_ediv_of_nonneg (Int.le_of_lt hP)] at e1 e2
  rw [h] at e1
  have lt : ∀ X Y : Int, X / P < Y / P → X < Y := fun X Y hh => by
    rcases Int.lt_or_le X Y with h' | h'
    · exact h'
    · have := Int.ediv_le_ediv hP h'; omega
  refine ⟨fun hh => ?_, fun hh => lt _ _ ?_, fun hh => lt _ _ ?_⟩
  · rw [← e1, ← e2, hh]
  · generalize B * (T / (P * B)) = z at *; omega
  · generalize B * (T / (P * B)) = z at *; omega

set_option maxHeartbeats 1000000 in
theorem atm_any (a : Option Addr) (n cap k : Nat) (p : Int) (zs : List Int) (w : World) (hn : zs.length = n) (hm : n ≤ 4096) (hk : k ≤ 1024) (ha : At .u64 w a zs) (hz : D32 zs) (hp0 : 0 ≤ p) (hp1 : p < 4294967296) :
    Calls Tryd.prog 9 #[.slice a n cap, .int .u64 p, .int .i64 k] w fun e w' => e = .returned (.bool (decide (val 4294967296 zs ≤ p * 4294967296 ^ k))) ∧ w' = w := by
  have hA0 : 0 ≤ val 4294967296 zs := val_nonneg (by decide) hz
  have hA1 : val 4294967296 zs < 4294967296 ^ n := by rw [← hn]; exact val_lt (by decide) hz
  have hpw : ∀ j : Nat, (0 : Int) < 4294967296 ^ j := fun j => Int.pow_pos (by decide)
  have HW : Hid (∀ j : Nat, (0 : Int) < 4294967296 ^ j) := hpw
  have HT : Hid (val 4294967296 zs / 4294967296 ^ (n + k + 1) = p * 4294967296 ^ k / 4294967296 ^ (n + k + 1)) := by
    show _ = _
    rw [Int.ediv_eq_zero_of_lt hA0, Int.ediv_eq_zero_of_lt (Int.mul_nonneg hp0 (Int.le_of_lt (hpw k)))]
    · have e : (4294967296 : Int) ^ (n + k + 1) = 4294967296 * 4294967296 ^ k * 4294967296 ^ n := by rw [show n + k + 1 = n + (k + 1) by omega, Int.pow_add, Int.pow_succ]; grind
      have a1 : p * 4294967296 ^ k < 4294967296 * 4294967296 ^ k := Int.mul_lt_mul_of_pos_right hp1 (hpw k)
      have a2 : 4294967296 * 4294967296 ^ k * 1 ≤ 4294967296 * 4294967296 ^ k * (4294967296 : Int) ^ n := Int.mul_le_mul_of_nonneg_left (by have := hpw n; omega) (Int.mul_nonneg (by decide) (Int.le_of_lt (hpw k)))
      rw [e]; omega
    · have e : (4294967296 : Int) ^ (n + k + 1) = 4294967296 ^ n * 4294967296 ^ (k + 1) := by rw [show n + k + 1 = n + (k + 1) by omega, Int.pow_add]
      have a2 : 4294967296 ^ n * 1 ≤ 4294967296 ^ n * (4294967296 : Int) ^ (k + 1) := Int.mul_le_mul_of_nonneg_left (by have := hpw (k + 1); omega) (Int.le_of_lt (hpw n))
      rw [e]; omega
  clear hA0 hA1 hpw
  go_enter Tryd.func9, Tryd.ntmps9
  go_wp2
  go_loop [7] (fun i => ∃ j : Nat, j ≤ n + k + 1 ∧ i = .int .i64 ((j : Int) - 1) ∧ val 4294967296 zs / 4294967296 ^ j = p * 4294967296 ^ k / 4294967296 ^ j) (fun i => (intOf i + 1).toNat)
  case atStart => exact ⟨n + k + 1, Nat.le_refl _, by go_num, HT.out⟩
  case round =>
    clear HT
    obtain ⟨j, hj, rfl, hv⟩ := hrel
    by_cases hj0 : 0 < j
    · obtain ⟨j, rfl⟩ : ∃ i, j = i + 1 := ⟨j - 1, by omega⟩
      have ei : ((j + 1 : Nat) : Int) - 1 = (j : Int) := by omega
      rw [ei]
      clear ei
      rw [Int.pow_succ] at hv
      obtain ⟨g1, g2, g3⟩ := high_step (by decide) (HW.out j) hv
      rw [val_digit (by decide) hz, want_digit _ _ _ _ (by decide) hp0 hp1] at g1 g2 g3
      have HD := hz.get j
      have H1 : Hid (zs.getD j 0 = (if j = k then p else 0) → val 4294967296 zs / 4294967296 ^ j = p * 4294967296 ^ k / 4294967296 ^ j) := g1
      have H2 : Hid (zs.getD j 0 < (if j = k then p else 0) → val 4294967296 zs < p * 4294967296 ^ k) := g2
      have H3 : Hid ((if j = k then p else 0) < zs.getD j 0 → p * 4294967296 ^ k < val 4294967296 zs) := g3
      have HA : Hid (At .u64 w a zs) := ha
      clear hv g1 g2 g3
      generalize hd : zs.getD j 0 = d at *
      have HG : Hid (zs.getD j 0 = d) := hd
      obtain ⟨hd0, hd1⟩ := HD
      clear hd ha
      by_cases hjk : j = k
      · subst hjk
        rw [if_pos rfl] at H1 H2 H3
        have hjk' : ((j : Int) == (j : Int)) = true := by simp
        have hfin : ∀ q : Bool, (q = decide (d < p)) → d ≠ p → q = decide (val 4294967296 zs ≤ p * 4294967296 ^ j) := fun q hq hne => by
          rw [hq]
          by_cases hlt : d < p
          · have := H2.out hlt
            have h' : val 4294967296 zs ≤ p * 4294967296 ^ j := by omega
            simp [hlt, h']
          · have := H3.out (by omega)
            have h' : ¬ val 4294967296 zs ≤ p * 4294967296 ^ j := by omega
            simp [hlt, h']
        have HF : Hid (∀ q : Bool, (q = decide (d < p)) → d ≠ p → q = decide (val 4294967296 zs ≤ p * 4294967296 ^ j)) := hfin
        clear hfin H2 H3
        go_wp2_with fail
        refine (digit_any a n cap j zs _ hn hm (by omega) HA.out).mono ?_
        rintro e w1 ⟨rfl, rfl⟩
        rw [HG.out]
        by_cases hdw : d = p
        · have HE := H1.out hdw
          have HV : Hid (val 4294967296 zs / 4294967296 ^ j = p * 4294967296 ^ j / 4294967296 ^ j) := HE
          have hdw' : (d != p) = false := by simpa using hdw
          have hdw2 : (d == p) = true := by simpa using hdw
          clear HE HF H1 hdw
          go_wp2
          go_round
          case rel => exact ⟨j, by omega, rfl, HV.out⟩
          case measure => first | (simp [intOf]; done) | (simp [intOf]; omega)
        · have hdw' : (d != p) = true := by simpa using hdw
          have HN : Hid (d ≠ p) := hdw
          clear hdw H1
          go_wp2_with fail
          refine (digit_any a n cap j zs _ hn hm (by omega) HA.out).mono ?_
          rintro e w2 ⟨rfl, rfl⟩
          rw [HG.out]
          obtain ⟨q, hq⟩ : ∃ q, q = decide (d < p) := ⟨_, rfl⟩
          have HQ : Hid (q = decide (val 4294967296 zs ≤ p * 4294967296 ^ j)) := HF.out q hq HN.out
          have hq' : decide (d < p) = q := hq.symm
          clear hq HF
          by_cases hlt : d < p
          · obtain rfl : q = true := by rw [← hq']; simpa using hlt
            clear hq'
            go_wp2
            go_ret
            exact ⟨by rw [← HQ.out]; rfl, rfl⟩
          · obtain rfl : q = false := by rw [← hq']; simpa using hlt
            have HD : Hid (decide (d < p) = false) := hq'
            clear hq'
            go_wp2
            go_ret
            refine ⟨?_, rfl⟩
            show Ending.returned (.bool (decide (d < p))) = _
            rw [HD.out, ← HQ.out]
      · rw [if_neg hjk] at H1 H2 H3
        have hjk' : ((j : Int) == (k : Int)) = false := by simp; omega
        have hfin : ∀ q : Bool, (q = decide (d < 0)) → d ≠ 0 → q = decide (val 4294967296 zs ≤ p * 4294967296 ^ k) := fun q hq hne => by
          rw [hq]
          by_cases hlt : d < 0
          · have := H2.out hlt
            have h' : val 4294967296 zs ≤ p * 4294967296 ^ k := by omega
            simp [hlt, h']
          · have := H3.out (by omega)
            have h' : ¬ val 4294967296 zs ≤ p * 4294967296 ^ k := by omega
            simp [hlt, h']
        have HF : Hid (∀ q : Bool, (q = decide (d < 0)) → d ≠ 0 → q = decide (val 4294967296 zs ≤ p * 4294967296 ^ k)) := hfin
        clear hfin H2 H3
        go_wp2_with fail
        refine (digit_any a n cap j zs _ hn hm (by omega) HA.out).mono ?_
        rintro e w1 ⟨rfl, rfl⟩
        rw [HG.out]
        by_cases hdw : d = 0
        · have HE := H1.out hdw
          have HV : Hid (val 4294967296 zs / 4294967296 ^ j = p * 4294967296 ^ k / 4294967296 ^ j) := HE
          have hdw' : (d != 0) = false := by simpa using hdw
          have hdw2 : (d == 0) = true := by simpa using hdw
          clear HE HF H1 hdw
          go_wp2
          go_round
          case rel => exact ⟨j, by omega, rfl, HV.out⟩
          case measure => first | (simp [intOf]; done) | (simp [intOf]; omega)
        · have hdw' : (d != 0) = true := by simpa using hdw
          have HN : Hid (d ≠ 0) := hdw
          clear hdw H1
          go_wp2_with fail
          refine (digit_any a n cap j zs _ hn hm (by omega) HA.out).mono ?_
          rintro e w2 ⟨rfl, rfl⟩
          rw [HG.out]
          obtain ⟨q, hq⟩ : ∃ q, q = decide (d < 0) := ⟨_, rfl⟩
          have HQ : Hid (q = decide (val 4294967296 zs ≤ p * 4294967296 ^ k)) := HF.out q hq HN.out
          have hq' : decide (d < 0) = q := hq.symm
          clear hq HF
          by_cases hlt : d < 0
          · obtain rfl : q = true := by rw [← hq']; simpa using hlt
            clear hq'
            go_wp2
            go_ret
            exact ⟨by rw [← HQ.out]; rfl, rfl⟩
          · obtain rfl : q = false := by rw [← hq']; simpa using hlt
            have HD : Hid (decide (d < 0) = false) := hq'
            clear hq'
            go_wp2
            go_ret
            refine ⟨?_, rfl⟩
            show Ending.returned (.bool (decide (d < 0))) = _
            rw [HD.out, ← HQ.out]
    · obtain rfl : j = 0 := by omega
      rw [Int.pow_zero, Int.ediv_one, Int.ediv_one] at hv
      have HE : Hid (decide (val 4294967296 zs ≤ p * 4294967296 ^ k) = true) := by show _ = _; rw [hv]; simp
      clear hv
      go_wp2
      go_ret
      exact ⟨by rw [HE.out]; rfl, rfl⟩
end Go.Proofs.YthghkfncpdnpoaaDoor
