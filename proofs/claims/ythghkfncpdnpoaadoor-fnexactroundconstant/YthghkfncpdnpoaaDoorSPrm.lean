/-
  Own work: the model's primes.
-/
import Derived.Test.YthghkfncpdnpoaaDoorBase
namespace Go.Proofs.YthghkfncpdnpoaaDoor
open Go.ChangeShapes Go.WideShapes Go.ChangeAt Go.RowKit
set_option linter.unusedVariables false

/-- Whether a number below 1024 is a prime. -/
def prm (n : Nat) : Bool := decide (2 ≤ n) && (List.range 32).all (fun d => decide (d < 2) || decide (n < d * d) || !decide (n % d = 0))
theorem prm_of {n d : Nat} (hd : 2 ≤ d) (h : n % d = 0) (hn : d * d ≤ n) (h32 : d < 32) : prm n = false := by
  unfold prm
  rw [Bool.and_eq_false_iff]; right
  rw [List.all_eq_false]
  refine ⟨d, List.mem_range.2 h32, ?_⟩
  simp [h]; omega
theorem prm_end {n : Nat} (d : Nat) (hn : n < d * d) (h : ∀ e, 2 ≤ e → e < d → n % e ≠ 0) : prm n = decide (2 ≤ n) := by
  unfold prm
  rw [List.all_eq_true.2 (fun e _ => ?_), Bool.and_true]
  by_cases h1 : e < 2
  · simp [h1]
  · by_cases h2 : e < d
    · have := h e (by omega) h2; simp [this]
    · have : n < e * e := Nat.lt_of_lt_of_le hn (Nat.mul_le_mul (by omega) (by omega))
      simp [this]

set_option maxHeartbeats 400000 in
theorem isPrm_any (n : Nat) (w : World) (hn : n < 1024) :
    Calls Tryd.prog 10 #[.int .u64 n] w fun e w' => e = .returned (.bool (prm n)) ∧ w' = w := by
  go_enter Tryd.func10, Tryd.ntmps10
  go_wp2
  go_loop [3] (fun i => ∃ d : Nat, i = .int .u64 d ∧ 2 ≤ d ∧ d ≤ 33 ∧ ∀ e, 2 ≤ e → e < d → n % e ≠ 0) (fun i => 33 - (intOf i).toNat)
  case atStart => exact ⟨2, rfl, by decide, by decide, fun e h1 h2 => by omega⟩
  case round =>
    obtain ⟨d, rfl, hd, hd', hall⟩ := hrel
    have hA : Hid (∀ e, 2 ≤ e → e < d → n % e ≠ 0) := hall
    clear hall
    by_cases hle : d * d ≤ n
    · have h32 : d < 32 := by
        rcases Nat.lt_or_ge d 32 with h | h
        · exact h
        · have := Nat.mul_le_mul h h; omega
      have hdd : d * d < 1024 := by omega
      have hle' : ((d : Int) * (d : Int)) ≤ (n : Int) := by rw [← Int.natCast_mul]; omega
      have hdd' : ((d : Int) * (d : Int)) < 1024 := by rw [← Int.natCast_mul]; omega
      have hdd0 : 0 ≤ ((d : Int) * (d : Int)) := Int.mul_nonneg (by omega) (by omega)
      by_cases hz : n % d = 0
      · have HP : Hid (prm n = false) := prm_of hd hz hle h32
        have hz' : (n : Int) % (d : Int) = 0 := by exact_mod_cast hz
        have hz2 : (n : Int).tmod (d : Int) = 0 := by rw [Int.tmod_eq_emod_of_nonneg (by omega)]; exact hz'
        have hne : ¬ (d : Int) = 0 := by omega
        clear hz hle
        go_wp2
        go_ret
        exact ⟨by rw [HP.out]; rfl, rfl⟩
      · have hz' : ¬ (n : Int) % (d : Int) = 0 := by rw [← Int.natCast_emod]; omega
        have hz2 : ¬ (n : Int).tmod (d : Int) = 0 := by rw [Int.tmod_eq_emod_of_nonneg (by omega)]; exact hz'
        have hz3 : ((n : Int) % (d : Int) == 0) = false := by simpa using hz'
        have hz4 : ((n : Int).tmod (d : Int) == 0) = false := by simpa using hz2
        have hne : ¬ (d : Int) = 0 := by omega
        have HN : Hid (∀ e, 2 ≤ e → e < d + 1 → n % e ≠ 0) := fun e h1 h2 => by
          rcases Nat.lt_or_ge e d with h | h
          · exact hA.out e h1 h
          · obtain rfl : e = d := by omega
            exact hz
        clear hle hA hz
        go_wp2
        go_round
        case rel => exact ⟨d + 1, by go_num, by omega, by omega, HN.out⟩
        case measure => simp [intOf]; omega
    · have HP : Hid (prm n = decide (2 ≤ n)) := prm_end d (by omega) hA.out
      have hdd : d * d ≤ 1089 := Nat.mul_le_mul hd' hd'
      have hgt : (n : Int) < ((d : Int) * (d : Int)) := by rw [← Int.natCast_mul]; omega
      have hgt' : ¬ ((d : Int) * (d : Int)) ≤ (n : Int) := by omega
      have hdd' : ((d : Int) * (d : Int)) ≤ 1089 := by rw [← Int.natCast_mul]; omega
      clear hle hA
      by_cases h2 : 2 ≤ n
      · have h2' : (2 : Int) ≤ (n : Int) := by omega
        have HP2 : Hid (prm n = true) := by show prm n = true; rw [HP.out]; simpa using h2
        go_wp2
        go_ret
        exact ⟨by rw [HP2.out]; rfl, rfl⟩
      · have h2' : ¬ (2 : Int) ≤ (n : Int) := by omega
        have HP2 : Hid (prm n = false) := by show prm n = false; rw [HP.out]; simpa using h2
        go_wp2
        go_ret
        exact ⟨by rw [HP2.out]; rfl, rfl⟩

def prs : List Nat := [2, 3, 5, 7, 11, 13, 17, 19, 23, 29, 31, 37, 41, 43, 47, 53, 59, 61, 67, 71, 73, 79, 83, 89, 97, 101, 103, 107, 109, 113, 127, 131, 137, 139, 149, 151, 157, 163, 167, 173, 179, 181, 191, 193, 197, 199, 211, 223, 227, 229, 233, 239, 241, 251, 257, 263, 269, 271, 277, 281, 283, 293, 307, 311, 313, 317, 331, 337, 347, 349, 353, 359, 367, 373, 379, 383, 389, 397, 401, 409]
def prs0 : List Nat := 1 :: prs
theorem prs_all : ∀ m < 410, prm m = prs.contains m := by decide +kernel
theorem prs_gap : ∀ k < 80, ∀ j < 80, ¬ (prs0.getD k 0 < prs.getD j 0 ∧ prs.getD j 0 < prs0.getD (k + 1) 0) := by decide +kernel
theorem prs_up : ∀ k < 80, prs0.getD k 0 < prs0.getD (k + 1) 0 ∧ prs0.getD (k + 1) 0 < 410 ∧ prs.contains (prs0.getD (k + 1) 0) = true := by decide +kernel
theorem prm_gap {k m : Nat} (hk : k < 80) (h1 : prs0.getD k 0 < m) (h2 : m < prs0.getD (k + 1) 0) : prm m = false := by
  have := (prs_up k hk).2.1
  rw [prs_all m (by omega)]
  cases h : prs.contains m with
  | false => rfl
  | true =>
    exfalso
    rw [List.contains_iff_mem] at h
    obtain ⟨j, hj, rfl⟩ := List.mem_iff_getElem.1 h
    have hj' : j < 80 := hj
    have := prs_gap k hk j hj'
    rw [List.getD_eq_getElem?_getD (l := prs), List.getElem?_eq_getElem hj] at this
    exact this ⟨h1, h2⟩
theorem prm_hit {k : Nat} (hk : k < 80) : prm (prs0.getD (k + 1) 0) = true := by
  have := prs_up k hk
  rw [prs_all _ this.2.1]; exact this.2.2

set_option maxHeartbeats 400000 in
theorem prime_any (t : Nat) (w : World) (ht : t < 80) :
    Calls Tryd.prog 7 #[.int .i64 t] w fun e w' => e = .returned (.int .u64 (prs0.getD (t + 1) 0 : Nat)) ∧ w' = w := by
  go_enter Tryd.func7, Tryd.ntmps7
  go_wp2
  go_loop [3, 4] (fun n i => ∃ k : Nat, k ≤ t + 1 ∧ i = .int .i64 k ∧ n = .int .u64 (prs0.getD k 0 : Nat)) (fun _ i => t + 1 - (intOf i).toNat)
  case atStart => exact ⟨0, Nat.zero_le _, rfl, rfl⟩
  case round =>
    obtain ⟨k, hk, rfl, rfl⟩ := hrel
    by_cases hlt : k < t + 1
    · obtain ⟨hu1, hu2, hu3⟩ := prs_up k (by omega)
      have HG : Hid (∀ m, prs0.getD k 0 < m → m < prs0.getD (k + 1) 0 → prm m = false) := fun m h1 h2 => prm_gap (by omega) h1 h2
      have HH : Hid (prm (prs0.getD (k + 1) 0) = true) := prm_hit (by omega)
      clear hu3
      generalize prs0.getD k 0 = p at *
      generalize hq : prs0.getD (k + 1) 0 = q at *
      have HQ : Hid (prs0.getD (k + 1) 0 = q) := hq
      clear hq
      go_wp2
      go_loop [3] (fun i => ∃ m : Nat, i = .int .u64 m ∧ p < m ∧ m ≤ q) (fun i => q - (intOf i).toNat)
      case atStart => exact ⟨p + 1, by go_num, by omega, by omega⟩
      case round =>
        obtain ⟨m, rfl, hm1, hm2⟩ := hrel
        by_cases hmq : m < q
        · have HF : Hid (prm m = false) := HG.out m hm1 hmq
          go_wp2_with fail
          refine (isPrm_any m _ (by omega)).mono ?_
          rintro e w1 ⟨rfl, rfl⟩
          rw [HF.out]
          go_wp2
          go_round
          case rel => exact ⟨m + 1, by go_num, by omega, by omega⟩
          case measure => simp [intOf]; omega
        · obtain rfl : m = q := by omega
          go_wp2_with fail
          refine (isPrm_any m _ (by omega)).mono ?_
          rintro e w1 ⟨rfl, rfl⟩
          rw [HH.out]
          go_wp2
          go_round
          case rel => exact ⟨k + 1, by omega, by go_num, by rw [HQ.out]⟩
          case measure => simp [intOf]; omega
    · obtain rfl : k = t + 1 := by omega
      go_wp2
      go_ret
      exact ⟨rfl, rfl⟩
end Go.Proofs.YthghkfncpdnpoaaDoor
