/-
  Own work: the used serials as bits, by the model.
-/
import Derived.Test.YthghkfncpdnpoacSnS
namespace Go.Proofs.Ythghkfncpdnpoac
open Go.ChangeShapes Go.WideShapes Go.ChangeAt Go.RowKit
set_option linter.unusedVariables false

/-- The upper n bits of byte k of a set of serials. -/
noncomputable def bv (xs : List Int) (k : Nat) : Nat → Int
  | 0 => 0
  | n + 1 => 2 * bv xs k n + (if memB (8 * (k : Int) + (7 - (n : Int))) xs = true then 1 else 0)
theorem bv_bd (xs : List Int) (k n : Nat) : 0 ≤ bv xs k n ∧ bv xs k n < 2 ^ n := by
  induction n with
  | zero => exact ⟨Int.le_refl _, by simp [bv]⟩
  | succ n ih =>
    simp only [bv, Int.pow_succ]
    split <;> omega
noncomputable def bitsL (xs : List Int) (k : Nat) : List Int := (List.range k).map (fun i => bv xs i 8)
theorem bitsL_succ (xs : List Int) (k : Nat) : bitsL xs (k + 1) = bitsL xs k ++ [bv xs k 8] := by unfold bitsL; rw [List.range_succ, List.map_append]; rfl
theorem bitsL_len (xs : List Int) (k : Nat) : (bitsL xs k).length = k := by simp [bitsL]
set_option maxRecDepth 100000 in
set_option maxHeartbeats 2000000 in
theorem bits_any (a : Option Addr) (n cap : Nat) (xs : List Int) (w : World) (hn : xs.length = n) (hm : n ≤ 1048576) (ha : At .i64 w a xs) :
    Calls Try.prog 74 #[.slice a n cap] w fun e w' => ∃ v, e = .returned v ∧ Own w' w.heap.size v (bitsL xs 32) ∧ Below w.heap.size w w' := by
  have HA : Hid (At .i64 w a xs) := ha
  have HN : Hid (xs.length = n) := hn
  have H0 : Hid (Own (w.alloc (.cells #[] 5)) w.heap.size (.slice (some ⟨w.heap.size, 0, none⟩) 0 0) (bitsL xs 0) ∧ Below w.heap.size w (w.alloc (.cells #[] 5))) := ⟨Own.empty _ _ (Nat.le_refl _), (Below.refl _ _).alloc (Nat.le_refl _) _⟩
  have HBV : Hid (∀ k m, bv xs k (m + 1) = 2 * bv xs k m + (if memB (8 * (k : Int) + (7 - (m : Int))) xs = true then 1 else 0)) := fun _ _ => rfl
  clear ha hn
  go_enter Try.func74, Try.ntmps74
  go_wp2_with fail
  go_loopw [3, 4] (fun v i wr => ∃ (k : Nat) (l : Value), k ≤ 32 ∧ i = .int .i64 k ∧ l = v ∧ Own wr w.heap.size l (bitsL xs k) ∧ Below w.heap.size w wr) (fun _ i _ => 32 - (intOf i).toNat)
  case atStart => exact ⟨0, _, Nat.zero_le _, rfl, rfl, H0.out.1, H0.out.2⟩
  case round =>
    clear H0
    obtain ⟨k, l, hk, rfl, rfl, hown, hbel⟩ := hrel
    by_cases hlt : k < 32
    · have hlt' : (k : Int) < 32 := by omega
      have HOW : Hid (Own wr w.heap.size l (bitsL xs k)) := hown
      have HBE : Hid (Below w.heap.size w wr) := hbel
      have hsz := hbel.size
      clear hown hbel
      go_wp2_with fail
      go_loop [5, 6] (fun q i => ∃ m : Nat, m ≤ 8 ∧ i = .int .i64 (7 - (m : Int)) ∧ q = .int .i64 (bv xs k m)) (fun _ i => (intOf i + 1).toNat)
      case atStart => exact ⟨0, by omega, rfl, rfl⟩
      case round =>
        obtain ⟨m, hm8, rfl, rfl⟩ := hrel
        have hbd := bv_bd xs k m
        have hp : (2 : Int) ^ m ≤ 256 := by
          have : (2 : Nat) ^ m ≤ 2 ^ 8 := Nat.pow_le_pow_right (by decide) hm8
          exact_mod_cast this
        by_cases h8 : m < 8
        · have h8' : (7 : Int) - m ≥ 0 := by omega
          have HS := HBV.out k m
          have HSS : Hid _ := HS
          clear HS
          generalize bv xs k m = y at *
          have hy0 : 0 ≤ y := hbd.1
          have hy1 : y < 256 := by omega
          clear hbd hp
          go_wp2_with fail
          refine (holds_any _ _ _ xs _ _ HN.out hm (HA.out.below HBE.out)).mono ?_
          rintro e w2 ⟨rfl, rfl⟩
          by_cases hmem : memB (8 * (k : Int) + (7 - (m : Int))) xs = true
          · have HE : Hid (bv xs k (m + 1) = 2 * y + 1) := by show _ = _; rw [HSS.out, if_pos hmem]
            rw [hmem]
            clear hmem HSS
            go_wp2
            go_round
            case rel => exact ⟨m + 1, by omega, by go_num, by rw [HE.out]⟩
            case measure => simp [intOf]; omega
          · have HE : Hid (bv xs k (m + 1) = 2 * y) := by show _ = _; rw [HSS.out, if_neg hmem]; omega
            rw [Bool.not_eq_true] at hmem
            rw [hmem]
            clear hmem HSS
            go_wp2
            go_round
            case rel => exact ⟨m + 1, by omega, by go_num, by rw [HE.out]⟩
            case measure => simp [intOf]; omega
        · have hme : m = 8 := by omega
          subst hme
          have h8' : ¬ ((7 : Int) - (8 : Nat) ≥ 0) := by omega
          have HSU : Hid (bitsL xs (k + 1) = bitsL xs k ++ [bv xs k 8]) := bitsL_succ xs k
          have HLE : Hid ((bitsL xs k).length + 1 ≤ 1099511627776) := by show _ ≤ _; rw [bitsL_len]; omega
          generalize bv xs k 8 = y at *
          have hy0 : 0 ≤ y := hbd.1
          have hy1 : y < 256 := by have := hbd.2; omega
          have hym : y % 256 = y := Int.emod_eq_of_lt hy0 hy1
          clear hbd hp
          have HOA : Hid (Own (wr.alloc (.cells #[.int .u8 y] 5)) w.heap.size l (bitsL xs k)) := HOW.out.alloc _
          have HSZ : Hid (w.heap.size ≤ (wr.alloc (.cells #[.int .u8 y] 5)).heap.size) := by show _ ≤ _; simp; omega
          have HNW : Hid (∀ i, i < 1 → (wr.alloc (.cells #[.int .u8 y] 5)).cell? ((⟨wr.heap.size, 0, none⟩ : Addr).add i) = some (.int .u8 ([y].getD i 0))) := by
            intro i hi
            obtain rfl : i = 0 := by omega
            rw [Addr.add_lit, Nat.zero_add, cell_of_row _ _ _ _ _ _ (heap_alloc_new wr _)]; rfl
          go_wp2_with (first
            | (at_builtin; refine wpList_app _ rfl (.tmp 26) (.tmp 29) rfl w.heap.size _ _ rfl HOA.out ⟨wr.heap.size, 0, none⟩ 1 1 [y] rfl rfl HNW.out HLE.out HSZ.out ?_)
            | fail)
          intro v' w3 hown' hbel' _
          have HO2 : Hid (Own w3 w.heap.size v' (bitsL xs (k + 1))) := by show Own _ _ _ _; rw [HSU.out]; exact hown'
          have HB2 : Hid (Below w.heap.size w w3) := (HBE.out.alloc hsz _).trans hbel'
          clear hown' hbel' HOW HBE HOA HNW HSZ HLE HSU
          go_wp2
          go_roundw
          case rel => exact ⟨k + 1, _, by omega, by go_num, rfl, HO2.out, HB2.out⟩
          case measure => simp [intOf]; omega
    · have hke : k = 32 := by omega
      subst hke
      have HO2 : Hid (Own wr w.heap.size l (bitsL xs 32)) := hown
      clear hown
      go_wp2
      go_ret
      exact ⟨_, rfl, HO2.out, hbel⟩
end Go.Proofs.Ythghkfncpdnpoac
