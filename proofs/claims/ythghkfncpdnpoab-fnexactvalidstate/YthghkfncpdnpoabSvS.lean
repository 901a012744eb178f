/-
  Own work: lists of serials, by the model.
-/
import Derived.Test.YthghkfncpdnpoabSvK
import Derived.BigQuiet
namespace Go.Proofs.Ythghkfncpdnpoab
open Go.ChangeShapes Go.WideShapes Go.ChangeAt Go.RowKit
set_option linter.unusedVariables false

theorem dN (w : World) (q p : Nat) : (w.drewN q).drewN p = w.drewN (q + p) := by simp [World.drewN, Nat.add_assoc]
open Classical in
noncomputable def memB (v : Int) (xs : List Int) : Bool := decide (v ∈ xs)
theorem memB_no {v : Int} {xs : List Int} (h : ¬ v ∈ xs) : memB v xs = false := by unfold memB; simp [h]
theorem memB_yes {v : Int} {xs : List Int} (h : v ∈ xs) : memB v xs = true := by unfold memB; simp [h]
theorem getD_mem {xs : List Int} {k : Nat} (h : k < xs.length) : xs.getD k 0 ∈ xs := by
  rw [List.getD_eq_getElem?_getD, List.getElem?_eq_getElem h]; exact List.getElem_mem h
set_option maxHeartbeats 1000000 in
theorem holds_any (a : Option Addr) (n cap : Nat) (xs : List Int) (v : Int) (w : World) (hn : xs.length = n) (hm : n ≤ 1048576) (ha : At .i64 w a xs) :
    Calls Try.prog 66 #[.slice a n cap, .int .i64 v] w fun e w' => e = .returned (.bool (memB v xs)) ∧ w' = w := by
  have HNX : Hid (xs.length = n) := hn
  have HA : Hid (At .i64 w a xs) := ha
  clear hn ha
  go_enter Try.func66, Try.ntmps66
  go_wp2
  go_loop [5] (fun i => ∃ k : Nat, k ≤ n ∧ i = .int .i64 k ∧ Hid (∀ j, j < k → xs.getD j 0 ≠ v)) (fun i => n - (intOf i).toNat)
  case atStart => exact ⟨0, Nat.zero_le _, rfl, fun j hj => by omega⟩
  case round =>
    obtain ⟨k, hk, rfl, hno⟩ := hrel
    by_cases hlt : k < n
    · have hlt' : (k : Int) < n := by omega
      obtain ⟨b, off, ea, hb, hc⟩ := HA.out.get (by have := HNX.out; omega)
      subst ea
      have hck := hc k (by have := HNX.out; omega)
      by_cases he : xs.getD k 0 = v
      · have HM : Hid (memB v xs = true) := memB_yes (by rw [← he]; exact getD_mem (by have := HNX.out; omega))
        rw [he] at hck
        clear hc he hb
        go_wp2
        go_ret
        exact ⟨by rw [HM.out]; rfl, rfl⟩
      · have HN : Hid (∀ j, j < k + 1 → xs.getD j 0 ≠ v) := fun j hj => by
          by_cases hjk : j < k
          · exact hno.out j hjk
          · have : j = k := by omega
            rw [this]; exact he
        have he' : (xs.getD k 0 == v) = false := by simpa using he
        clear hc hb hno he
        generalize xs.getD k 0 = x at *
        go_wp2
        go_round
        case rel => exact ⟨k + 1, by omega, by go_num, HN⟩
        case measure => simp [intOf]; omega
    · have hlt' : ¬ ((k : Int) < n) := by omega
      have HM : Hid (memB v xs = false) := memB_no (fun h => by
        obtain ⟨i, hi, rfl⟩ := List.getElem_of_mem h
        have := hno.out i (by have := HNX.out; omega)
        rw [List.getD_eq_getElem?_getD, List.getElem?_eq_getElem hi] at this
        exact this rfl)
      go_wp2
      go_ret
      exact ⟨by rw [HM.out]; rfl, rfl⟩
set_option maxHeartbeats 4000000 in
theorem serials_any (a : Option Addr) (n cap : Nat) (xs : List Int) (w : World) (hn : xs.length = n) (hm : n ≤ 1048576) (ha : At .i64 w a xs) :
    Calls Try.prog 65 #[.slice a n cap] w fun e w' => e = .returned (.bool (serB xs)) ∧ ∃ q, w' = w.drewN q := by
  have HNX : Hid (xs.length = n) := hn
  have HA : Hid (At .i64 w a xs) := ha
  clear hn ha
  go_enter Try.func65, Try.ntmps65
  go_wp2
  go_loopw [3] (fun i wr => ∃ k : Nat, k ≤ n ∧ i = .int .i64 k ∧ Hid (∀ j, j < k → okI xs j) ∧ Hid (∃ q, wr = w.drewN q)) (fun i _ => n - (intOf i).toNat)
  case atStart => exact ⟨0, Nat.zero_le _, rfl, fun j hj => by omega, ⟨0, rfl⟩⟩
  case round =>
    obtain ⟨k, hk, rfl, hno, hwq⟩ := hrel
    obtain ⟨q, rfl⟩ := hwq.out
    clear hwq
    by_cases hlt : k < n
    · have hlt' : (k : Int) < n := by omega
      obtain ⟨b, off, ea, hb, hc⟩ := HA.out.get (by have := HNX.out; omega)
      subst ea
      have hck := hc k (by have := HNX.out; omega)
      by_cases h0 : xs.getD k 0 < 0
      · have HS : Hid (serB xs = false) := serB_no (fun h => by have := (h k (by have := HNX.out; omega)).1; omega)
        clear hc hb hno
        generalize xs.getD k 0 = x at *
        go_wp2_with fail
        go_quiet (fail)
        go_wp2
        go_ret
        exact ⟨by rw [HS.out]; rfl, q + nq, dN _ _ _⟩
      · have h0' : decide (xs.getD k 0 < 0) = false := decide_eq_false h0
        by_cases h1 : 256 ≤ xs.getD k 0
        · have HS : Hid (serB xs = false) := serB_no (fun h => by have := (h k (by have := HNX.out; omega)).2.1; omega)
          clear hc hb hno h0
          generalize xs.getD k 0 = x at *
          go_wp2_with fail
          go_quiet (fail)
          go_wp2
          go_ret
          exact ⟨by rw [HS.out]; rfl, q + nq, dN _ _ _⟩
        · have h1' : decide (256 ≤ xs.getD k 0) = false := decide_eq_false h1
          by_cases hk0 : 0 < k
          · obtain ⟨m, rfl⟩ : ∃ m, k = m + 1 := ⟨k - 1, by omega⟩
            have hck1 := hc m (by have := HNX.out; omega)
            have hk0' : (0 : Int) < ((m + 1 : Nat) : Int) := by omega
            by_cases h2 : xs.getD (m + 1) 0 ≤ xs.getD m 0
            · have HS : Hid (serB xs = false) := serB_no (fun h => by have := (h (m + 1) (by have := HNX.out; omega)).2.2 (by omega); rw [Nat.add_sub_cancel] at this; omega)
              clear hc hb hno h0 h1 hk0
              generalize xs.getD (m + 1) 0 = x at *
              generalize xs.getD m 0 = y at *
              go_wp2_with fail
              go_quiet (fail)
              go_wp2
              go_ret
              exact ⟨by rw [HS.out]; rfl, q + nq, dN _ _ _⟩
            · have h2' : decide (xs.getD (m + 1) 0 ≤ xs.getD m 0) = false := decide_eq_false h2
              have HN : Hid (∀ j, j < m + 1 + 1 → okI xs j) := fun j hj => by
                by_cases hjk : j < m + 1
                · exact hno.out j hjk
                · have : j = m + 1 := by omega
                  rw [this]; exact ⟨by omega, by omega, fun _ => by rw [Nat.add_sub_cancel]; omega⟩
              clear hc hb hno h0 h1 hk0 h2
              generalize xs.getD (m + 1) 0 = x at *
              generalize xs.getD m 0 = y at *
              go_wp2_with fail
              go_quiet (fail)
              go_wp2
              go_roundw
              case rel => exact ⟨m + 1 + 1, by omega, by go_num, HN, ⟨q + nq, rfl⟩⟩
              case measure => simp [intOf]; omega
          · have hkd : decide (0 < k) = false := decide_eq_false (by omega)
            have HN : Hid (∀ j, j < k + 1 → okI xs j) := fun j hj => by
              have : j = k := by omega
              rw [this]; exact ⟨by omega, by omega, fun h => by omega⟩
            clear hc hb hno h0 h1 hk0
            generalize xs.getD k 0 = x at *
            go_wp2_with fail
            go_quiet (fail)
            go_wp2
            go_roundw
            case rel => exact ⟨k + 1, by omega, by go_num, HN, ⟨q + nq, rfl⟩⟩
            case measure => simp [intOf]; omega
    · have hlt' : ¬ ((k : Int) < n) := by omega
      have HS : Hid (serB xs = true) := serB_yes (fun i hi => hno.out i (by have := HNX.out; omega))
      go_wp2
      go_ret
      exact ⟨by rw [HS.out]; rfl, q, rfl⟩
end Go.Proofs.Ythghkfncpdnpoab
