/-
  Own work: the laws' marks on lists of serials.
-/
import Derived.Test.YtmnoelfabldpfaaMSwD
import Derived.Test.YtmnoelfabldpfaaMark
import Derived.Test.YtmnoelfabldpfaaBase
namespace Go.Proofs.Ytmnoelfabldpfaa
open Go.ChangeShapes Go.WideShapes Go.ChangeAt Go.RowKit
set_option linter.unusedVariables false

def mks (k : Int) (n : Nat) : List Int := (List.range n).map (fun i : Nat => k + (i : Int))
theorem mks_len (k : Int) (n : Nat) : (mks k n).length = n := by simp [mks]
theorem mks_get (k : Int) (n i : Nat) (h : i < n) : (mks k n).getD i 0 = k + i := by simp [mks, h]

set_option maxHeartbeats 400000 in
theorem markI_any (a : Option Addr) (n cap : Nat) (k : Int) (w : World) (ho : Open w a n) (hk : 0 ≤ k) (hk' : k + n ≤ 1099511627776) :
    Calls Try.prog 44 #[.slice a n cap, .int .i64 k] w fun e w' => e = .returned (.int .i64 (k + n)) ∧ At .i64 w' a (mks k n) ∧ WrO a w w' := by
  go_enter Try.func44, Try.ntmps44
  go_wp2
  go_loopw [1, 5] (fun q i wr => ∃ j : Nat, j ≤ n ∧ i = .int .i64 j ∧ q = .int .i64 (k + j) ∧ WrO a w wr ∧
      (n = 0 ∨ ∃ g o, a = some ⟨g, o, none⟩ ∧ g < w.heap.size ∧ (∀ t, t < n → (wr.cell? ⟨g, o + t, none⟩).isSome = true ∧ wr.frozen? ⟨g, o + t, none⟩ = false) ∧ ∀ t, t < j → wr.cell? ⟨g, o + t, none⟩ = some (.int .i64 (k + (t : Int))))) (fun _ i _ => n - (intOf i).toNat)
  case atStart =>
    refine ⟨0, Nat.zero_le _, rfl, by simp, WrO.refl _ _, ?_⟩
    rcases ho with h | ⟨g, o, h1, h2, h3⟩
    · exact .inl h
    · exact .inr ⟨g, o, h1, h2, h3, fun t ht => by omega⟩
  case round =>
    obtain ⟨j, hj, rfl, rfl, hwr, hs⟩ := hrel
    by_cases hlt : j < n
    · rcases hs with h | ⟨g, o, rfl, hg, hc, hd⟩
      · omega
      · obtain ⟨hc1, hf1⟩ := hc j hlt
        obtain ⟨v0, hv0⟩ := Option.isSome_iff_exists.1 hc1
        have HW : Hid (WrO (some ⟨g, o, none⟩) w (wr.setCell ⟨g, o + j, none⟩ (.int .i64 (k + (j : Int))))) := hwr.setCell _ rfl _ _
        have HC : Hid (∀ t, t < n → ((wr.setCell ⟨g, o + j, none⟩ (.int .i64 (k + (j : Int)))).cell? ⟨g, o + t, none⟩).isSome = true ∧ (wr.setCell ⟨g, o + j, none⟩ (.int .i64 (k + (j : Int)))).frozen? ⟨g, o + t, none⟩ = false) := by
          intro t ht
          obtain ⟨u, hu⟩ := Option.isSome_iff_exists.1 (hc t ht).1
          obtain ⟨u', hu'⟩ := cell?_setCell_some (w := wr) (p := ⟨g, o + j, none⟩) (x := .int .i64 (k + (j : Int))) (q := ⟨g, o + t, none⟩) (v := u) hu
          refine ⟨by rw [hu']; rfl, ?_⟩
          rw [World.frozen?_setCell]; exact (hc t ht).2
        have HD : Hid (∀ t, t < j + 1 → (wr.setCell ⟨g, o + j, none⟩ (.int .i64 (k + (j : Int)))).cell? ⟨g, o + t, none⟩ = some (.int .i64 (k + (t : Int)))) := by
          intro t ht
          by_cases e : t = j
          · subst e; exact World.cell?_setCell_same _ _ _ hv0
          · rw [World.cell?_setCell_other _ _ _ _ (by simp; try omega)]; exact hd t (by omega)
        clear hc hd hwr ho hc1
        go_wp2
        go_roundw
        case rel => exact ⟨j + 1, by omega, by go_num, by go_num, HW.out, .inr ⟨g, o, rfl, hg, HC.out, HD.out⟩⟩
        case measure => simp [intOf]; omega
    · have hjn : j = n := by omega
      subst hjn
      have HA : Hid (At .i64 wr a (mks k j)) := by
        rcases hs with h | ⟨g, o, rfl, hg, hc, hd⟩
        · subst h; exact .inl rfl
        · exact .inr ⟨g, o, rfl, by rw [hwr.size]; exact hg, fun i hi => by rw [mks_len] at hi; rw [hd i hi, mks_get k j i hi]⟩
      clear hs ho
      go_wp2
      go_ret
      exact ⟨rfl, HA.out, hwr⟩

set_option maxHeartbeats 400000 in
theorem heldI_any (a : Option Addr) (n cap : Nat) (k : Int) (w : World) (ha : At .i64 w a (mks k n)) (hk : 0 ≤ k) (hk' : k + n ≤ 1099511627776) :
    Calls Try.prog 45 #[.slice a n cap, .int .i64 k] w fun e w' => e = .returned (.int .i64 (k + n)) ∧ w' = w := by
  go_enter Try.func45, Try.ntmps45
  go_wp2
  go_loop [1, 5] (fun q i => ∃ j : Nat, j ≤ n ∧ i = .int .i64 j ∧ q = .int .i64 (k + j)) (fun _ i => n - (intOf i).toNat)
  case atStart => exact ⟨0, Nat.zero_le _, rfl, by simp⟩
  case round =>
    obtain ⟨j, hj, rfl, rfl⟩ := hrel
    by_cases hlt : j < n
    · obtain ⟨b, off, rfl, hb, hc⟩ := ha.get (by rw [mks_len]; omega)
      have hcj := hc j (by rw [mks_len]; omega)
      rw [mks_get k n j hlt] at hcj
      have hne : ((k + (j : Int)) != (k + (j : Int))) = false := by simp
      clear hc ha
      go_wp2
      go_round
      case rel => exact ⟨j + 1, by omega, by go_num, by go_num⟩
      case measure => simp [intOf]; omega
    · have hjn : j = n := by omega
      subst hjn
      go_wp2
      go_ret
      exact ⟨rfl, rfl⟩
end Go.Proofs.Ytmnoelfabldpfaa
namespace Go.Proofs.Ytmnoelfabldpfaa
open Go.ChangeShapes Go.WideShapes Go.ChangeAt Go.RowKit
set_option linter.unusedVariables false
end Go.Proofs.Ytmnoelfabldpfaa
namespace Go.Proofs.Ytmnoelfabldpfaa
open Go.ChangeShapes Go.WideShapes Go.ChangeAt Go.RowKit
set_option linter.unusedVariables false
end Go.Proofs.Ytmnoelfabldpfaa
