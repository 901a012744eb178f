/-
  Own work: settle and carry.
-/
import Derived.Test.YthghkfncpdnpoacWrd
import Derived.Test.YthghkfncpdnpoacEl
import Derived.BigRegion
namespace Go.Proofs.Ythghkfncpdnpoac
open Go.ChangeShapes Go.WideShapes Go.ChangeAt Go.RowKit
set_option linter.unusedVariables false

def U62 (xs : List Int) : Prop := ∀ i, 0 ≤ xs.getD i 0 ∧ xs.getD i 0 < 9223372036854775808
structure StS (w : World) (g : Nat) (zs : List Int) (wr : World) : Prop where
  row : RowW wr g 82 zs
  wr : Wr g w wr
theorem StS.set {w : World} {g : Nat} {zs : List Int} {wr : World} (h : StS w g zs wr) (k : Nat) (x : Int) : StS w g (zs.set k x) ((wr.setCell ⟨g, k, none⟩ (.int .u64 x)).drew) :=
  ⟨h.row.set k x, (h.wr.setCell k _).drew⟩

set_option maxHeartbeats 1000000 in
theorem settle_any (g : Nat) (xs : List Int) (w : World) (hl : xs.length = 5) (hr : RowW w g 82 xs) (hx : U62 xs) :
    Calls Try.prog 123 #[.pointer (some ⟨g, 0, none⟩)] w fun e w' => e = .returned (.int .u64 (gcy B51 xs 5)) ∧ StS w g (sst xs 5) w' := by
  have HC : Hid (∀ i, 0 ≤ gcy B51 xs i ∧ gcy B51 xs i ≤ 4096) := fun i => gcy_le (M := 9223372036854775808) hx (by decide) (by decide) i
  have HX : Hid (U62 xs) := hx
  have HS : Hid (StS w g (sst xs 0) w) := ⟨by rw [sst_zero xs hl]; exact hr, Wr.refl _ _⟩
  clear hx hr
  go_enter Try.func123, Try.ntmps123
  go_wp2
  go_loopw [3, 5] (fun c i wr => ∃ k : Nat, k ≤ 5 ∧ i = .int .i64 k ∧ c = .int .u64 (gcy B51 xs k) ∧ StS w g (sst xs k) wr) (fun _ i _ => 5 - (intOf i).toNat)
  case atStart => exact ⟨0, by decide, rfl, rfl, HS.out⟩
  case round =>
    clear HS
    obtain ⟨k, hk, rfl, rfl, hst⟩ := hrel
    by_cases hlt : k < 5
    · have hlt' : (k : Int) < 5 := by omega
      obtain ⟨hc0, hc1⟩ := HC.out k
      obtain ⟨hx0, hx1⟩ := HX.out k
      have hget : (sst xs k).getD k 0 = xs.getD k 0 := by rw [sst_get _ _ _ hlt]; simp [sdig]
      have hlen := sst_len xs k
      have c0 := hst.row.cell k (by omega)
      have f0 := hst.row.frozen k
      rw [hget] at c0
      have s1 := hst.set k (xs.getD k 0 + gcy B51 xs k)
      have c1 := s1.row.cell k (by rw [List.length_set]; omega)
      have f1 := s1.row.frozen k
      rw [getD_set_eq _ _ _ _ (by omega), if_pos rfl] at c1
      have s2 := s1.set k ((xs.getD k 0 + gcy B51 xs k) % B51)
      rw [List.set_set, sst_step xs k hlt] at s2
      have HS2 : Hid (StS w g (sst xs (k + 1)) ((((wr.setCell ⟨g, k, none⟩ (.int .u64 (xs.getD k 0 + gcy B51 xs k))).drew).setCell ⟨g, k, none⟩ (.int .u64 ((xs.getD k 0 + gcy B51 xs k) % B51))).drew)) := s2
      have HCS : Hid (gcy B51 xs (k + 1) = (xs.getD k 0 + gcy B51 xs k) / 2251799813685248) := rfl
      have HAND : Hid (bits .and .u64 (xs.getD k 0 + gcy B51 xs k) 2251799813685247 = (xs.getD k 0 + gcy B51 xs k) % B51) := u64_and_mask _ 51 (by omega) (by omega) _ (by decide) (by decide)
      clear hget hlen s1 s2 hst
      generalize gcy B51 xs k = cc at *
      generalize xs.getD k 0 = x at *
      go_wp2
      go_region
      clear c0 f0
      generalize (wr.setCell ⟨g, k, none⟩ (.int .u64 (x + cc))).drew = w1 at *
      go_wp2
      go_region
      rw [HAND.out]
      clear c1 f1
      generalize (w1.setCell ⟨g, k, none⟩ (.int .u64 ((x + cc) % B51))).drew = w2 at *
      go_wp2
      go_roundw
      case rel => exact ⟨k + 1, by omega, by go_num, by rw [HCS.out], HS2.out⟩
      case measure => simp [intOf]; omega
    · obtain rfl : k = 5 := by omega
      have HP : Hid (StS w g (sst xs 5) wr) := hst
      clear hst
      go_wp2
      go_ret
      exact ⟨rfl, HP.out⟩

set_option maxHeartbeats 400000 in
theorem carryE_any (g : Nat) (xs : List Int) (w : World) (hl : xs.length = 5) (hr : RowW w g 82 xs) (hx : U62 xs) :
    Calls Try.prog 128 #[.pointer (some ⟨g, 0, none⟩)] w fun e w' => e = .returned (.tuple #[]) ∧ StS w g (carryE xs) w' := by
  have hc := gcy_le (M := 9223372036854775808) (C := 4096) hx (by decide) (by decide) 5
  go_enter Try.func128, Try.ntmps128
  go_wp2_with fail
  refine (settle_any g xs _ hl hr hx).mono ?_
  rintro e w1 ⟨rfl, st⟩
  have hb := sst_bd xs 0
  have c0 := st.row.cell 0 (by rw [sst_len]; decide)
  have f0 := st.row.frozen 0
  have HS : Hid (StS w g (carryE xs) ((w1.setCell ⟨g, 0, none⟩ (.int .u64 ((sst xs 5).getD 0 0 + 19 * gcy B51 xs 5))).drew)) := st.set 0 _
  clear st hr hx
  generalize (sst xs 5).getD 0 0 = y at *
  generalize gcy B51 xs 5 = c at *
  obtain ⟨hc0, hc1⟩ := hc
  obtain ⟨hb0, hb1⟩ := hb
  go_wp2
  go_region
  clear c0 f0
  generalize (w1.setCell ⟨g, 0, none⟩ (.int .u64 (y + 19 * c))).drew = w2 at *
  go_wp2
  go_end0
  exact ⟨rfl, HS.out⟩
end Go.Proofs.Ythghkfncpdnpoac
