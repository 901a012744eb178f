/-
  Own work: the two CRC-32 of the program and of the model: both are 'crc'.
-/
import Derived.Test.YtmnoelfabldpfaaMBase
namespace Go.Proofs.Ytmnoelfabldpfaa
open Go.ChangeShapes Go.WideShapes Go.ChangeAt Go.RowKit
set_option linter.unusedVariables false

theorem bit1_odd {c : Int} (h : U32 c) (o : (bits .and .u32 c 1 == 1) = true) : bits .xor .u32 (c / 2) 3988292384 = bit1 c := by
  rw [and1 h] at o; unfold bit1; rw [if_pos (by simpa using o)]
theorem bit1_even {c : Int} (h : U32 c) (o : (bits .and .u32 c 1 == 1) = false) : c / 2 = bit1 c := by
  rw [and1 h] at o; unfold bit1; rw [if_neg (by simpa using o)]

set_option maxHeartbeats 400000 in
theorem crcI_any (a : Option Addr) (n cap : Nat) (zs : List Int) (w : World) (hn : zs.length = n) (hm : n ≤ 1048576) (ha : At .u8 w a zs) (hz : Byte zs) :
    Calls Try.prog 64 #[.slice a n cap] w fun e w' => e = .returned (.int .u32 (crc zs)) ∧ w' = w := by
  go_enter Try.func64, Try.ntmps64
  go_wp2
  go_loop [3, 8] (fun c i => ∃ k : Nat, k ≤ n ∧ i = .int .i64 k ∧ c = .int .u32 (crcF (zs.take k))) (fun _ i => n - (intOf i).toNat)
  case atStart => exact ⟨0, Nat.zero_le _, rfl, rfl⟩
  case round =>
    obtain ⟨k, hk, rfl, rfl⟩ := hrel
    have hbd := crcF_bd (zs.take k)
    by_cases hlt : k < n
    · obtain ⟨b, off, rfl, hb, hc⟩ := ha.get (by omega)
      have hck := hc k (by omega)
      have hx := hz.get k
      have HS : Hid (crcF (zs.take (k + 1)) = crcS (crcF (zs.take k)) (zs.getD k 0)) := by rw [take_snoc zs k (by omega), crcF_snoc]; exact rfl
      generalize zs.getD k 0 = x at *
      generalize crcF (zs.take k) = c at *
      clear hc
      obtain ⟨hx0, hx1⟩ := hx
      go_wp2
      go_loop [3, 16] (fun d i => ∃ j : Nat, j ≤ 8 ∧ i = .int .i64 j ∧ d = .int .u32 (bitN (bits .xor .u32 c x) j)) (fun _ i => 8 - (intOf i).toNat)
      case atStart => exact ⟨0, Nat.zero_le _, rfl, rfl⟩
      case round =>
        obtain ⟨j, hj, rfl, rfl⟩ := hrel
        have hbn : U32 (bitN (bits .xor .u32 c x) j) := bitN_bd (bits_u32_bd _ _ _) j
        have HB : Hid (bitN (bits .xor .u32 c x) (j + 1) = bit1 (bitN (bits .xor .u32 c x) j)) := rfl
        have HE : Hid (∀ o : j = 8, bitN (bits .xor .u32 c x) j = crcF (zs.take (k + 1))) := fun o => by rw [HS.out, o]; rfl
        generalize bitN (bits .xor .u32 c x) j = d at *
        by_cases hj8 : j < 8
        · cases ho : (bits .and .u32 d 1 == 1)
          · have HV : Hid (d / 2 = bit1 d) := bit1_even hbn ho
            go_wp2
            go_round
            case rel => exact ⟨j + 1, by omega, by go_num, by rw [HB.out, ← HV.out]⟩
            case measure => simp [intOf]; omega
          · have HV : Hid (bits .xor .u32 (d / 2) 3988292384 = bit1 d) := bit1_odd hbn ho
            go_wp2
            go_round
            case rel => exact ⟨j + 1, by omega, by go_num, by rw [HB.out, ← HV.out]⟩
            case measure => simp [intOf]; omega
        · have HZ := HE.out (by omega)
          have HH : Hid (d = crcF (zs.take (k + 1))) := HZ
          clear HE HZ HS HB
          go_wp2
          go_round
          case rel => exact ⟨k + 1, by omega, by go_num, by rw [HH.out]⟩
          case measure => simp [intOf]; omega
    · go_wp2
      go_ret
      exact ⟨ret_int (by rw [List.take_of_length_le (by omega)]; rfl), rfl⟩

theorem bit1_odd' {c : Int} (o : (c % 2 == 1) = true) : bits .xor .u32 (c / 2) 3988292384 = bit1 c := by
  unfold bit1; rw [if_pos (by simpa using o)]
theorem bit1_even' {c : Int} (o : (c % 2 == 1) = false) : c / 2 = bit1 c := by
  unfold bit1; rw [if_neg (by simpa using o)]

set_option maxHeartbeats 400000 in
theorem crcS_any (a : Option Addr) (n cap : Nat) (zs : List Int) (w : World) (hn : zs.length = n) (hm : n ≤ 1048576) (ha : At .u8 w a zs) (hz : Byte zs) :
    Calls Try.prog 35 #[.slice a n cap] w fun e w' => e = .returned (.int .u32 (crc zs)) ∧ w' = w := by
  go_enter Try.func35, Try.ntmps35
  go_wp2
  go_loop [3, 4] (fun c i => ∃ k : Nat, k ≤ n ∧ i = .int .i64 k ∧ c = .int .u32 (crcF (zs.take k))) (fun _ i => n - (intOf i).toNat)
  case atStart => exact ⟨0, Nat.zero_le _, rfl, rfl⟩
  case round =>
    obtain ⟨k, hk, rfl, rfl⟩ := hrel
    have hbd := crcF_bd (zs.take k)
    by_cases hlt : k < n
    · obtain ⟨b, off, rfl, hb, hc⟩ := ha.get (by omega)
      have hck := hc k (by omega)
      have hx := hz.get k
      have HS : Hid (crcF (zs.take (k + 1)) = crcS (crcF (zs.take k)) (zs.getD k 0)) := by rw [take_snoc zs k (by omega), crcF_snoc]; exact rfl
      generalize zs.getD k 0 = x at *
      generalize crcF (zs.take k) = c at *
      clear hc
      obtain ⟨hx0, hx1⟩ := hx
      go_wp2
      go_loop [3, 5] (fun d i => ∃ j : Nat, j ≤ 8 ∧ i = .int .i64 j ∧ d = .int .u32 (bitN (bits .xor .u32 c x) j)) (fun _ i => 8 - (intOf i).toNat)
      case atStart => exact ⟨0, Nat.zero_le _, rfl, rfl⟩
      case round =>
        obtain ⟨j, hj, rfl, rfl⟩ := hrel
        have hbn : U32 (bitN (bits .xor .u32 c x) j) := bitN_bd (bits_u32_bd _ _ _) j
        have HB : Hid (bitN (bits .xor .u32 c x) (j + 1) = bit1 (bitN (bits .xor .u32 c x) j)) := rfl
        have HE : Hid (∀ o : j = 8, bitN (bits .xor .u32 c x) j = crcF (zs.take (k + 1))) := fun o => by rw [HS.out, o]; rfl
        generalize bitN (bits .xor .u32 c x) j = d at *
        obtain ⟨hd0, hd1⟩ := hbn
        by_cases hj8 : j < 8
        · cases ho : (d % 2 == 1)
          · have HV : Hid (d / 2 = bit1 d) := bit1_even' ho
            go_wp2
            go_round
            case rel => exact ⟨j + 1, by omega, by go_num, by rw [HB.out, ← HV.out]⟩
            case measure => simp [intOf]; omega
          · have HV : Hid (bits .xor .u32 (d / 2) 3988292384 = bit1 d) := bit1_odd' ho
            go_wp2
            go_round
            case rel => exact ⟨j + 1, by omega, by go_num, by rw [HB.out, ← HV.out]⟩
            case measure => simp [intOf]; omega
        · have HZ := HE.out (by omega)
          have HH : Hid (d = crcF (zs.take (k + 1))) := HZ
          clear HE HZ HS HB
          go_wp2
          go_round
          case rel => exact ⟨k + 1, by omega, by go_num, by rw [HH.out]⟩
          case measure => simp [intOf]; omega
    · go_wp2
      go_ret
      exact ⟨ret_int (by rw [List.take_of_length_le (by omega)]; rfl), rfl⟩
end Go.Proofs.Ytmnoelfabldpfaa
