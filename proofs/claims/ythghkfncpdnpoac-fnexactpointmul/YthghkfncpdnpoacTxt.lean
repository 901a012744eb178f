/-
  Own work: a number's text.
-/
import Derived.Test.YthghkfncpdnpoacWrd
import Derived.Test.YthghkfncpdnpoacOwnB
import Derived.Test.YthghkfncpdnpoacBytes
import Derived.Test.YthghkfncpdnpoacMark
import Derived.BigRegion
import Derived.Lib.SmallJoins
namespace Go.Proofs.Ythghkfncpdnpoac
open Go.ChangeShapes Go.WideShapes Go.ChangeAt Go.RowKit Go.Joins
set_option linter.unusedVariables false

theorem pow256 (n : Nat) : (256 : Int) ^ n = 2 ^ (8 * n) := by rw [show (256 : Int) = 2 ^ 8 from rfl, ← Int.pow_mul]
theorem Try.sizeNum : (Try.prog.info? 100).map (·.size) = some 4 := by kernel_rfl
theorem sizeNum {ns : List Int} (h : ns.length = 4) : (Try.prog.info? 100).map (·.size) = some ((ns.map (Value.int .u64)).toArray).size := by rw [Try.sizeNum]; simp [h]

theorem text_byte (V y : Int) (k : Nat) (hy : V / 18446744073709551616 ^ (k / 8) % 18446744073709551616 = y) : y / 2 ^ (8 * (k % 8)) % 256 = V / 256 ^ k % 256 := by
  have e1 : (256 : Int) ^ k = 18446744073709551616 ^ (k / 8) * 256 ^ (k % 8) := by
    rw [show (18446744073709551616 : Int) = 256 ^ 8 from by decide, ← Int.pow_mul, ← Int.pow_add]
    congr 1; omega
  have hp : (0 : Int) ≤ 18446744073709551616 ^ (k / 8) := Int.pow_nonneg (by decide)
  rw [e1, ← Int.ediv_ediv_of_nonneg hp, ← pow256, ← hy]
  generalize V / 18446744073709551616 ^ (k / 8) = z
  have : k % 8 = 0 ∨ k % 8 = 1 ∨ k % 8 = 2 ∨ k % 8 = 3 ∨ k % 8 = 4 ∨ k % 8 = 5 ∨ k % 8 = 6 ∨ k % 8 = 7 := by omega
  rcases this with h | h | h | h | h | h | h | h <;> rw [h] <;> simp only [Int.pow_succ, Int.pow_zero] <;> omega
theorem mod_pow_succ (V B : Int) (k : Nat) (hB : 0 < B) : V % B ^ (k + 1) = V % B ^ k + V / B ^ k % B * B ^ k := by
  have hp : (0 : Int) < B ^ k := Int.pow_pos hB
  rw [Int.pow_succ]
  have e1 := Int.emod_add_mul_ediv V (B ^ k)
  have e2 := Int.emod_add_mul_ediv (V / B ^ k) B
  have e3 : V = (V % B ^ k + V / B ^ k % B * B ^ k) + (B ^ k * B) * (V / B ^ k / B) := by grind
  have b0 := Int.emod_nonneg V (show B ^ k ≠ 0 by omega)
  have b1 := Int.emod_lt_of_pos V hp
  have b2 := Int.emod_nonneg (V / B ^ k) (show B ≠ 0 by omega)
  have b3 := Int.emod_lt_of_pos (V / B ^ k) hB
  have m0 : 0 ≤ V / B ^ k % B * B ^ k := Int.mul_nonneg b2 (by omega)
  have m1 : V / B ^ k % B * B ^ k ≤ (B - 1) * B ^ k := Int.mul_le_mul_of_nonneg_right (by omega) (by omega)
  conv => lhs; rw [e3]
  rw [Int.add_mul_emod_self_left]
  apply Int.emod_eq_of_lt (by omega)
  have : (B - 1) * B ^ k = B ^ k * B - B ^ k := by grind
  omega

/-- The bytes of a number. -/
structure TX (w : World) (g : Nat) (ns : List Int) (k : Nat) (wr : World) : Prop where
  row : RowW wr g 100 ns
  txt : ∃ bs : List Int, bs.length = 32 ∧ Byte bs ∧ val 256 (bs.take k) = val 18446744073709551616 ns % 256 ^ k ∧ wr.ownsRow w.heap.size 5 1 (.slice (some ⟨w.heap.size, 0, none⟩) 32 32) 32 (bs.map (Value.int .u8))
  below : Below w.heap.size w wr

def TextPost (w : World) (V : Int) (e : Ending) (w' : World) : Prop :=
  ∃ bs : List Int, bs.length = 32 ∧ Byte bs ∧ val 256 bs = V ∧ e = .returned (.slice (some ⟨w.heap.size, 0, none⟩) 32 32) ∧ Own w' w.heap.size (.slice (some ⟨w.heap.size, 0, none⟩) 32 32) bs ∧ Below w.heap.size w w'

set_option maxRecDepth 100000 in
set_option maxHeartbeats 1000000 in
theorem text_any (g : Nat) (ns : List Int) (w : World) (hl : ns.length = 4) (hr : RowW w g 100 ns) (hw : Wrd ns) :
    Calls Try.prog 68 #[.pointer (some ⟨g, 0, none⟩)] w (TextPost w (val 18446744073709551616 ns)) := by
  obtain ⟨i0, hi, hz0, hz1, hz2⟩ := info_parts Try.infoU8
  have HI : Hid (i0.bytes = 1) := hz2
  clear hz2
  have hg := hr.lt
  go_enter Try.func68, Try.ntmps68
  go_wp2_with (first
    | (at_make; refine wpList_make_full _ rfl _ _ 22 rfl w.heap.size 5 i0 (.int .u8 0) 1 Try.underlying22 hi hz0 hz1 _ _ _ _ 32 rfl rfl rfl rfl ?c1 ?c2 ?c3 ?_)
    | fail)
  case c1 => rw [HI.out]; omega
  case c2 => unfold maxLen; omega
  case c3 => exact Nat.le_refl _
  intro w1 hown hgrow
  have hb1 : Below w.heap.size w w1 := (Below.refl _ _).grown hgrow (Nat.le_refl _) (by simp)
  have hown0 : w1.ownsRow w.heap.size 5 1 (.slice (some ⟨w.heap.size, 0, none⟩) 32 32) 32 ((List.replicate 32 0).map (Value.int .u8)) := by
    have e : (madeCells #[Value.int IntKind.u8 0] 32).toList = (List.replicate 32 0).map (Value.int .u8) := by simp only [toList_madeCells_one, List.map_replicate]
    rw [← e]; exact hown
  have HS : Hid (TX w g ns 0 w1) := ⟨hr.below hb1 hg, ⟨List.replicate 32 0, by simp, fun z hz => by rw [List.mem_replicate] at hz; omega, by simp [val], hown0⟩, hb1⟩
  clear hown hgrow hown0 hb1 hr
  go_wp2
  go_loopw [8] (fun i wr => ∃ k : Nat, k ≤ 32 ∧ i = .int .i64 k ∧ TX w g ns k wr) (fun i _ => 32 - (intOf i).toNat)
  case atStart => exact ⟨0, Nat.zero_le _, rfl, HS.out⟩
  case round =>
    clear HS
    obtain ⟨k, hk, rfl, hrow, ⟨bs, hbl, hbb, hbv, hown⟩, hbel⟩ := hrel
    by_cases hlt : k < 32
    · have hc := hrow.cell (k / 8) (by omega)
      have hx := hw.get (k / 8)
      have hdg := val_digit (B := 18446744073709551616) (by decide) hw (k / 8)
      have htb := text_byte _ _ _ hdg
      have hst := hown.stored k (.int .u8 (val 18446744073709551616 ns / 256 ^ k % 256))
      have hmem : wr.cell? ⟨w.heap.size, k, none⟩ = some (.int .u8 (bs.getD k 0)) := by
        rw [hown.cellAt k (by omega)]; simp [show k < bs.length by omega]
      have hfz := hown.frozenAt k
      rw [← List.map_set] at hst
      have hd0 : 0 ≤ val 18446744073709551616 ns / 256 ^ k % 256 := by omega
      have hd1 : val 18446744073709551616 ns / 256 ^ k % 256 < 256 := by omega
      have HS : Hid (TX w g ns (k + 1) (wr.setCell ⟨w.heap.size, k, none⟩ (.int .u8 (val 18446744073709551616 ns / 256 ^ k % 256)))) := by
        refine ⟨((Wr.refl _ _).setCell k _).rowW hrow (by omega), ⟨bs.set k (val 18446744073709551616 ns / 256 ^ k % 256), by rw [List.length_set]; exact hbl, ?_, ?_, hst.1⟩, hbel.setCell (Nat.le_refl _) _⟩
        · intro z hz
          rcases List.mem_or_eq_of_mem_set hz with h' | rfl
          · exact hbb z h'
          · exact ⟨hd0, hd1⟩
        · rw [val_set_succ _ _ _ _ (by omega), hbv, mod_pow_succ _ _ _ (by decide)]
      have HTB : Hid (ns.getD (k / 8) 0 / 2 ^ (8 * (k % 8)) % 256 = val 18446744073709551616 ns / 256 ^ k % 256) := htb
      clear hst hown hbel hrow hbv hdg htb hd0 hd1
      generalize ns.getD (k / 8) 0 = x at *
      generalize bs.getD k 0 = y at *
      generalize val 18446744073709551616 ns / 256 ^ k % 256 = z at *
      obtain ⟨hx0, hx1⟩ := hx
      have hlt2 : (k : Int) / 8 < 4 := by omega
      go_wp2
      rw [HTB.out]
      exact ⟨⟨k + 1, by omega, by go_num, HS.out⟩, by simp [intOf]; omega⟩
    · have hk32 : k = 32 := by omega
      subst hk32
      rw [List.take_of_length_le (by omega)] at hbv
      have n0 : 0 ≤ val 18446744073709551616 ns := val_nonneg (by decide) hw
      have n1 : val 18446744073709551616 ns < 256 ^ 32 := by
        have := val_lt (B := 18446744073709551616) (by decide) hw
        rw [hl] at this
        have e : (18446744073709551616 : Int) ^ 4 = 256 ^ 32 := by decide
        rwa [e] at this
      rw [Int.emod_eq_of_lt n0 n1] at hbv
      have HP : Hid (TextPost w (val 18446744073709551616 ns) (.returned (.slice (some ⟨w.heap.size, 0, none⟩) 32 32)) wr) :=
        ⟨bs, hbl, hbb, hbv, rfl, ⟨by rw [hbl]; exact hown, _, _, by rw [hbl]⟩, hbel⟩
      clear hbv n0 n1 hown hbel hrow hbl hbb
      go_wp2
      go_ret
      exact HP.out

end Go.Proofs.Ythghkfncpdnpoac
