/-
  Own work: contracts of the laws' helpers on slices of bytes.
-/
import Derived.Test.YtdaglofgioehhaaMBase
import Derived.Test.YtdaglofgioehhaaWrd
import Derived.Test.YtdaglofgioehhaaMVal
import Derived.BigRegion
import Derived.Lib.SmallJoins
namespace Go.Proofs.Ytdaglofgioehhaa
open Go.ChangeShapes Go.WideShapes Go.ChangeAt Go.RowKit
set_option linter.unusedVariables false

theorem Try.infoU8 : (Try.prog.info? 5).map (fun i => (i.zero, i.size, i.bytes)) = some (some (.int .u8 0), 1, 1) := by kernel_rfl

/-- What stands in the copy after k rounds. -/
def cp (zs : List Int) (k : Nat) : List Int := zs.take k ++ List.replicate (zs.length - k) 0
theorem cp_zero (zs : List Int) : cp zs 0 = List.replicate zs.length 0 := by simp [cp]
theorem cp_all (zs : List Int) : cp zs zs.length = zs := by simp [cp]
theorem cp_len (zs : List Int) (k : Nat) (h : k ≤ zs.length) : (cp zs k).length = zs.length := by simp [cp]; omega
theorem cp_succ (zs : List Int) (k : Nat) (h : k < zs.length) : (cp zs k).set k (zs.getD k 0) = cp zs (k + 1) := by
  unfold cp
  have hl : (zs.take k).length = k := by simp; omega
  rw [take_snoc zs k h, List.set_append_right _ _ (by omega), hl, Nat.sub_self]
  have : zs.length - k = (zs.length - (k + 1)) + 1 := by omega
  rw [this, List.replicate_succ, List.set_cons_zero]; simp

set_option maxHeartbeats 400000 in
theorem toB_any (a : Option Addr) (n cap : Nat) (zs : List Int) (w : World) (hn : zs.length = n) (hm : n ≤ 1048576) (ha : At .u8 w a zs) :
    Calls Try.prog 8 #[.slice a n cap] w fun e w' => e = .returned (.slice (some ⟨w.heap.size, 0, none⟩) n n) ∧
      w'.ownsRow w.heap.size 5 1 (.slice (some ⟨w.heap.size, 0, none⟩) n n) n (zs.map (Value.int .u8)) ∧ Below w.heap.size w w' := by
  obtain ⟨i0, hi, hz0, hz1, hz2⟩ := info_parts Try.infoU8
  have HI : Hid (i0.bytes = 1) := hz2
  clear hz2
  go_enter Try.func8, Try.ntmps8
  go_wp2_with (first
    | (at_make; refine wpList_make_full _ rfl _ _ 22 rfl w.heap.size 5 i0 (.int .u8 0) 1 Try.underlying22 hi hz0 hz1 _ _ _ _ n rfl rfl rfl rfl ?c1 ?c2 ?c3 ?_)
    | fail)
  case c1 => rw [HI.out]; omega
  case c2 => unfold maxLen; omega
  case c3 => exact Nat.le_refl _
  intro w1 hown hgrow
  have hb1 : Below w.heap.size w w1 := (Below.refl _ _).grown hgrow (Nat.le_refl _) (by simp)
  have hown0 : w1.ownsRow w.heap.size 5 1 (.slice (some ⟨w.heap.size, 0, none⟩) n n) n ((cp zs 0).map (Value.int .u8)) := by
    have e : (madeCells #[Value.int IntKind.u8 0] n).toList = (cp zs 0).map (Value.int .u8) := by
      rw [cp_zero]; simp only [toList_madeCells_one, List.map_replicate, hn]
    rw [← e]; exact hown
  clear hown hgrow
  go_wp2
  go_loopw [4] (fun i wr => ∃ k : Nat, k ≤ n ∧ i = .int .i64 k ∧ wr.ownsRow w.heap.size 5 1 (.slice (some ⟨w.heap.size, 0, none⟩) n n) n ((cp zs k).map (Value.int .u8)) ∧ Below w.heap.size w wr) (fun i _ => n - (intOf i).toNat)
  case atStart => exact ⟨0, Nat.zero_le _, rfl, hown0, hb1⟩
  case round =>
    obtain ⟨k, hk, rfl, hown, hbel⟩ := hrel
    by_cases hlt : k < n
    · obtain ⟨b, off, rfl, hb, hc⟩ := ha.get (by omega)
      have hck : wr.cell? ⟨b, off + k, none⟩ = some (.int .u8 (zs.getD k 0)) := by rw [hbel.cell (p := ⟨b, off + k, none⟩) hb]; exact hc k (by omega)
      have hst := hown.stored k (.int .u8 (zs.getD k 0))
      have hmem : wr.cell? ⟨w.heap.size, k, none⟩ = some (.int .u8 ((cp zs k).getD k 0)) := by
        rw [hown.cellAt k (by omega)]
        have := cp_len zs k (by omega)
        simp [show k < (cp zs k).length by omega]
      have hfz := hown.frozenAt k
      rw [← List.map_set, cp_succ zs k (by omega)] at hst
      have HX := hst.1
      have HB : Below w.heap.size w (wr.setCell ⟨w.heap.size, k, none⟩ (.int .u8 (zs.getD k 0))) := hbel.setCell (Nat.le_refl _) _
      clear hst hown hc ha hbel hown0 hb1
      generalize zs.getD k 0 = x at *
      generalize (cp zs k).getD k 0 = y at *
      have HXX : Hid _ := HX
      have HBB : Hid _ := HB
      clear HX HB
      go_wp2
      go_roundw
      case rel => exact ⟨k + 1, by omega, by go_num, HXX.out, HBB.out⟩
      case measure => simp [intOf]; omega
    · have hkn : k = zs.length := by omega
      have HO : Hid (wr.ownsRow w.heap.size 5 1 (.slice (some ⟨w.heap.size, 0, none⟩) n n) n (zs.map (Value.int .u8))) := by rw [hkn, cp_all] at hown; exact hown
      clear hown
      go_wp2
      go_ret
      exact ⟨rfl, HO.out, hbel⟩

theorem drewN_cell (w : World) (n : Nat) (a : Addr) : (w.drewN n).cell? a = w.cell? a := rfl
theorem drewN_drewN (w : World) (m n : Nat) : (w.drewN m).drewN n = w.drewN (m + n) := by
  simp [World.drewN, Nat.add_assoc]

set_option maxHeartbeats 400000 in
theorem eqB_any (a a' : Option Addr) (n cap cap' : Nat) (zs : List Int) (w : World) (hn : zs.length = n) (hm : n ≤ 1048576) (ha : At .u8 w a zs) (ha' : At .u8 w a' zs) :
    Calls Try.prog 10 #[.slice a n cap, .slice a' n cap'] w fun e w' => e = .returned (.bool true) ∧ ∃ q, w' = w.drewN q := by
  have h0 : ((n : Int) != (n : Int)) = false := by simp
  go_enter Try.func10, Try.ntmps10
  go_wp2
  go_loopw [5] (fun i wr => ∃ k q : Nat, k ≤ n ∧ i = .int .i64 k ∧ wr = w.drewN q) (fun i _ => n - (intOf i).toNat)
  case atStart => exact ⟨0, 0, Nat.zero_le _, rfl, rfl⟩
  case round =>
    obtain ⟨k, q, hk, rfl, rfl⟩ := hrel
    by_cases hlt : k < n
    · obtain ⟨b, off, rfl, hb, hc⟩ := ha.get (by omega)
      obtain ⟨b', off', rfl, hb', hc'⟩ := ha'.get (by omega)
      have g1 := hc k (by omega)
      have g2 := hc' k (by omega)
      generalize zs.getD k 0 = x at *
      have hx : (x != x) = false := by simp
      have hlt' : (k : Int) < (n : Int) := by omega
      clear hc hc' ha ha'
      go_wp2
      go_quiet (fail)
      go_wp2
      go_roundw
      case rel => exact ⟨k + 1, _, by omega, by go_num, rfl⟩
      case measure => simp [intOf]; omega
    · go_wp2
      go_ret
      exact ⟨rfl, q, rfl⟩
end Go.Proofs.Ytdaglofgioehhaa
namespace Go.Proofs.Ytdaglofgioehhaa
open Go.ChangeShapes Go.WideShapes Go.ChangeAt Go.RowKit
set_option linter.unusedVariables false

/-- At most the block that the slice leads to has turned. -/
structure WrO (a : Option Addr) (w w' : World) : Prop where
  os : w'.os = w.os
  tape : w'.tape = w.tape
  output : w'.output = w.output
  size : w'.heap.size = w.heap.size
  block : ∀ k, (∀ ad, a = some ad → k ≠ ad.block) → w'.heap[k]? = w.heap[k]?
theorem WrO.refl (a : Option Addr) (w : World) : WrO a w w := ⟨rfl, rfl, rfl, rfl, fun _ _ => rfl⟩
theorem WrO.setCell {a : Option Addr} {w w' : World} (h : WrO a w w') (ad : Addr) (ha : a = some ad) (o : Nat) (v : Value) : WrO a w (w'.setCell ⟨ad.block, o, none⟩ v) :=
  ⟨h.os, h.tape, h.output, by simp [World.setCell]; exact h.size, fun k hk => (heap_setCell_other w' ⟨ad.block, o, none⟩ k v (hk ad ha)).trans (h.block k hk)⟩
theorem WrO.below {a : Option Addr} {w w' : World} (h : WrO a w w') (B : Nat) (hB : ∀ ad, a = some ad → B ≤ ad.block) : Below B w w' :=
  ⟨h.os, h.tape, h.output, by rw [h.size]; exact Nat.le_refl _, fun k hk => h.block k (fun ad e => by have := hB ad e; omega)⟩

/-- The cells of the slice may be written. -/
def Open (w : World) (a : Option Addr) (n : Nat) : Prop :=
  n = 0 ∨ ∃ g o, a = some ⟨g, o, none⟩ ∧ g < w.heap.size ∧ ∀ i, i < n → (w.cell? ⟨g, o + i, none⟩).isSome = true ∧ w.frozen? ⟨g, o + i, none⟩ = false
end Go.Proofs.Ytdaglofgioehhaa
namespace Go.Proofs.Ytdaglofgioehhaa
open Go.ChangeShapes Go.WideShapes Go.ChangeAt Go.RowKit Go.Joins
set_option linter.unusedVariables false

theorem pow256 (n : Nat) : (256 : Int) ^ n = 2 ^ (8 * n) := by rw [show (256 : Int) = 2 ^ 8 from rfl, ← Int.pow_mul]
theorem Try.sizeNum : (Try.prog.info? 36).map (·.size) = some 4 := by kernel_rfl
theorem sizeNum {ns : List Int} (h : ns.length = 4) : (Try.prog.info? 36).map (·.size) = some ((ns.map (Value.int .u64)).toArray).size := by rw [Try.sizeNum]; simp [h]

theorem text_byte (V y : Int) (k : Nat) (hy : V / 18446744073709551616 ^ (k / 8) % 18446744073709551616 = y) : y / 2 ^ (8 * (k % 8)) % 256 = V / 256 ^ k % 256 := by
  have e1 : (256 : Int) ^ k = 18446744073709551616 ^ (k / 8) * 256 ^ (k % 8) := by
    rw [show (18446744073709551616 : Int) = 256 ^ 8 from by decide, ← Int.pow_mul, ← Int.pow_add]
    congr 1; omega
  have hp : (0 : Int) ≤ 18446744073709551616 ^ (k / 8) := Int.pow_nonneg (by decide)
  rw [e1, ← Int.ediv_ediv_of_nonneg hp, ← pow256, ← hy]
  generalize V / 18446744073709551616 ^ (k / 8) = z
  have : k % 8 = 0 ∨ k % 8 = 1 ∨ k % 8 = 2 ∨ k % 8 = 3 ∨ k % 8 = 4 ∨ k % 8 = 5 ∨ k % 8 = 6 ∨ k % 8 = 7 := by omega
  rcases this with h | h | h | h | h | h | h | h <;> rw [h] <;> simp only [Int.pow_succ, Int.pow_zero] <;> omega
theorem mod_pow_succ (V B : Int) (k : Nat) (hB : 0 < B) : V % B ^ (k + 1) = V % B ^ k + V / B ^ k % B * B ^ k := by
  have hp : (0 : Int) < B ^ k := Int.pow_pos hB
  rw [Int.pow_succ]
  have e1 := Int.emod_add_mul_ediv V (B ^ k)
  have e2 := Int.emod_add_mul_ediv (V / B ^ k) B
  have e3 : V = (V % B ^ k + V / B ^ k % B * B ^ k) + (B ^ k * B) * (V / B ^ k / B) := by grind
  have b0 := Int.emod_nonneg V (show B ^ k ≠ 0 by omega)
  have b1 := Int.emod_lt_of_pos V hp
  have b2 := Int.emod_nonneg (V / B ^ k) (show B ≠ 0 by omega)
  have b3 := Int.emod_lt_of_pos (V / B ^ k) hB
  have m0 : 0 ≤ V / B ^ k % B * B ^ k := Int.mul_nonneg b2 (by omega)
  have m1 : V / B ^ k % B * B ^ k ≤ (B - 1) * B ^ k := Int.mul_le_mul_of_nonneg_right (by omega) (by omega)
  conv => lhs; rw [e3]
  rw [Int.add_mul_emod_self_left]
  apply Int.emod_eq_of_lt (by omega)
  have : (B - 1) * B ^ k = B ^ k * B - B ^ k := by grind
  omega

/-- The bytes of a number. -/
structure TX (w : World) (g : Nat) (ns : List Int) (k : Nat) (wr : World) : Prop where
  row : RowW wr g 36 ns
  txt : ∃ bs : List Int, bs.length = 32 ∧ Byte bs ∧ val 256 (bs.take k) = val 18446744073709551616 ns % 256 ^ k ∧ wr.ownsRow w.heap.size 5 1 (.slice (some ⟨w.heap.size, 0, none⟩) 32 32) 32 (bs.map (Value.int .u8))
  below : Below w.heap.size w wr

def TextPost (w : World) (V : Int) (e : Ending) (w' : World) : Prop :=
  ∃ bs : List Int, bs.length = 32 ∧ Byte bs ∧ val 256 bs = V ∧ e = .returned (.slice (some ⟨w.heap.size, 0, none⟩) 32 32) ∧ Own w' w.heap.size (.slice (some ⟨w.heap.size, 0, none⟩) 32 32) bs ∧ Below w.heap.size w w'

set_option maxRecDepth 100000 in
set_option maxHeartbeats 1000000 in
theorem text_any (g : Nat) (ns : List Int) (w : World) (hl : ns.length = 4) (hr : RowW w g 36 ns) (hw : Wrd ns) :
    Calls Try.prog 30 #[.pointer (some ⟨g, 0, none⟩)] w (TextPost w (val 18446744073709551616 ns)) := by
  obtain ⟨i0, hi, hz0, hz1, hz2⟩ := info_parts Try.infoU8
  have HI : Hid (i0.bytes = 1) := hz2
  clear hz2
  have hg := hr.lt
  go_enter Try.func30, Try.ntmps30
  go_wp2_with (first
    | (at_make; refine wpList_make_full _ rfl _ _ 22 rfl w.heap.size 5 i0 (.int .u8 0) 1 Try.underlying22 hi hz0 hz1 _ _ _ _ 32 rfl rfl rfl rfl ?c1 ?c2 ?c3 ?_)
    | fail)
  case c1 => rw [HI.out]; omega
  case c2 => unfold maxLen; omega
  case c3 => exact Nat.le_refl _
  intro w1 hown hgrow
  have hb1 : Below w.heap.size w w1 := (Below.refl _ _).grown hgrow (Nat.le_refl _) (by simp)
  have hown0 : w1.ownsRow w.heap.size 5 1 (.slice (some ⟨w.heap.size, 0, none⟩) 32 32) 32 ((List.replicate 32 0).map (Value.int .u8)) := by
    have e : (madeCells #[Value.int IntKind.u8 0] 32).toList = (List.replicate 32 0).map (Value.int .u8) := by simp only [toList_madeCells_one, List.map_replicate]
    rw [← e]; exact hown
  have HS : Hid (TX w g ns 0 w1) := ⟨hr.below hb1 hg, ⟨List.replicate 32 0, by simp, fun z hz => by rw [List.mem_replicate] at hz; omega, by simp [val], hown0⟩, hb1⟩
  clear hown hgrow hown0 hb1 hr
  go_wp2
  go_loopw [8] (fun i wr => ∃ k : Nat, k ≤ 32 ∧ i = .int .i64 k ∧ TX w g ns k wr) (fun i _ => 32 - (intOf i).toNat)
  case atStart => exact ⟨0, Nat.zero_le _, rfl, HS.out⟩
  case round =>
    clear HS
    obtain ⟨k, hk, rfl, hrow, ⟨bs, hbl, hbb, hbv, hown⟩, hbel⟩ := hrel
    by_cases hlt : k < 32
    · have hc := hrow.cell (k / 8) (by omega)
      have hx := hw.get (k / 8)
      have hdg := val_digit (B := 18446744073709551616) (by decide) hw (k / 8)
      have htb := text_byte _ _ _ hdg
      have hst := hown.stored k (.int .u8 (val 18446744073709551616 ns / 256 ^ k % 256))
      have hmem : wr.cell? ⟨w.heap.size, k, none⟩ = some (.int .u8 (bs.getD k 0)) := by
        rw [hown.cellAt k (by omega)]; simp [show k < bs.length by omega]
      have hfz := hown.frozenAt k
      rw [← List.map_set] at hst
      have hd0 : 0 ≤ val 18446744073709551616 ns / 256 ^ k % 256 := by omega
      have hd1 : val 18446744073709551616 ns / 256 ^ k % 256 < 256 := by omega
      have HS : Hid (TX w g ns (k + 1) (wr.setCell ⟨w.heap.size, k, none⟩ (.int .u8 (val 18446744073709551616 ns / 256 ^ k % 256)))) := by
        refine ⟨((Wr.refl _ _).setCell k _).rowW hrow (by omega), ⟨bs.set k (val 18446744073709551616 ns / 256 ^ k % 256), by rw [List.length_set]; exact hbl, ?_, ?_, hst.1⟩, hbel.setCell (Nat.le_refl _) _⟩
        · intro z hz
          rcases List.mem_or_eq_of_mem_set hz with h' | rfl
          · exact hbb z h'
          · exact ⟨hd0, hd1⟩
        · rw [val_set_succ _ _ _ _ (by omega), hbv, mod_pow_succ _ _ _ (by decide)]
      have HTB : Hid (ns.getD (k / 8) 0 / 2 ^ (8 * (k % 8)) % 256 = val 18446744073709551616 ns / 256 ^ k % 256) := htb
      clear hst hown hbel hrow hbv hdg htb hd0 hd1
      generalize ns.getD (k / 8) 0 = x at *
      generalize bs.getD k 0 = y at *
      generalize val 18446744073709551616 ns / 256 ^ k % 256 = z at *
      obtain ⟨hx0, hx1⟩ := hx
      have hlt2 : (k : Int) / 8 < 4 := by omega
      go_wp2
      rw [HTB.out]
      exact ⟨⟨k + 1, by omega, by go_num, HS.out⟩, by simp [intOf]; omega⟩
    · have hk32 : k = 32 := by omega
      subst hk32
      rw [List.take_of_length_le (by omega)] at hbv
      have n0 : 0 ≤ val 18446744073709551616 ns := val_nonneg (by decide) hw
      have n1 : val 18446744073709551616 ns < 256 ^ 32 := by
        have := val_lt (B := 18446744073709551616) (by decide) hw
        rw [hl] at this
        have e : (18446744073709551616 : Int) ^ 4 = 256 ^ 32 := by decide
        rwa [e] at this
      rw [Int.emod_eq_of_lt n0 n1] at hbv
      have HP : Hid (TextPost w (val 18446744073709551616 ns) (.returned (.slice (some ⟨w.heap.size, 0, none⟩) 32 32)) wr) :=
        ⟨bs, hbl, hbb, hbv, rfl, ⟨by rw [hbl]; exact hown, _, _, by rw [hbl]⟩, hbel⟩
      clear hbv n0 n1 hown hbel hrow hbl hbb
      go_wp2
      go_ret
      exact HP.out

end Go.Proofs.Ytdaglofgioehhaa
