/-
  Own work: numberOf (as INof, for a seat without reducedNumber).
-/
import Derived.Test.YthghkfncpdnpoacTxt
import Derived.BigRegion
namespace Go.Proofs.Ythghkfncpdnpoac
open Go.ChangeShapes Go.WideShapes Go.ChangeAt Go.RowKit
set_option linter.unusedVariables false

def NumPost (w : World) (v : Int) (e : Ending) (w' : World) : Prop :=
  ∃ ms : List Int, ms.length = 4 ∧ Wrd ms ∧ val 18446744073709551616 ms = v ∧ e = .returned (.agg (ms.map (Value.int .u64)).toArray) ∧ Below w.heap.size w w'
/-- The words of the first k bytes. -/
structure NO (w : World) (zs : List Int) (k : Nat) (wr : World) : Prop where
  res : RowW wr w.heap.size 100 [0, 0, 0, 0]
  row : ∃ ns, ns.length = 4 ∧ RowW wr (w.heap.size + 1) 100 ns ∧ Wrd ns ∧ val 18446744073709551616 ns = val 256 (zs.take k)
  below : Below w.heap.size w wr

theorem u64_or_add' (a b : Int) (k : Nat) (ha : 0 ≤ a) (ha' : a < 18446744073709551616) (hb : 0 ≤ b) (hb' : b < 2 ^ k) (hb'' : b < 18446744073709551616) (q : Int) (hd : a = q * 2 ^ k) : bits .or .u64 b a = b + a := by
  have := u64_or_add a b k ha ha' hb hb' hb'' q hd
  obtain ⟨a, rfl⟩ := Int.eq_ofNat_of_zero_le ha
  obtain ⟨b, rfl⟩ := Int.eq_ofNat_of_zero_le hb
  rw [u64_or_nat a b (by omega) (by omega)] at this
  rw [u64_or_nat b a (by omega) (by omega), Nat.or_comm]; omega
theorem nof_word (V y x : Int) (j : Nat) (hj : j < 32) (hV0 : 0 ≤ V) (hV : V < 256 ^ j) (hy : V / 18446744073709551616 ^ (j / 8) % 18446744073709551616 = y) (hx0 : 0 ≤ x) (hx1 : x < 256) :
    bits .or .u64 y (IntKind.u64.wrap (x * 2 ^ (8 * (j % 8)))) = y + x * 256 ^ (j % 8) ∧ 0 ≤ y + x * 256 ^ (j % 8) ∧ y + x * 256 ^ (j % 8) < 18446744073709551616 ∧ x * 256 ^ (j % 8) * 18446744073709551616 ^ (j / 8) = x * 256 ^ j := by
  have e1 : (256 : Int) ^ j = 18446744073709551616 ^ (j / 8) * 256 ^ (j % 8) := by
    rw [show (18446744073709551616 : Int) = 256 ^ 8 from by decide, ← Int.pow_mul, ← Int.pow_add]
    congr 1; omega
  have hp : (0 : Int) < 18446744073709551616 ^ (j / 8) := Int.pow_pos (by decide)
  have a0 : 0 ≤ V / 18446744073709551616 ^ (j / 8) := Int.ediv_nonneg hV0 (by omega)
  have a1 : V / 18446744073709551616 ^ (j / 8) < 256 ^ (j % 8) := Int.ediv_lt_of_lt_mul hp (by rw [Int.mul_comm, ← e1]; exact hV)
  have e2 : (2 : Int) ^ (8 * (j % 8)) = 256 ^ (j % 8) := (pow256 _).symm
  have e3 : x * 256 ^ (j % 8) * 18446744073709551616 ^ (j / 8) = x * 256 ^ j := by rw [e1]; grind
  have hr : j % 8 < 8 := Nat.mod_lt _ (by decide)
  have hle : (256 : Int) ^ (j % 8) ≤ 256 ^ 7 := by
    have : j % 8 = 0 ∨ j % 8 = 1 ∨ j % 8 = 2 ∨ j % 8 = 3 ∨ j % 8 = 4 ∨ j % 8 = 5 ∨ j % 8 = 6 ∨ j % 8 = 7 := by omega
    rcases this with h | h | h | h | h | h | h | h <;> rw [h] <;> decide
  have hP0 : (0 : Int) < 256 ^ (j % 8) := Int.pow_pos (by decide)
  have e7 : (256 : Int) ^ 7 = 72057594037927936 := by decide
  rw [e7] at hle
  refine ⟨?_, ?_, ?_, e3⟩
  all_goals
    generalize V / 18446744073709551616 ^ (j / 8) = z at *
    have hzy : z = y := by rw [← hy]; exact (Int.emod_eq_of_lt a0 (by omega)).symm
    subst hzy
    have m0 : 0 ≤ x * 256 ^ (j % 8) := Int.mul_nonneg hx0 (by omega)
    have m1 : x * 256 ^ (j % 8) ≤ 255 * 256 ^ (j % 8) := Int.mul_le_mul_of_nonneg_right (by omega) (by omega)
  · rw [e2, IntKind.wrap_u64, Int.emod_eq_of_lt m0 (by omega)]
    exact u64_or_add' _ _ (8 * (j % 8)) m0 (by omega) a0 (by rw [e2]; exact a1) (by omega) x (by rw [e2])
  · omega
  · omega

set_option maxHeartbeats 1000000 in
theorem nof_any (a : Option Addr) (n cap : Nat) (zs : List Int) (w : World) (hn : zs.length = n) (hm : 32 ≤ n) (hm' : n ≤ 1048576) (ha : At .u8 w a zs) (hz : Byte zs) :
    Calls Try.prog 71 #[.slice a n cap] w (NumPost w (val 256 (zs.take 32))) := by
  have HS : Hid (NO w zs 0 ((w.alloc (.cells #[.int .u64 0, .int .u64 0, .int .u64 0, .int .u64 0] 100)).alloc (.cells #[.int .u64 0, .int .u64 0, .int .u64 0, .int .u64 0] 100))) :=
    ⟨heap_alloc2_old _ _ _, ⟨[0, 0, 0, 0], rfl, heap_alloc2_new _ _ _, by unfold Wrd; decide, by rw [List.take_zero]; decide⟩, ((Below.refl _ _).alloc (Nat.le_refl _) _).alloc (by simp) _⟩
  go_enter Try.func71, Try.ntmps71
  go_wp2
  go_loopw [5] (fun i wr => ∃ (j : Nat), j ≤ 32 ∧ i = .int .i64 j ∧ NO w zs j wr) (fun i _ => 32 - (intOf i).toNat)
  case atStart => exact ⟨0, Nat.zero_le _, rfl, HS.out⟩
  case round =>
    clear HS
    obtain ⟨j, hj, rfl, hres, ⟨ns, hl, hrow, hw, hv⟩, hbel⟩ := hrel
    by_cases hj0 : j < 32
    · obtain ⟨b0, off, rfl, hb0, hc⟩ := (ha.below hbel).get (by omega)
      have c0 := hc j (by omega)
      have hx := hz.get j
      have hV := val_take 256 zs j (by omega)
      have ht0 : 0 ≤ val 256 (zs.take j) := val_nonneg (by decide) (fun z hz' => hz z (List.mem_of_mem_take hz'))
      have ht1 : val 256 (zs.take j) < 256 ^ j := by
        have := val_lt (B := 256) (by decide) (xs := zs.take j) (fun z hz' => hz z (List.mem_of_mem_take hz'))
        rwa [List.length_take, Nat.min_eq_left (by omega)] at this
      have hdg := val_digit (B := 18446744073709551616) (by decide) hw (j / 8)
      rw [hv] at hdg
      obtain ⟨n1, n2, n3, n4⟩ := nof_word _ _ _ j hj0 ht0 ht1 hdg hx.1 hx.2
      have S1 := hrow.set (j / 8) (ns.getD (j / 8) 0 + zs.getD j 0 * 256 ^ (j % 8))
      have S2 := hw.set (j / 8) _ n2 n3
      have S3 := val_set 18446744073709551616 ns (j / 8) (ns.getD (j / 8) 0 + zs.getD j 0 * 256 ^ (j % 8)) (by omega)
      rw [show ns.getD (j / 8) 0 + zs.getD j 0 * 256 ^ (j % 8) - ns.getD (j / 8) 0 = zs.getD j 0 * 256 ^ (j % 8) by omega, n4, hv, ← hV] at S3
      have c1 := hrow.cell (j / 8) (by omega)
      have f1 := hrow.frozen (j / 8)
      have HS : Hid (NO w zs (j + 1) (wr.setCell ⟨w.heap.size + 1, j / 8, none⟩ (.int .u64 (ns.getD (j / 8) 0 + zs.getD j 0 * 256 ^ (j % 8))))) :=
        ⟨((Wr.refl _ _).setCell (j / 8) _).rowW hres (by omega), ⟨_, by rw [List.length_set]; exact hl, S1, S2, S3⟩, hbel.setCell (by simp) _⟩
      have HN1 : Hid (bits .or .u64 (ns.getD (j / 8) 0) (IntKind.u64.wrap (zs.getD j 0 * 2 ^ (8 * (j % 8)))) = ns.getD (j / 8) 0 + zs.getD j 0 * 256 ^ (j % 8)) := n1
      clear hV ht0 ht1 hdg n1 n2 n3 n4 S1 S2 S3 hv hrow hres hbel hw
      generalize zs.getD j 0 = x at *
      obtain ⟨hx0, hx1⟩ := hx
      clear hc
      have hlt : (j : Int) < n := by omega
      have hlt2 : (j : Int) / 8 < 4 := by omega
      generalize ns.getD (j / 8) 0 = y at *
      go_wp2
      go_region
      rw [HN1.out]
      have HS2 : Hid (NO w zs (j + 1) ((wr.setCell ⟨w.heap.size + 1, j / 8, none⟩ (.int .u64 (y + x * 256 ^ (j % 8)))).drew)) :=
        ⟨HS.out.res, HS.out.row, ⟨HS.out.below.os, HS.out.below.tape, HS.out.below.output, HS.out.below.size, HS.out.below.block⟩⟩
      clear HS c0 c1 f1
      generalize (wr.setCell ⟨w.heap.size + 1, j / 8, none⟩ (.int .u64 (y + x * 256 ^ (j % 8)))).drew = w2 at *
      go_wp2
      go_roundw
      case rel => exact ⟨j + 1, by omega, by go_num, HS2.out⟩
      case measure => simp [intOf]; omega
    · have hj32 : j = 32 := by omega
      subst hj32
      have HSZ : Hid ((Try.prog.info? 100).map (·.size) = some ((ns.map (Value.int .u64)).toArray).size) := sizeNum hl
      have HZ4 : Hid (([0, 0, 0, 0].map (Value.int .u64)).toArray.size = ((ns.map (Value.int .u64)).toArray).size) := by show _ = _; simp [hl]
      have HRS : Hid (RowW wr w.heap.size 100 [0, 0, 0, 0]) := hres
      have HRO : Hid (RowW wr (w.heap.size + 1) 100 ns) := hrow
      have HBE : Hid (Below w.heap.size w wr) := hbel
      have HV : Hid (val 18446744073709551616 ns = val 256 (zs.take 32)) := hv
      clear hres hrow hbel hv
      go_wp2_with (first
        | (refine wpList_load_row rfl 100 (.tmp 3) rfl (w.heap.size + 1) rfl 100 _ (0, 0) _ HRO.out Try.underlying100 rfl HSZ.out ?_)
        | (refine wpList_store_row rfl 100 (.tmp 2) (.tmp 24) rfl w.heap.size ((ns.map (Value.int .u64)).toArray) rfl rfl 100 _ HRS.out HSZ.out HZ4.out (all_oneCell_toArray (ints_oneCell _ _)) ?_))
      refine bodyPost_ret (v := .agg (ns.map (Value.int .u64)).toArray) (results_cell_row rfl _ _ w.heap.size 100 _ (0, 0) _ rfl (setRow_heap _ _ _ _ _ _ HRS.out) Try.underlying100 rfl HSZ.out) rfl ⟨ns, hl, hw, HV.out, rfl, ?_⟩
      exact HBE.out.trans ((Wr.setRow _ _ _).below (Nat.le_refl _))
end Go.Proofs.Ythghkfncpdnpoac
