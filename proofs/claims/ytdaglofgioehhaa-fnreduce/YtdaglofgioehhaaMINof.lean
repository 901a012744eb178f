/-
  Own work: numberOf.
-/
import Derived.Test.YtdaglofgioehhaaIRed
import Derived.BigRegion
import Derived.Test.YtdaglofgioehhaaMBase
namespace Go.Proofs.Ytdaglofgioehhaa
open Go.ChangeShapes Go.WideShapes Go.ChangeAt Go.RowKit
set_option linter.unusedVariables false

/-- The words of the first k bytes. -/
structure NOr (w : World) (zs : List Int) (k : Nat) (wr : World) : Prop where
  res : RowW wr w.heap.size 36 [0, 0, 0, 0]
  row : ∃ ns, ns.length = 4 ∧ RowW wr (w.heap.size + 1) 36 ns ∧ Wrd ns ∧ val 18446744073709551616 ns = val 256 (zs.take k)
  below : Below w.heap.size w wr

theorem u64_or_addr' (a b : Int) (k : Nat) (ha : 0 ≤ a) (ha' : a < 18446744073709551616) (hb : 0 ≤ b) (hb' : b < 2 ^ k) (hb'' : b < 18446744073709551616) (q : Int) (hd : a = q * 2 ^ k) : bits .or .u64 b a = b + a := by
  have := u64_or_add a b k ha ha' hb hb' hb'' q hd
  obtain ⟨a, rfl⟩ := Int.eq_ofNat_of_zero_le ha
  obtain ⟨b, rfl⟩ := Int.eq_ofNat_of_zero_le hb
  rw [u64_or_nat a b (by omega) (by omega)] at this
  rw [u64_or_nat b a (by omega) (by omega), Nat.or_comm]; omega
theorem nof_wordr (V y x : Int) (j : Nat) (hj : j < 32) (hV0 : 0 ≤ V) (hV : V < 256 ^ j) (hy : V / 18446744073709551616 ^ (j / 8) % 18446744073709551616 = y) (hx0 : 0 ≤ x) (hx1 : x < 256) :
    bits .or .u64 y (IntKind.u64.wrap (x * 2 ^ (8 * (j % 8)))) = y + x * 256 ^ (j % 8) ∧ 0 ≤ y + x * 256 ^ (j % 8) ∧ y + x * 256 ^ (j % 8) < 18446744073709551616 ∧ x * 256 ^ (j % 8) * 18446744073709551616 ^ (j / 8) = x * 256 ^ j := by
  have e1 : (256 : Int) ^ j = 18446744073709551616 ^ (j / 8) * 256 ^ (j % 8) := by
    rw [show (18446744073709551616 : Int) = 256 ^ 8 from by decide, ← Int.pow_mul, ← Int.pow_add]
    congr 1; omega
  have hp : (0 : Int) < 18446744073709551616 ^ (j / 8) := Int.pow_pos (by decide)
  have a0 : 0 ≤ V / 18446744073709551616 ^ (j / 8) := Int.ediv_nonneg hV0 (by omega)
  have a1 : V / 18446744073709551616 ^ (j / 8) < 256 ^ (j % 8) := Int.ediv_lt_of_lt_mul hp (by rw [Int.mul_comm, ← e1]; exact hV)
  have e2 : (2 : Int) ^ (8 * (j % 8)) = 256 ^ (j % 8) := (pow256r _).symm
  have e3 : x * 256 ^ (j % 8) * 18446744073709551616 ^ (j / 8) = x * 256 ^ j := by rw [e1]; grind
  have hr : j % 8 < 8 := Nat.mod_lt _ (by decide)
  have hle : (256 : Int) ^ (j % 8) ≤ 256 ^ 7 := by
    have : j % 8 = 0 ∨ j % 8 = 1 ∨ j % 8 = 2 ∨ j % 8 = 3 ∨ j % 8 = 4 ∨ j % 8 = 5 ∨ j % 8 = 6 ∨ j % 8 = 7 := by omega
    rcases this with h | h | h | h | h | h | h | h <;> rw [h] <;> decide
  have hP0 : (0 : Int) < 256 ^ (j % 8) := Int.pow_pos (by decide)
  have e7 : (256 : Int) ^ 7 = 72057594037927936 := by decide
  rw [e7] at hle
  refine ⟨?_, ?_, ?_, e3⟩
  all_goals
    generalize V / 18446744073709551616 ^ (j / 8) = z at *
    have hzy : z = y := by rw [← hy]; exact (Int.emod_eq_of_lt a0 (by omega)).symm
    subst hzy
    have m0 : 0 ≤ x * 256 ^ (j % 8) := Int.mul_nonneg hx0 (by omega)
    have m1 : x * 256 ^ (j % 8) ≤ 255 * 256 ^ (j % 8) := Int.mul_le_mul_of_nonneg_right (by omega) (by omega)
  · rw [e2, IntKind.wrap_u64, Int.emod_eq_of_lt m0 (by omega)]
    exact u64_or_addr' _ _ (8 * (j % 8)) m0 (by omega) a0 (by rw [e2]; exact a1) (by omega) x (by rw [e2])
  · omega
  · omega

set_option maxHeartbeats 1000000 in
theorem nofr_any (a : Option Addr) (n cap : Nat) (zs : List Int) (w : World) (hn : zs.length = n) (hm : 32 ≤ n) (hm' : n ≤ 1048576) (ha : At .u8 w a zs) (hz : Byte zs) :
    Calls Try.prog 34 #[.slice a n cap] w (NumPostR w (val 256 (zs.take 32))) := by
  have HS : Hid (NOr w zs 0 ((w.alloc (.cells #[.int .u64 0, .int .u64 0, .int .u64 0, .int .u64 0] 36)).alloc (.cells #[.int .u64 0, .int .u64 0, .int .u64 0, .int .u64 0] 36))) :=
    ⟨heap_alloc2_old _ _ _, ⟨[0, 0, 0, 0], rfl, heap_alloc2_new _ _ _, by unfold Wrd; decide, by rw [List.take_zero]; decide⟩, ((Below.refl _ _).alloc (Nat.le_refl _) _).alloc (by simp) _⟩
  go_enter Try.func34, Try.ntmps34
  go_wp2
  go_loopw [5] (fun i wr => ∃ (j : Nat), j ≤ 32 ∧ i = .int .i64 j ∧ NOr w zs j wr) (fun i _ => 32 - (intOf i).toNat)
  case atStart => exact ⟨0, Nat.zero_le _, rfl, HS.out⟩
  case round =>
    clear HS
    obtain ⟨j, hj, rfl, hres, ⟨ns, hl, hrow, hw, hv⟩, hbel⟩ := hrel
    by_cases hj0 : j < 32
    · obtain ⟨b0, off, rfl, hb0, hc⟩ := (ha.below hbel).get (by omega)
      have c0 := hc j (by omega)
      have hx := hz.get j
      have hV := val_take 256 zs j (by omega)
      have ht0 : 0 ≤ val 256 (zs.take j) := val_nonneg (by decide) (fun z hz' => hz z (List.mem_of_mem_take hz'))
      have ht1 : val 256 (zs.take j) < 256 ^ j := by
        have := val_lt (B := 256) (by decide) (xs := zs.take j) (fun z hz' => hz z (List.mem_of_mem_take hz'))
        rwa [List.length_take, Nat.min_eq_left (by omega)] at this
      have hdg := val_digit (B := 18446744073709551616) (by decide) hw (j / 8)
      rw [hv] at hdg
      obtain ⟨n1, n2, n3, n4⟩ := nof_wordr _ _ _ j hj0 ht0 ht1 hdg hx.1 hx.2
      have S1 := hrow.set (j / 8) (ns.getD (j / 8) 0 + zs.getD j 0 * 256 ^ (j % 8))
      have S2 := hw.set (j / 8) _ n2 n3
      have S3 := val_set 18446744073709551616 ns (j / 8) (ns.getD (j / 8) 0 + zs.getD j 0 * 256 ^ (j % 8)) (by omega)
      rw [show ns.getD (j / 8) 0 + zs.getD j 0 * 256 ^ (j % 8) - ns.getD (j / 8) 0 = zs.getD j 0 * 256 ^ (j % 8) by omega, n4, hv, ← hV] at S3
      have c1 := hrow.cell (j / 8) (by omega)
      have f1 := hrow.frozen (j / 8)
      have HS : Hid (NOr w zs (j + 1) (wr.setCell ⟨w.heap.size + 1, j / 8, none⟩ (.int .u64 (ns.getD (j / 8) 0 + zs.getD j 0 * 256 ^ (j % 8))))) :=
        ⟨((Wr.refl _ _).setCell (j / 8) _).rowW hres (by omega), ⟨_, by rw [List.length_set]; exact hl, S1, S2, S3⟩, hbel.setCell (by simp) _⟩
      have HN1 : Hid (bits .or .u64 (ns.getD (j / 8) 0) (IntKind.u64.wrap (zs.getD j 0 * 2 ^ (8 * (j % 8)))) = ns.getD (j / 8) 0 + zs.getD j 0 * 256 ^ (j % 8)) := n1
      clear hV ht0 ht1 hdg n1 n2 n3 n4 S1 S2 S3 hv hrow hres hbel hw
      generalize zs.getD j 0 = x at *
      obtain ⟨hx0, hx1⟩ := hx
      clear hc
      have hlt : (j : Int) < n := by omega
      have hlt2 : (j : Int) / 8 < 4 := by omega
      generalize ns.getD (j / 8) 0 = y at *
      go_wp2
      go_region
      rw [HN1.out]
      have HS2 : Hid (NOr w zs (j + 1) ((wr.setCell ⟨w.heap.size + 1, j / 8, none⟩ (.int .u64 (y + x * 256 ^ (j % 8)))).drew)) :=
        ⟨HS.out.res, HS.out.row, ⟨HS.out.below.os, HS.out.below.tape, HS.out.below.output, HS.out.below.size, HS.out.below.block⟩⟩
      clear HS c0 c1 f1
      generalize (wr.setCell ⟨w.heap.size + 1, j / 8, none⟩ (.int .u64 (y + x * 256 ^ (j % 8)))).drew = w2 at *
      go_wp2
      go_roundw
      case rel => exact ⟨j + 1, by omega, by go_num, HS2.out⟩
      case measure => simp [intOf]; omega
    · have hj32 : j = 32 := by omega
      subst hj32
      have HSZ : Hid ((Try.prog.info? 36).map (·.size) = some ((ns.map (Value.int .u64)).toArray).size) := sizeNumR hl
      have HZ4 : Hid (([0, 0, 0, 0].map (Value.int .u64)).toArray.size = ((ns.map (Value.int .u64)).toArray).size) := by show _ = _; simp [hl]
      have HRS : Hid (RowW wr w.heap.size 36 [0, 0, 0, 0]) := hres
      have HRO : Hid (RowW wr (w.heap.size + 1) 36 ns) := hrow
      have HBE : Hid (Below w.heap.size w wr) := hbel
      have HV : Hid (val 18446744073709551616 ns = val 256 (zs.take 32)) := hv
      clear hres hrow hbel hv
      go_wp2_with (first
        | (refine wpList_load_row rfl 36 (.tmp 3) rfl (w.heap.size + 1) rfl 36 _ (0, 0) _ HRO.out Try.underlying36 rfl HSZ.out ?_)
        | (refine wpList_store_row rfl 36 (.tmp 2) (.tmp 24) rfl w.heap.size ((ns.map (Value.int .u64)).toArray) rfl rfl 36 _ HRS.out HSZ.out HZ4.out (all_oneCell_toArray (ints_oneCell _ _)) ?_))
      refine bodyPost_ret (v := .agg (ns.map (Value.int .u64)).toArray) (results_cell_row rfl _ _ w.heap.size 36 _ (0, 0) _ rfl (setRow_heap _ _ _ _ _ _ HRS.out) Try.underlying36 rfl HSZ.out) rfl ⟨ns, hl, hw, HV.out, rfl, ?_⟩
      exact HBE.out.trans ((Wr.setRow _ _ _).below (Nat.le_refl _))
end Go.Proofs.Ytdaglofgioehhaa
namespace Go.Proofs.Ytdaglofgioehhaa
open Go.ChangeShapes Go.WideShapes Go.ChangeAt Go.RowKit
set_option linter.unusedVariables false

theorem Try.infoU8 : (Try.prog.info? 5).map (fun i => (i.zero, i.size, i.bytes)) = some (some (.int .u8 0), 1, 1) := by kernel_rfl

/-- What stands in the copy after k rounds. -/
def cp (zs : List Int) (k : Nat) : List Int := zs.take k ++ List.replicate (zs.length - k) 0
theorem cp_zero (zs : List Int) : cp zs 0 = List.replicate zs.length 0 := by simp [cp]
theorem cp_all (zs : List Int) : cp zs zs.length = zs := by simp [cp]
theorem cp_len (zs : List Int) (k : Nat) (h : k ≤ zs.length) : (cp zs k).length = zs.length := by simp [cp]; omega
theorem cp_succ (zs : List Int) (k : Nat) (h : k < zs.length) : (cp zs k).set k (zs.getD k 0) = cp zs (k + 1) := by
  unfold cp
  have hl : (zs.take k).length = k := by simp; omega
  rw [take_snoc zs k h, List.set_append_right _ _ (by omega), hl, Nat.sub_self]
  have : zs.length - k = (zs.length - (k + 1)) + 1 := by omega
  rw [this, List.replicate_succ, List.set_cons_zero]; simp

set_option maxHeartbeats 400000 in
theorem toB_any (a : Option Addr) (n cap : Nat) (zs : List Int) (w : World) (hn : zs.length = n) (hm : n ≤ 1048576) (ha : At .u8 w a zs) :
    Calls Try.prog 8 #[.slice a n cap] w fun e w' => e = .returned (.slice (some ⟨w.heap.size, 0, none⟩) n n) ∧
      w'.ownsRow w.heap.size 5 1 (.slice (some ⟨w.heap.size, 0, none⟩) n n) n (zs.map (Value.int .u8)) ∧ Below w.heap.size w w' := by
  obtain ⟨i0, hi, hz0, hz1, hz2⟩ := info_parts Try.infoU8
  have HI : Hid (i0.bytes = 1) := hz2
  clear hz2
  go_enter Try.func8, Try.ntmps8
  go_wp2_with (first
    | (at_make; refine wpList_make_full _ rfl _ _ 22 rfl w.heap.size 5 i0 (.int .u8 0) 1 Try.underlying22 hi hz0 hz1 _ _ _ _ n rfl rfl rfl rfl ?c1 ?c2 ?c3 ?_)
    | fail)
  case c1 => rw [HI.out]; omega
  case c2 => unfold maxLen; omega
  case c3 => exact Nat.le_refl _
  intro w1 hown hgrow
  have hb1 : Below w.heap.size w w1 := (Below.refl _ _).grown hgrow (Nat.le_refl _) (by simp)
  have hown0 : w1.ownsRow w.heap.size 5 1 (.slice (some ⟨w.heap.size, 0, none⟩) n n) n ((cp zs 0).map (Value.int .u8)) := by
    have e : (madeCells #[Value.int IntKind.u8 0] n).toList = (cp zs 0).map (Value.int .u8) := by
      rw [cp_zero]; simp only [toList_madeCells_one, List.map_replicate, hn]
    rw [← e]; exact hown
  clear hown hgrow
  go_wp2
  go_loopw [4] (fun i wr => ∃ k : Nat, k ≤ n ∧ i = .int .i64 k ∧ wr.ownsRow w.heap.size 5 1 (.slice (some ⟨w.heap.size, 0, none⟩) n n) n ((cp zs k).map (Value.int .u8)) ∧ Below w.heap.size w wr) (fun i _ => n - (intOf i).toNat)
  case atStart => exact ⟨0, Nat.zero_le _, rfl, hown0, hb1⟩
  case round =>
    obtain ⟨k, hk, rfl, hown, hbel⟩ := hrel
    by_cases hlt : k < n
    · obtain ⟨b, off, rfl, hb, hc⟩ := ha.get (by omega)
      have hck : wr.cell? ⟨b, off + k, none⟩ = some (.int .u8 (zs.getD k 0)) := by rw [hbel.cell (p := ⟨b, off + k, none⟩) hb]; exact hc k (by omega)
      have hst := hown.stored k (.int .u8 (zs.getD k 0))
      have hmem : wr.cell? ⟨w.heap.size, k, none⟩ = some (.int .u8 ((cp zs k).getD k 0)) := by
        rw [hown.cellAt k (by omega)]
        have := cp_len zs k (by omega)
        simp [show k < (cp zs k).length by omega]
      have hfz := hown.frozenAt k
      rw [← List.map_set, cp_succ zs k (by omega)] at hst
      have HX := hst.1
      have HB : Below w.heap.size w (wr.setCell ⟨w.heap.size, k, none⟩ (.int .u8 (zs.getD k 0))) := hbel.setCell (Nat.le_refl _) _
      clear hst hown hc ha hbel hown0 hb1
      generalize zs.getD k 0 = x at *
      generalize (cp zs k).getD k 0 = y at *
      have HXX : Hid _ := HX
      have HBB : Hid _ := HB
      clear HX HB
      go_wp2
      go_roundw
      case rel => exact ⟨k + 1, by omega, by go_num, HXX.out, HBB.out⟩
      case measure => simp [intOf]; omega
    · have hkn : k = zs.length := by omega
      have HO : Hid (wr.ownsRow w.heap.size 5 1 (.slice (some ⟨w.heap.size, 0, none⟩) n n) n (zs.map (Value.int .u8))) := by rw [hkn, cp_all] at hown; exact hown
      clear hown
      go_wp2
      go_ret
      exact ⟨rfl, HO.out, hbel⟩

theorem drewN_cell (w : World) (n : Nat) (a : Addr) : (w.drewN n).cell? a = w.cell? a := rfl
theorem drewN_drewN (w : World) (m n : Nat) : (w.drewN m).drewN n = w.drewN (m + n) := by
  simp [World.drewN, Nat.add_assoc]

set_option maxHeartbeats 400000 in
theorem eqB_any (a a' : Option Addr) (n cap cap' : Nat) (zs : List Int) (w : World) (hn : zs.length = n) (hm : n ≤ 1048576) (ha : At .u8 w a zs) (ha' : At .u8 w a' zs) :
    Calls Try.prog 10 #[.slice a n cap, .slice a' n cap'] w fun e w' => e = .returned (.bool true) ∧ ∃ q, w' = w.drewN q := by
  have h0 : ((n : Int) != (n : Int)) = false := by simp
  go_enter Try.func10, Try.ntmps10
  go_wp2
  go_loopw [5] (fun i wr => ∃ k q : Nat, k ≤ n ∧ i = .int .i64 k ∧ wr = w.drewN q) (fun i _ => n - (intOf i).toNat)
  case atStart => exact ⟨0, 0, Nat.zero_le _, rfl, rfl⟩
  case round =>
    obtain ⟨k, q, hk, rfl, rfl⟩ := hrel
    by_cases hlt : k < n
    · obtain ⟨b, off, rfl, hb, hc⟩ := ha.get (by omega)
      obtain ⟨b', off', rfl, hb', hc'⟩ := ha'.get (by omega)
      have g1 := hc k (by omega)
      have g2 := hc' k (by omega)
      generalize zs.getD k 0 = x at *
      have hx : (x != x) = false := by simp
      have hlt' : (k : Int) < (n : Int) := by omega
      clear hc hc' ha ha'
      go_wp2
      go_quiet (fail)
      go_wp2
      go_roundw
      case rel => exact ⟨k + 1, _, by omega, by go_num, rfl⟩
      case measure => simp [intOf]; omega
    · go_wp2
      go_ret
      exact ⟨rfl, q, rfl⟩
end Go.Proofs.Ytdaglofgioehhaa
