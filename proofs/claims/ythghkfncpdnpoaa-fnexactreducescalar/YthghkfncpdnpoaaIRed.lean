/-
  Own work: the program's rest modulo L.
-/
import Derived.Test.YthghkfncpdnpoaaINum
namespace Go.Proofs.Ythghkfncpdnpoaa
open Go.ChangeShapes Go.WideShapes Go.ChangeAt Go.RowKit
set_option linter.unusedVariables false

theorem Try.sizeNum : (Try.prog.info? 45).map (·.size) = some 4 := by kernel_rfl
theorem sizeNum {ns : List Int} (h : ns.length = 4) : (Try.prog.info? 45).map (·.size) = some ((ns.map (Value.int .u64)).toArray).size := by rw [Try.sizeNum]; simp [h]

def lW : List Int := [6346243789798364141, 1503914060200516822, 0, 1152921504606846976]
theorem lW_val : val 18446744073709551616 lW = bigL := by decide
theorem lW_wrd : Wrd lW := by unfold Wrd lW; decide

set_option maxHeartbeats 400000 in
theorem gord_any (w : World) :
    Calls Try.prog 39 #[] w fun e w' => e = .returned (.agg (lW.map (Value.int .u64)).toArray) ∧ Below w.heap.size w w' := by
  have HR : Hid (RowW (w.alloc (.cells #[.int .u64 0, .int .u64 0, .int .u64 0, .int .u64 0] 45)) w.heap.size 45 [0, 0, 0, 0]) := heap_alloc_new w _
  have HSZ : Hid ((Try.prog.info? 45).map (·.size) = some ((lW.map (Value.int .u64)).toArray).size) := sizeNum rfl
  go_enter Try.func39, Try.ntmps39
  go_wp2_with (refine wpList_store_row rfl 45 (.tmp 0) (.tmp 1) rfl w.heap.size ((lW.map (Value.int .u64)).toArray) rfl rfl 45 _ HR.out HSZ.out rfl (all_oneCell_toArray (ints_oneCell _ _)) ?_)
  refine bodyPost_ret (v := .agg (lW.map (Value.int .u64)).toArray) (results_cell_row rfl _ _ w.heap.size 45 _ (0, 0) _ rfl (setRow_heap _ _ _ _ _ _ HR.out) Try.underlying45 rfl HSZ.out) rfl ⟨rfl, ?_⟩
  exact (below_new2 _ _).trans ((Wr.setRow _ _ _).below (Nat.le_refl _))

theorem index_num (cs : Array Value) (k : Nat) (v : Value) (w : World) (hk : (k : Int) < 4) (h : cs[k]? = some v) :
    (Instr.index 45 (.agg cs) (.int .i64 k)).run Try.prog w = .ok v w := by
  simp [Instr.index, asIntOf, run_underlying Try.underlying45, part, h, go_sem]
  omega

def oncePost (w : World) (g : Nat) (ns : List Int) (e : Ending) (w' : World) : Prop :=
  e = .returned (.tuple #[]) ∧ ∃ ms, ms.length = 4 ∧ RowW w' g 45 ms ∧ Wrd ms ∧ val 18446744073709551616 ms = (if bigL ≤ val 18446744073709551616 ns then val 18446744073709551616 ns - bigL else val 18446744073709551616 ns) ∧ WrH g w w'

structure OS (w : World) (g : Nat) (ns : List Int) (k : Nat) (b : Int) (wr : World) : Prop where
  bd : 0 ≤ b ∧ b ≤ 1
  row : RowW wr g 45 ns
  less : ∃ ms, ms.length = 4 ∧ RowW wr w.heap.size 45 ms ∧ Wrd ms ∧ val 18446744073709551616 (ns.take k) - val 18446744073709551616 (lW.take k) = val 18446744073709551616 (ms.take k) - b * 18446744073709551616 ^ k
  below : Below w.heap.size w wr

set_option maxHeartbeats 1000000 in
theorem once_any (g : Nat) (ns : List Int) (w : World) (hl : ns.length = 4) (hr : RowW w g 45 ns) (hw : Wrd ns) :
    Calls Try.prog 37 #[.pointer (some ⟨g, 0, none⟩)] w (oncePost w g ns) := by
  have hg := hr.lt
  have HN : Hid (RowW w g 45 ns) := hr
  have HR : Hid (RowW (w.alloc (.cells #[.int .u64 0, .int .u64 0, .int .u64 0, .int .u64 0] 45)) w.heap.size 45 [0, 0, 0, 0]) := heap_alloc_new w _
  have HSZ : Hid ((Try.prog.info? 45).map (·.size) = some ((ns.map (Value.int .u64)).toArray).size) := sizeNum hl
  have HZ4 : Hid ((#[Value.int .u64 0, .int .u64 0, .int .u64 0, .int .u64 0] : Array Value).size = ((ns.map (Value.int .u64)).toArray).size) := by show _ = _; simp [hl]
  have HB : Hid (Below w.heap.size w (w.alloc (.cells #[.int .u64 0, .int .u64 0, .int .u64 0, .int .u64 0] 45))) := below_new2 _ _
  clear hr
  go_enter Try.func37, Try.ntmps37
  go_wp2_with (first
    | (refine wpList_load_row rfl 45 (.tmp 7) rfl g rfl 45 _ (0, 0) _ HN.out Try.underlying45 rfl HSZ.out ?_)
    | (refine wpList_store_row rfl 45 (.tmp 2) (.tmp 8) rfl w.heap.size ((ns.map (Value.int .u64)).toArray) rfl rfl 45 _ HR.out HSZ.out HZ4.out (all_oneCell_toArray (ints_oneCell _ _)) ?_)
    | fail)
  have R1 : RowW ((w.alloc (.cells #[.int .u64 0, .int .u64 0, .int .u64 0, .int .u64 0] 45)).setRow w.heap.size (ns.map (Value.int .u64)).toArray) w.heap.size 45 ns := HR.out.setRow ns
  have R2 : RowW ((w.alloc (.cells #[.int .u64 0, .int .u64 0, .int .u64 0, .int .u64 0] 45)).setRow w.heap.size (ns.map (Value.int .u64)).toArray) g 45 ns := (HN.out.below HB.out hg).setRow_other _ (by omega)
  have B1 : Below w.heap.size w ((w.alloc (.cells #[.int .u64 0, .int .u64 0, .int .u64 0, .int .u64 0] 45)).setRow w.heap.size (ns.map (Value.int .u64)).toArray) := HB.out.trans ((Wr.setRow _ _ _).below (Nat.le_refl _))
  clear HR HZ4 HB HSZ
  generalize (w.alloc (.cells #[.int .u64 0, .int .u64 0, .int .u64 0, .int .u64 0] 45)).setRow w.heap.size (ns.map (Value.int .u64)).toArray = w1 at *
  refine (gord_any _).mono ?_
  rintro e w2 ⟨rfl, B2⟩
  have s1 := R1.lt
  have R1' := R1.below B2 s1
  have R2' := R2.below B2 R2.lt
  have B12 : Below w.heap.size w w2 := B1.trans (B2.mono (by omega))
  have HS : Hid (OS w g ns 0 0 w2) := ⟨⟨by decide, by decide⟩, R2', ⟨ns, hl, R1', hw, by simp [val]⟩, B12⟩
  clear R1 R2 B1 B2 R1' R2' B12 HN s1
  go_wp2
  go_loopw [3, 10] (fun c i wr => ∃ (k : Nat) (b : Int), k ≤ 4 ∧ i = .int .i64 k ∧ c = .int .u64 b ∧ OS w g ns k b wr) (fun _ i _ => 4 - (intOf i).toNat)
  case atStart => exact ⟨0, 0, Nat.zero_le _, rfl, rfl, HS.out⟩
  case round =>
    obtain ⟨k, b, hk, rfl, rfl, ⟨hb0, hb1⟩, hrow, ⟨ms, hml, hmr, hmw, hv⟩, hbel⟩ := hrel
    clear HS
    by_cases hlt : k < 4
    · have cn := hrow.cell k (by omega)
      have cm := hmr.cell k (by omega)
      have fm := hmr.frozen k
      have hx := hw.get k
      have hy := lW_wrd.get k
      have hne : g ≠ w.heap.size := by omega
      have hbe := bor_eq _ _ _ hx.1 hx.2 hy.1 hy.2 hb0 hb1
      have hbb := bor_bd (ns.getD k 0) (lW.getD k 0) b
      have hd0 : 0 ≤ (ns.getD k 0 - lW.getD k 0 - b) % 18446744073709551616 := by omega
      have hd1 : (ns.getD k 0 - lW.getD k 0 - b) % 18446744073709551616 < 18446744073709551616 := by omega
      have S1 := hmr.set k ((ns.getD k 0 - lW.getD k 0 - b) % 18446744073709551616)
      have S2 := hmw.set k _ hd0 hd1
      have S3 := sub_step _ _ _ _ _ _ _ _ _ _ hv hbe
      rw [← val_take _ ns k (by omega), ← val_take _ lW k (by simpa [lW] using hlt), ← val_set_succ _ ms k _ (by omega), ← Int.pow_succ] at S3
      have R : RowW (wr.setCell ⟨w.heap.size, k, none⟩ (.int .u64 ((ns.getD k 0 - lW.getD k 0 - b) % 18446744073709551616))) g 45 ns := ((Wr.refl _ _).setCell k _).rowW hrow hne
      have HO : Hid (OS w g ns (k + 1) (bor (ns.getD k 0) (lW.getD k 0) b) (wr.setCell ⟨w.heap.size, k, none⟩ (.int .u64 ((ns.getD k 0 - lW.getD k 0 - b) % 18446744073709551616)))) :=
        ⟨hbb, R, ⟨_, by rw [List.length_set]; exact hml, S1, S2, S3⟩, hbel.setCell (Nat.le_refl _) _⟩
      clear hbe hbb hd0 hd1 S1 S2 S3 R hrow hmr hmw hv hbel
      obtain ⟨hx0, hx1⟩ := hx
      obtain ⟨hy0, hy1⟩ := hy
      generalize ns.getD k 0 = x at *
      have hlt' : (k : Int) < 4 := by omega
      have hix : (lW.map (Value.int .u64)).toArray[k]? = some (.int .u64 (lW.getD k 0)) := by
        have : k < lW.length := by simpa [lW] using hlt
        simp [this]
      have hsz : (lW.map (Value.int .u64)).toArray.size = 4 := rfl
      generalize (lW.map (Value.int .u64)).toArray = la at *
      generalize lW.getD k 0 = y at *
      go_wp2_with (first | simp only [index_num la k _ _ hlt' hix] | simp only [sub64 x y b hx0 hy0 hy1 hb0 hb1])
      exact ⟨⟨k + 1, bor x y b, by omega, by go_num, rfl, HO.out⟩, by simp [intOf]; omega⟩
    · have hk4 : k = 4 := by omega
      subst hk4
      rw [List.take_of_length_le (by omega), List.take_of_length_le (by simp [lW]), List.take_of_length_le (by omega), lW_val] at hv
      have m0 : 0 ≤ val 18446744073709551616 ms := val_nonneg (by decide) hmw
      have m1 : val 18446744073709551616 ms < 18446744073709551616 ^ 4 := by rw [← hml]; exact val_lt (by decide) hmw
      have hne : g ≠ w.heap.size := by omega
      have HSZ : Hid ((Try.prog.info? 45).map (·.size) = some ((ms.map (Value.int .u64)).toArray).size) := sizeNum hml
      have HSN : Hid ((ns.map (Value.int .u64)).toArray.size = (ms.map (Value.int .u64)).toArray.size) := by show _ = _; simp [hl, hml]
      have HN : Hid (RowW wr g 45 ns) := hrow
      have HM : Hid (RowW wr w.heap.size 45 ms) := hmr
      rcases (show b = 0 ∨ b = 1 by omega) with rfl | rfl
      · have HP : Hid (oncePost w g ns (.returned (.tuple #[])) (wr.setRow g (ms.map (Value.int .u64)).toArray)) := by
          refine ⟨rfl, ms, hml, hrow.setRow ms, hmw, ?_, ?_⟩
          · rw [if_pos (by omega)]; omega
          · exact (WrH.of_below hbel).trans (Wr.setRow _ _ _).wrH
        clear hv m0 m1 hrow hmr hmw hbel
        go_wp2_with (first
          | (refine wpList_load_row rfl 45 (.tmp 2) rfl w.heap.size rfl 45 _ (0, 0) _ HM.out Try.underlying45 rfl HSZ.out ?_)
          | (refine wpList_store_row rfl 45 (.tmp 32) (.tmp 31) rfl g ((ms.map (Value.int .u64)).toArray) rfl rfl 45 _ HN.out HSZ.out HSN.out (all_oneCell_toArray (ints_oneCell _ _)) ?_)
          | fail)
        go_end0
        exact HP.out
      · have HP : Hid (oncePost w g ns (.returned (.tuple #[])) wr) := by
          refine ⟨rfl, ns, hl, hrow, hw, ?_, WrH.of_below hbel⟩
          rw [if_neg (by omega)]
        clear hv m0 m1 hrow hmr hmw hbel
        go_wp2
        go_end0
        exact HP.out

def NumPost (w : World) (v : Int) (e : Ending) (w' : World) : Prop :=
  ∃ ms : List Int, ms.length = 4 ∧ Wrd ms ∧ val 18446744073709551616 ms = v ∧ e = .returned (.agg (ms.map (Value.int .u64)).toArray) ∧ Below w.heap.size w w'

theorem u8_shr_and {x b : Int} {r : Nat} (h0 : 0 ≤ x) (h1 : x < 256) (h : b = x / 2 ^ r % 2) : bits .and .u64 (IntKind.u64.wrap (x / 2 ^ r)) 1 = b := by
  have hp : (0 : Int) < 2 ^ r := Int.pow_pos (by decide)
  have a0 : 0 ≤ x / 2 ^ r := Int.ediv_nonneg h0 (by omega)
  have a1 : x / 2 ^ r ≤ x := Int.ediv_le_self _ h0
  generalize x / 2 ^ r = y at *
  rw [IntKind.wrap_u64, Int.emod_eq_of_lt a0 (by omega), u64_and_mask y 1 a0 (by omega) 1 (by decide) (by decide), h]; rfl

structure RN (w : World) (V : Int) (j : Nat) (wr : World) : Prop where
  res : RowW wr w.heap.size 45 [0, 0, 0, 0]
  row : ∃ ns, ns.length = 4 ∧ RowW wr (w.heap.size + 1) 45 ns ∧ Wrd ns ∧ val 18446744073709551616 ns = restAt V j
  below : Below w.heap.size w wr

set_option maxHeartbeats 1000000 in
theorem rnum_any (a : Option Addr) (n cap : Nat) (zs : List Int) (w : World) (hn : zs.length = n) (hm : n ≤ 1048576) (ha : At .u8 w a zs) (hz : Byte zs) :
    Calls Try.prog 26 #[.slice a n cap] w (NumPost w (val 256 zs % bigL)) := by
  have hV0 : 0 ≤ val 256 zs := val_nonneg (by decide) hz
  have hV1 : val 256 zs < 2 ^ (8 * n) := by rw [← pow256, ← hn]; exact val_lt (by decide) hz
  have HT : Hid (restAt (val 256 zs) (8 * n) = 0) := restAt_top _ _ hV0 hV1
  have HS : Hid (RN w (val 256 zs) (8 * n) ((w.alloc (.cells #[.int .u64 0, .int .u64 0, .int .u64 0, .int .u64 0] 45)).alloc (.cells #[.int .u64 0, .int .u64 0, .int .u64 0, .int .u64 0] 45))) :=
    ⟨heap_alloc2_old _ _ _, ⟨[0, 0, 0, 0], rfl, heap_alloc2_new _ _ _, by unfold Wrd; decide, by rw [HT.out]; decide⟩, ((Below.refl _ _).alloc (Nat.le_refl _) _).alloc (by simp) _⟩
  clear hV0 hV1 HT
  go_enter Try.func26, Try.ntmps26
  go_wp2
  go_loopw [4] (fun i wr => ∃ (j : Nat), j ≤ 8 * n ∧ i = .int .i64 ((j : Int) - 1) ∧ RN w (val 256 zs) j wr) (fun i _ => (intOf i + 1).toNat)
  case atStart => exact ⟨8 * n, Nat.le_refl _, by go_num, HS.out⟩
  case round =>
    clear HS
    obtain ⟨j, hj, rfl, hres, ⟨ns, hl, hrow, hw, hv⟩, hbel⟩ := hrel
    by_cases hj0 : 0 < j
    · obtain ⟨j, rfl⟩ : ∃ i, j = i + 1 := ⟨j - 1, by omega⟩
      have ei : ((j + 1 : Nat) : Int) - 1 = (j : Int) := by omega
      rw [ei]
      clear ei
      obtain ⟨b0, off, rfl, hb0, hc⟩ := (ha.below hbel).get (by omega)
      have c0 := hc (j / 8) (by omega)
      have hb := bitAt_byte zs j hz
      have hx := hz.get (j / 8)
      generalize zs.getD (j / 8) 0 = x at *
      obtain ⟨hx0, hx1⟩ := hx
      clear hc
      have hand := u8_shr_and hx0 hx1 hb
      have hbd := bitAt_bd (val 256 zs) j
      have hst := restAt_step (val 256 zs) j
      have hbL := restAt_bd (val 256 zs) (j + 1)
      rw [← hv] at hst hbL
      generalize bitAt (val 256 zs) j = bj at *
      have HAND : Hid (bits .and .u64 (IntKind.u64.wrap (x / 2 ^ (j % 8))) 1 = bj) := hand
      have HST : Hid (restAt (val 256 zs) j = if bigL ≤ 2 * val 18446744073709551616 ns + bj then 2 * val 18446744073709551616 ns + bj - bigL else 2 * val 18446744073709551616 ns + bj) := hst
      have HV : Hid (0 ≤ val 18446744073709551616 ns ∧ val 18446744073709551616 ns < bigL) := hbL
      have HBD : Hid (bj = 0 ∨ bj = 1) := hbd
      clear hb hand hst hbL hv hbd
      have HRS : Hid (RowW wr w.heap.size 45 [0, 0, 0, 0]) := hres
      have HRO : Hid (RowW wr (w.heap.size + 1) 45 ns) := hrow
      have HBE : Hid (Below w.heap.size w wr) := hbel
      clear hres hrow hbel
      go_wp2_with fail
      rw [HAND.out]
      refine (push_any _ ns bj _ hl HRO.out hw HBD.out).mono ?_
      rintro e w1 ⟨rfl, ms, hml, hmr, hmw, ⟨c, hc0, hcv⟩, hwr1⟩
      have hc00 : c = 0 := by
        rcases Int.lt_or_le 0 c with h | h
        · exfalso
          have := HV.out; have := HBD.out
          unfold bigL at *
          have m0 : 0 ≤ val 18446744073709551616 ms := val_nonneg (by decide) hmw
          have h2 : (18446744073709551616 : Int) ^ 4 = 115792089237316195423570985008687907853269984665640564039457584007913129639936 := by decide
          rw [h2] at hcv
          omega
        · omega
      subst hc00
      have hmv : val 18446744073709551616 ms = 2 * val 18446744073709551616 ns + bj := by omega
      have HMR : Hid (RowW w1 (w.heap.size + 1) 45 ms) := hmr
      have HMV : Hid (val 18446744073709551616 ms = 2 * val 18446744073709551616 ns + bj) := hmv
      have HRS1 : Hid (RowW w1 w.heap.size 45 [0, 0, 0, 0]) := hwr1.rowW HRS.out (by omega)
      have HBE1 : Hid (Below w.heap.size w w1) := HBE.out.trans (hwr1.below (by omega))
      clear hcv hmr hmv hwr1 HRS HBE HRO c0
      go_wp2_with fail
      refine (once_any _ ms _ hml HMR.out hmw).mono ?_
      rintro e w2 ⟨rfl, ls, hll, hlr, hlw, hlv, hwr2⟩
      rw [HMV.out, ← HST.out] at hlv
      have HP : Hid (RN w (val 256 zs) j w2) := ⟨hwr2.rowW HRS1.out (by omega), ⟨ls, hll, hlr, hlw, hlv⟩, HBE1.out.trans (hwr2.below _ (by omega) HBE1.out.size)⟩
      clear hlv hwr2 hlr hlw HRS1 HBE1 HMR HMV HST HV HAND
      go_wp2
      go_roundw
      case rel => exact ⟨j, by omega, rfl, HP.out⟩
      case measure => first | (simp [intOf]; done) | (simp [intOf]; omega)
    · obtain rfl : j = 0 := by omega
      rw [restAt_zero] at hv
      have HSZ : Hid ((Try.prog.info? 45).map (·.size) = some ((ns.map (Value.int .u64)).toArray).size) := sizeNum hl
      have HZ4 : Hid (([0, 0, 0, 0].map (Value.int .u64)).toArray.size = ((ns.map (Value.int .u64)).toArray).size) := by show _ = _; simp [hl]
      have HRS : Hid (RowW wr w.heap.size 45 [0, 0, 0, 0]) := hres
      have HRO : Hid (RowW wr (w.heap.size + 1) 45 ns) := hrow
      have HBE : Hid (Below w.heap.size w wr) := hbel
      have HV : Hid (val 18446744073709551616 ns = val 256 zs % bigL) := hv
      clear hres hrow hbel hv
      go_wp2_with (first
        | (refine wpList_load_row rfl 45 (.tmp 3) rfl (w.heap.size + 1) rfl 45 _ (0, 0) _ HRO.out Try.underlying45 rfl HSZ.out ?_)
        | (refine wpList_store_row rfl 45 (.tmp 2) (.tmp 25) rfl w.heap.size ((ns.map (Value.int .u64)).toArray) rfl rfl 45 _ HRS.out HSZ.out HZ4.out (all_oneCell_toArray (ints_oneCell _ _)) ?_))
      refine bodyPost_ret (v := .agg (ns.map (Value.int .u64)).toArray) (results_cell_row rfl _ _ w.heap.size 45 _ (0, 0) _ rfl (setRow_heap _ _ _ _ _ _ HRS.out) Try.underlying45 rfl HSZ.out) rfl ⟨ns, hl, hw, HV.out, rfl, ?_⟩
      exact HBE.out.trans ((Wr.setRow _ _ _).below (Nat.le_refl _))
end Go.Proofs.Ythghkfncpdnpoaa
