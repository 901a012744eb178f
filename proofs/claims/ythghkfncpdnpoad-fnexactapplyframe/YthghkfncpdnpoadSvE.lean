/-
  Own work: what the laws do with states: sizes, copies, comparisons (written by wip/mkse.py).
-/
import Derived.Test.YthghkfncpdnpoadSvM
import Derived.Test.YthghkfncpdnpoadBytes
namespace Go.Proofs.Ythghkfncpdnpoad
open Go.ChangeShapes Go.WideShapes Go.ChangeAt Go.RowKit
set_option linter.unusedVariables false

theorem Try.infoI64 : (Try.prog.info? 2).map (fun i => (i.zero, i.size, i.bytes)) = some (some (.int .i64 0), 1, 8) := by kernel_rfl
def szQ (left : Int) (n : Nat) : Int := if left < n then -1 else left - n
set_option maxHeartbeats 400000 in
theorem toI_any (a : Option Addr) (n cap : Nat) (zs : List Int) (w : World) (hn : zs.length = n) (hm : n ≤ 1048576) (ha : At .i64 w a zs) :
    Calls Try.prog 45 #[.slice a n cap] w fun e w' => e = .returned (.slice (some ⟨w.heap.size, 0, none⟩) n n) ∧
      w'.ownsRow w.heap.size 2 1 (.slice (some ⟨w.heap.size, 0, none⟩) n n) n (zs.map (Value.int .i64)) ∧ Below w.heap.size w w' := by
  obtain ⟨i0, hi, hz0, hz1, hz2⟩ := info_parts Try.infoI64
  have HI : Hid (i0.bytes = 8) := hz2
  clear hz2
  go_enter Try.func45, Try.ntmps45
  go_wp2_with (first
    | (at_make; refine wpList_make_full _ rfl _ _ 23 rfl w.heap.size 2 i0 (.int .i64 0) 1 Try.underlying23 hi hz0 hz1 _ _ _ _ n rfl rfl rfl rfl ?c1 ?c2 ?c3 ?_)
    | fail)
  case c1 => rw [HI.out]; omega
  case c2 => unfold maxLen; omega
  case c3 => exact Nat.le_refl _
  intro w1 hown hgrow
  have hb1 : Below w.heap.size w w1 := (Below.refl _ _).grown hgrow (Nat.le_refl _) (by simp)
  have hown0 : w1.ownsRow w.heap.size 2 1 (.slice (some ⟨w.heap.size, 0, none⟩) n n) n ((cp zs 0).map (Value.int .i64)) := by
    have e : (madeCells #[Value.int IntKind.i64 0] n).toList = (cp zs 0).map (Value.int .i64) := by
      rw [cp_zero]; simp only [toList_madeCells_one, List.map_replicate, hn]
    rw [← e]; exact hown
  clear hown hgrow
  go_wp2
  go_loopw [4] (fun i wr => ∃ k : Nat, k ≤ n ∧ i = .int .i64 k ∧ wr.ownsRow w.heap.size 2 1 (.slice (some ⟨w.heap.size, 0, none⟩) n n) n ((cp zs k).map (Value.int .i64)) ∧ Below w.heap.size w wr) (fun i _ => n - (intOf i).toNat)
  case atStart => exact ⟨0, Nat.zero_le _, rfl, hown0, hb1⟩
  case round =>
    obtain ⟨k, hk, rfl, hown, hbel⟩ := hrel
    by_cases hlt : k < n
    · obtain ⟨b, off, rfl, hb, hc⟩ := ha.get (by omega)
      have hck : wr.cell? ⟨b, off + k, none⟩ = some (.int .i64 (zs.getD k 0)) := by rw [hbel.cell (p := ⟨b, off + k, none⟩) hb]; exact hc k (by omega)
      have hst := hown.stored k (.int .i64 (zs.getD k 0))
      have hmem : wr.cell? ⟨w.heap.size, k, none⟩ = some (.int .i64 ((cp zs k).getD k 0)) := by
        rw [hown.cellAt k (by omega)]
        have := cp_len zs k (by omega)
        simp [show k < (cp zs k).length by omega]
      have hfz := hown.frozenAt k
      rw [← List.map_set, cp_succ zs k (by omega)] at hst
      have HX := hst.1
      have HB : Below w.heap.size w (wr.setCell ⟨w.heap.size, k, none⟩ (.int .i64 (zs.getD k 0))) := hbel.setCell (Nat.le_refl _) _
      clear hst hown hc ha hbel hown0 hb1
      generalize zs.getD k 0 = x at *
      generalize (cp zs k).getD k 0 = y at *
      have HXX : Hid _ := HX
      have HBB : Hid _ := HB
      clear HX HB
      go_wp2
      go_roundw
      case rel => exact ⟨k + 1, by omega, by go_num, HXX.out, HBB.out⟩
      case measure => simp [intOf]; omega
    · have hkn : k = zs.length := by omega
      have HO : Hid (wr.ownsRow w.heap.size 2 1 (.slice (some ⟨w.heap.size, 0, none⟩) n n) n (zs.map (Value.int .i64))) := by rw [hkn, cp_all] at hown; exact hown
      clear hown
      go_wp2
      go_ret
      exact ⟨rfl, HO.out, hbel⟩

set_option maxHeartbeats 400000 in
theorem eqI_any (a a' : Option Addr) (n cap cap' : Nat) (zs : List Int) (w : World) (hn : zs.length = n) (hm : n ≤ 1048576) (ha : At .i64 w a zs) (ha' : At .i64 w a' zs) :
    Calls Try.prog 50 #[.slice a n cap, .slice a' n cap'] w fun e w' => e = .returned (.bool true) ∧ ∃ q, w' = w.drewN q := by
  have h0 : ((n : Int) != (n : Int)) = false := by simp
  go_enter Try.func50, Try.ntmps50
  go_wp2
  go_loopw [5] (fun i wr => ∃ k q : Nat, k ≤ n ∧ i = .int .i64 k ∧ wr = w.drewN q) (fun i _ => n - (intOf i).toNat)
  case atStart => exact ⟨0, 0, Nat.zero_le _, rfl, rfl⟩
  case round =>
    obtain ⟨k, q, hk, rfl, rfl⟩ := hrel
    by_cases hlt : k < n
    · obtain ⟨b, off, rfl, hb, hc⟩ := ha.get (by omega)
      obtain ⟨b', off', rfl, hb', hc'⟩ := ha'.get (by omega)
      have g1 := hc k (by omega)
      have g2 := hc' k (by omega)
      generalize zs.getD k 0 = x at *
      have hx : (x != x) = false := by simp
      have hlt' : (k : Int) < (n : Int) := by omega
      clear hc hc' ha ha'
      go_wp2
      go_quiet (fail)
      go_wp2
      go_roundw
      case rel => exact ⟨k + 1, _, by omega, by go_num, rfl⟩
      case measure => simp [intOf]; omega
    · go_wp2
      go_ret
      exact ⟨rfl, q, rfl⟩
set_option maxHeartbeats 400000 in
theorem szI_any (a : Option Addr) (n cap : Nat) (left : Int) (w : World) (h0 : 0 ≤ left) (h1 : left ≤ 1048576) (hn : n ≤ 9223372036854775807) :
    Calls Try.prog 38 #[.slice a n cap, .int .i64 left] w fun e w' => e = .returned (.int .i64 (szQ left n)) ∧ w' = w := by
  have HZ : Hid (szQ left n = if left < n then -1 else left - n) := rfl
  by_cases h : left < n
  · have t : left - (n : Int) < 0 := by omega
    go_enter Try.func38, Try.ntmps38
    go_wp2
    go_ret
    exact ⟨ret_int (by rw [HZ.out, if_pos h]), rfl⟩
  · have t : ¬ (left - (n : Int) < 0) := by omega
    go_enter Try.func38, Try.ntmps38
    go_wp2
    go_ret
    exact ⟨ret_int (by rw [HZ.out, if_neg (by omega)]), rfl⟩
set_option maxHeartbeats 400000 in
theorem szT_any (a : Option Addr) (n cap : Nat) (left : Int) (w : World) (h0 : 0 ≤ left) (h1 : left ≤ 1048576) (hn : n ≤ 9223372036854775807) :
    Calls Try.prog 39 #[.slice a n cap, .int .i64 left] w fun e w' => e = .returned (.int .i64 (szQ left n)) ∧ w' = w := by
  have HZ : Hid (szQ left n = if left < n then -1 else left - n) := rfl
  by_cases h : left < n
  · have t : left - (n : Int) < 0 := by omega
    go_enter Try.func39, Try.ntmps39
    go_wp2
    go_ret
    exact ⟨ret_int (by rw [HZ.out, if_pos h]), rfl⟩
  · have t : ¬ (left - (n : Int) < 0) := by omega
    go_enter Try.func39, Try.ntmps39
    go_wp2
    go_ret
    exact ⟨ret_int (by rw [HZ.out, if_neg (by omega)]), rfl⟩
set_option maxHeartbeats 1000000 in
theorem szS_any (aD aU aT : Option Addr) (nD cD nU cU nT cT : Nat) (k : Int) (w : World) (mD : nD ≤ 9223372036854775807) (mU : nU ≤ 9223372036854775807) (mT : nT ≤ 9223372036854775807) :
    Calls Try.prog 11 #[.agg #[.slice aD nD cD, .slice aU nU cU, .int .i64 k, .slice aT nT cT], .int .i64 1048576] w fun e w' => e = .returned (.int .i64 (szQ 1048576 (nD + nU + nT))) ∧ Below w.heap.size w w' := by
  have HZ : Hid (∀ left n, szQ left n = if left < n then -1 else left - n) := fun _ _ => rfl
  have hb := (Below.refl w.heap.size w).alloc (Nat.le_refl _) (.cells #[.slice aD nD cD, .slice aU nU cU, .int .i64 k, .slice aT nT cT] 29)
  have HB : Hid (Below w.heap.size w (w.alloc (.cells #[.slice aD nD cD, .slice aU nU cU, .int .i64 k, .slice aT nT cT] 29))) := hb
  clear hb
  by_cases h1 : (1048576 : Int) < nD
  · have r1 : szQ 1048576 nD = -1 := by rw [HZ.out, if_pos h1]
    have e0 : szQ 1048576 (nD + nU + nT) = -1 := by rw [HZ.out, if_pos (by omega)]
    have HE : Hid (szQ 1048576 (nD + nU + nT) = -1) := e0
    clear e0 h1
    go_enter Try.func11, Try.ntmps11
    go_wp2_with (first | (go_at_call 38; refine (szI_any _ _ _ _ _ (by decide) (by decide) mD).mono ?_; rintro e w1 ⟨rfl, rfl⟩; rw [r1]) | fail)
    go_ret
    exact ⟨ret_int HE.out.symm, HB.out⟩
  · have r1 : szQ 1048576 nD = 1048576 - nD := by rw [HZ.out, if_neg h1]
    by_cases h2 : (1048576 : Int) - nD < nU
    · have r2 : szQ (1048576 - nD) nU = -1 := by rw [HZ.out, if_pos h2]
      have HE : Hid (szQ 1048576 (nD + nU + nT) = -1) := by show _ = _; rw [HZ.out, if_pos (by omega)]
      have HR : Hid (szQ 1048576 nD = 1048576 - nD ∧ szQ (1048576 - nD) nU = -1) := ⟨r1, r2⟩
      have g1 : ¬ ((1048576 : Int) - nD < 0) := by omega
      have p0 : 0 ≤ (1048576 : Int) - nD := by omega
      have p1 : (1048576 : Int) - nD ≤ 1048576 := by omega
      clear r1 r2 h1 h2
      go_enter Try.func11, Try.ntmps11
      go_wp2_with fail
      refine (szI_any _ _ _ _ _ (by decide) (by decide) mD).mono ?_
      rintro e w1 ⟨rfl, rfl⟩
      rw [HR.out.1]
      go_wp2_with fail
      refine (szI_any _ _ _ _ _ p0 p1 mU).mono ?_
      rintro e w1 ⟨rfl, rfl⟩
      rw [HR.out.2]
      go_wp2
      go_ret
      exact ⟨ret_int HE.out.symm, HB.out⟩
    · have r2 : szQ (1048576 - nD) nU = 1048576 - nD - nU := by rw [HZ.out, if_neg h2]
      have HE : Hid (szQ (1048576 - nD - nU) nT = szQ 1048576 (nD + nU + nT)) := by
        show _ = _
        rw [HZ.out, HZ.out]
        by_cases h3 : (1048576 : Int) - nD - nU < nT
        · rw [if_pos h3, if_pos (by omega)]
        · rw [if_neg h3, if_neg (by omega)]; omega
      have HR : Hid (szQ 1048576 nD = 1048576 - nD ∧ szQ (1048576 - nD) nU = 1048576 - nD - nU) := ⟨r1, r2⟩
      have g1 : ¬ ((1048576 : Int) - nD < 0) := by omega
      have g2 : ¬ ((1048576 : Int) - nD - nU < 0) := by omega
      have p0 : 0 ≤ (1048576 : Int) - nD := by omega
      have p1 : (1048576 : Int) - nD ≤ 1048576 := by omega
      have p2 : 0 ≤ (1048576 : Int) - nD - nU := by omega
      have p3 : (1048576 : Int) - nD - nU ≤ 1048576 := by omega
      clear r1 r2 h1 h2
      go_enter Try.func11, Try.ntmps11
      go_wp2_with fail
      refine (szI_any _ _ _ _ _ (by decide) (by decide) mD).mono ?_
      rintro e w1 ⟨rfl, rfl⟩
      rw [HR.out.1]
      go_wp2_with fail
      refine (szI_any _ _ _ _ _ p0 p1 mU).mono ?_
      rintro e w1 ⟨rfl, rfl⟩
      rw [HR.out.2]
      go_wp2_with fail
      refine (szT_any _ _ _ _ _ p2 p3 mT).mono ?_
      rintro e w1 ⟨rfl, rfl⟩
      rw [HE.out]
      have HM : Hid (szQ 1048576 (nD + nU + nT) < 0 → szQ 1048576 (nD + nU + nT) = -1) := fun h => by rw [HZ.out] at h ⊢; split at h <;> (try split) <;> omega
      by_cases h3 : szQ 1048576 (nD + nU + nT) < 0
      · have e3 := HM.out h3
        rw [e3]
        go_wp2
        go_ret
        exact ⟨ret_int e3.symm, HB.out⟩
      · clear HE HM
        generalize hz : szQ 1048576 (nD + nU + nT) = z at *
        have HZZ : Hid (szQ 1048576 (nD + nU + nT) = z) := hz
        clear hz
        go_wp2
        go_ret
        exact ⟨ret_int HZZ.out.symm, HB.out⟩
end Go.Proofs.Ythghkfncpdnpoad
