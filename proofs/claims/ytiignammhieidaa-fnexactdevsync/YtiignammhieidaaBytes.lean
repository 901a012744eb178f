/-
  Own work: contracts of the laws' helpers on slices of bytes.
-/
import Derived.Test.YtiignammhieidaaBase
namespace Go.Proofs.Ytiignammhieidaa
open Go.ChangeShapes Go.WideShapes Go.ChangeAt Go.RowKit
set_option linter.unusedVariables false

theorem Try.infoU8 : (Try.prog.info? 5).map (fun i => (i.zero, i.size, i.bytes)) = some (some (.int .u8 0), 1, 1) := by kernel_rfl

/-- What stands in the copy after k rounds. -/
def cp (zs : List Int) (k : Nat) : List Int := zs.take k ++ List.replicate (zs.length - k) 0
theorem cp_zero (zs : List Int) : cp zs 0 = List.replicate zs.length 0 := by simp [cp]
theorem cp_all (zs : List Int) : cp zs zs.length = zs := by simp [cp]
theorem cp_len (zs : List Int) (k : Nat) (h : k ≤ zs.length) : (cp zs k).length = zs.length := by simp [cp]; omega
theorem cp_succ (zs : List Int) (k : Nat) (h : k < zs.length) : (cp zs k).set k (zs.getD k 0) = cp zs (k + 1) := by
  unfold cp
  have hl : (zs.take k).length = k := by simp; omega
  rw [take_snoc zs k h, List.set_append_right _ _ (by omega), hl, Nat.sub_self]
  have : zs.length - k = (zs.length - (k + 1)) + 1 := by omega
  rw [this, List.replicate_succ, List.set_cons_zero]; simp

set_option maxHeartbeats 400000 in
theorem toB_any (a : Option Addr) (n cap : Nat) (zs : List Int) (w : World) (hn : zs.length = n) (hm : n ≤ 1048576) (ha : At .u8 w a zs) :
    Calls Try.prog 8 #[.slice a n cap] w fun e w' => e = .returned (.slice (some ⟨w.heap.size, 0, none⟩) n n) ∧
      w'.ownsRow w.heap.size 5 1 (.slice (some ⟨w.heap.size, 0, none⟩) n n) n (zs.map (Value.int .u8)) ∧ Below w.heap.size w w' := by
  obtain ⟨i0, hi, hz0, hz1, hz2⟩ := info_parts Try.infoU8
  have HI : Hid (i0.bytes = 1) := hz2
  clear hz2
  go_enter Try.func8, Try.ntmps8
  go_wp2_with (first
    | (at_make; refine wpList_make_full _ rfl _ _ 22 rfl w.heap.size 5 i0 (.int .u8 0) 1 Try.underlying22 hi hz0 hz1 _ _ _ _ n rfl rfl rfl rfl ?c1 ?c2 ?c3 ?_)
    | fail)
  case c1 => rw [HI.out]; omega
  case c2 => unfold maxLen; omega
  case c3 => exact Nat.le_refl _
  intro w1 hown hgrow
  have hb1 : Below w.heap.size w w1 := (Below.refl _ _).grown hgrow (Nat.le_refl _) (by simp)
  have hown0 : w1.ownsRow w.heap.size 5 1 (.slice (some ⟨w.heap.size, 0, none⟩) n n) n ((cp zs 0).map (Value.int .u8)) := by
    have e : (madeCells #[Value.int IntKind.u8 0] n).toList = (cp zs 0).map (Value.int .u8) := by
      rw [cp_zero]; simp only [toList_madeCells_one, List.map_replicate, hn]
    rw [← e]; exact hown
  clear hown hgrow
  go_wp2
  go_loopw [4] (fun i wr => ∃ k : Nat, k ≤ n ∧ i = .int .i64 k ∧ wr.ownsRow w.heap.size 5 1 (.slice (some ⟨w.heap.size, 0, none⟩) n n) n ((cp zs k).map (Value.int .u8)) ∧ Below w.heap.size w wr) (fun i _ => n - (intOf i).toNat)
  case atStart => exact ⟨0, Nat.zero_le _, rfl, hown0, hb1⟩
  case round =>
    obtain ⟨k, hk, rfl, hown, hbel⟩ := hrel
    by_cases hlt : k < n
    · obtain ⟨b, off, rfl, hb, hc⟩ := ha.get (by omega)
      have hck : wr.cell? ⟨b, off + k, none⟩ = some (.int .u8 (zs.getD k 0)) := by rw [hbel.cell (p := ⟨b, off + k, none⟩) hb]; exact hc k (by omega)
      have hst := hown.stored k (.int .u8 (zs.getD k 0))
      have hmem : wr.cell? ⟨w.heap.size, k, none⟩ = some (.int .u8 ((cp zs k).getD k 0)) := by
        rw [hown.cellAt k (by omega)]
        have := cp_len zs k (by omega)
        simp [show k < (cp zs k).length by omega]
      have hfz := hown.frozenAt k
      rw [← List.map_set, cp_succ zs k (by omega)] at hst
      have HX := hst.1
      have HB : Below w.heap.size w (wr.setCell ⟨w.heap.size, k, none⟩ (.int .u8 (zs.getD k 0))) := hbel.setCell (Nat.le_refl _) _
      clear hst hown hc ha hbel hown0 hb1
      generalize zs.getD k 0 = x at *
      generalize (cp zs k).getD k 0 = y at *
      have HXX : Hid _ := HX
      have HBB : Hid _ := HB
      clear HX HB
      go_wp2
      go_roundw
      case rel => exact ⟨k + 1, by omega, by go_num, HXX.out, HBB.out⟩
      case measure => simp [intOf]; omega
    · have hkn : k = zs.length := by omega
      have HO : Hid (wr.ownsRow w.heap.size 5 1 (.slice (some ⟨w.heap.size, 0, none⟩) n n) n (zs.map (Value.int .u8))) := by rw [hkn, cp_all] at hown; exact hown
      clear hown
      go_wp2
      go_ret
      exact ⟨rfl, HO.out, hbel⟩

theorem drewN_cell (w : World) (n : Nat) (a : Addr) : (w.drewN n).cell? a = w.cell? a := rfl
theorem drewN_drewN (w : World) (m n : Nat) : (w.drewN m).drewN n = w.drewN (m + n) := by
  simp [World.drewN, Nat.add_assoc]

set_option maxHeartbeats 400000 in
theorem eqB_any (a a' : Option Addr) (n cap cap' : Nat) (zs : List Int) (w : World) (hn : zs.length = n) (hm : n ≤ 1048576) (ha : At .u8 w a zs) (ha' : At .u8 w a' zs) :
    Calls Try.prog 11 #[.slice a n cap, .slice a' n cap'] w fun e w' => e = .returned (.bool true) ∧ ∃ q, w' = w.drewN q := by
  have h0 : ((n : Int) != (n : Int)) = false := by simp
  go_enter Try.func11, Try.ntmps11
  go_wp2
  go_loopw [5] (fun i wr => ∃ k q : Nat, k ≤ n ∧ i = .int .i64 k ∧ wr = w.drewN q) (fun i _ => n - (intOf i).toNat)
  case atStart => exact ⟨0, 0, Nat.zero_le _, rfl, rfl⟩
  case round =>
    obtain ⟨k, q, hk, rfl, rfl⟩ := hrel
    by_cases hlt : k < n
    · obtain ⟨b, off, rfl, hb, hc⟩ := ha.get (by omega)
      obtain ⟨b', off', rfl, hb', hc'⟩ := ha'.get (by omega)
      have g1 := hc k (by omega)
      have g2 := hc' k (by omega)
      generalize zs.getD k 0 = x at *
      have hx : (x != x) = false := by simp
      have hlt' : (k : Int) < (n : Int) := by omega
      clear hc hc' ha ha'
      go_wp2
      go_quiet (fail)
      go_wp2
      go_roundw
      case rel => exact ⟨k + 1, _, by omega, by go_num, rfl⟩
      case measure => simp [intOf]; omega
    · go_wp2
      go_ret
      exact ⟨rfl, q, rfl⟩
end Go.Proofs.Ytiignammhieidaa
