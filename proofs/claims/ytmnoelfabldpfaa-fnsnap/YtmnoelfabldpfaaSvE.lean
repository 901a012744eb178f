/-
  Own work: what the laws do with states: sizes, copies, comparisons (written by wip/mkse.py).
-/
import Derived.Test.YtmnoelfabldpfaaMSvM
import Derived.Test.YtmnoelfabldpfaaMReg8
namespace Go.Proofs.Ytmnoelfabldpfaa
open Go.ChangeShapes Go.WideShapes Go.ChangeAt Go.RowKit
set_option linter.unusedVariables false

theorem Try.infoI64 : (Try.prog.info? 2).map (fun i => (i.zero, i.size, i.bytes)) = some (some (.int .i64 0), 1, 8) := by kernel_rfl
def szQ (left : Int) (n : Nat) : Int := if left < n then -1 else left - n
set_option maxHeartbeats 400000 in
theorem eqI_any (a a' : Option Addr) (n cap cap' : Nat) (zs : List Int) (w : World) (hn : zs.length = n) (hm : n ≤ 1048576) (ha : At .i64 w a zs) (ha' : At .i64 w a' zs) :
    Calls Try.prog 43 #[.slice a n cap, .slice a' n cap'] w fun e w' => e = .returned (.bool true) ∧ ∃ q, w' = w.drewN q := by
  have h0 : ((n : Int) != (n : Int)) = false := by simp
  go_enter Try.func43, Try.ntmps43
  go_wp2
  go_loopw [5] (fun i wr => ∃ k q : Nat, k ≤ n ∧ i = .int .i64 k ∧ wr = w.drewN q) (fun i _ => n - (intOf i).toNat)
  case atStart => exact ⟨0, 0, Nat.zero_le _, rfl, rfl⟩
  case round =>
    obtain ⟨k, q, hk, rfl, rfl⟩ := hrel
    by_cases hlt : k < n
    · obtain ⟨b, off, rfl, hb, hc⟩ := ha.get (by omega)
      obtain ⟨b', off', rfl, hb', hc'⟩ := ha'.get (by omega)
      have g1 := hc k (by omega)
      have g2 := hc' k (by omega)
      generalize zs.getD k 0 = x at *
      have hx : (x != x) = false := by simp
      have hlt' : (k : Int) < (n : Int) := by omega
      clear hc hc' ha ha'
      go_wp2
      go_quiet (fail)
      go_wp2
      go_roundw
      case rel => exact ⟨k + 1, _, by omega, by go_num, rfl⟩
      case measure => simp [intOf]; omega
    · go_wp2
      go_ret
      exact ⟨rfl, q, rfl⟩
end Go.Proofs.Ytmnoelfabldpfaa
