/-
  Own work: marks on devices are found again.
-/
import Derived.Test.YtiignammhieidaaDevMark
namespace Go.Proofs.Ytiignammhieidaa
open Go.ChangeShapes Go.WideShapes Go.ChangeAt Go.RowKit
set_option linter.unusedVariables false

set_option maxHeartbeats 400000 in
theorem heldPS_any (a : Option Addr) (n cap : Nat) (ps : List PD) (k : Int) (w : World) (h : PAt w a (pmarks k ps)) (hl : ps.length = n) (hk : 0 ≤ k) (hk' : k + n + pSum ps ≤ 1099511627776) :
    Calls Try.prog 34 #[.slice a n cap, .int .i64 k] w fun e w' => e = .returned (.int .i64 (k + n + pSum ps)) ∧ w' = w := by
  go_enter Try.func34, Try.ntmps34
  go_wp2
  go_loop [1, 5] (fun q i => ∃ j : Nat, j ≤ n ∧ i = .int .i64 j ∧ q = .int .i64 (kAt k ps j)) (fun _ i => n - (intOf i).toNat)
  case atStart => exact ⟨0, Nat.zero_le _, rfl, by rw [kAt_zero]⟩
  case round =>
    obtain ⟨j, hj, rfl, rfl⟩ := hrel
    have hkb := kAt_le k ps j (by omega)
    by_cases hlt : j < n
    · have hsucc := kAt_succ k ps j (by omega)
      have hkb2 := kAt_le k ps (j + 1) (by omega)
      obtain ⟨b, off, rfl, hb, hc⟩ := h.get (by rw [pmarks_len]; omega)
      obtain ⟨x, c, h1, h2, h3⟩ := hc j (by rw [pmarks_len]; omega)
      rw [pmarks_get k ps j (by omega)] at h1 h2 h3
      simp only [marks_len] at h2
      have HSUC : Hid _ := hsucc
      have HA : Hid _ := h3
      clear hc h hsucc h3
      generalize kAt k ps j = q at *
      generalize (ps.getD j (0, [])).2.length = m at *
      have hr : q + 1 + (m : Int) = kAt k ps (j + 1) := HSUC.out.symm
      have e1 : (q != q) = false := by simp
      have e2 : ¬ (kAt k ps (j + 1) < 0) := by omega
      go_wp2_with fail
      refine (heldB_any x m c (q + 1) w HA.out (by omega) (by omega)).mono ?_
      rintro e w2 ⟨rfl, rfl⟩
      rw [hr]
      clear hr
      go_wp2
      go_round
      case rel => exact ⟨j + 1, by omega, by go_num, rfl⟩
      case measure => simp [intOf]; omega
    · have hjn : j = ps.length := by omega
      subst hjn
      have hall := kAt_all k ps
      rw [hall]
      go_wp2
      go_ret
      exact ⟨ret_int (by omega), rfl⟩

set_option maxHeartbeats 400000 in
theorem heldD_any (v : Value) (zs : List Int) (ps : List PD) (f : Int) (d : Bool) (k : Int) (w : World) (h : DAt w v (marks k zs.length) (pmarks (k + zs.length) ps) f d) (hk : 0 ≤ k) (hk' : k + zs.length + ps.length + pSum ps ≤ 1099511627776) :
    Calls Try.prog 14 #[v, .int .i64 k] w fun e w' => e = .returned (.int .i64 (k + zs.length + ps.length + pSum ps)) ∧ Below w.heap.size w w' := by
  obtain ⟨a, c, x, cx, rfl, hA, hP, _⟩ := h
  rw [marks_len, pmarks_len]
  generalize hL : zs.length = L at *
  generalize hm : ps.length = m at *
  have hb := (Below.refl w.heap.size w).alloc (Nat.le_refl _) (.cells #[.slice a L c, .slice x m cx, .int .i64 f, .bool d] 29)
  have HA1 : Hid _ := hA.below hb
  have HP1 : Hid _ := hP.below hb
  have HB : Hid _ := hb
  have t1 : ¬ (k + (L : Int) < 0) := by omega
  have t2 : ¬ (k + (L : Int) + m + pSum ps < 0) := by omega
  clear hA hP hb
  go_enter Try.func14, Try.ntmps14
  go_wp2_with fail
  refine (heldB_any a L c k _ HA1.out hk (by omega)).mono ?_
  rintro e w2 ⟨rfl, rfl⟩
  go_wp2_with fail
  refine (heldPS_any x m cx ps (k + L) _ HP1.out hm (by omega) (by omega)).mono ?_
  rintro e w2 ⟨rfl, rfl⟩
  go_wp2
  go_ret
  exact ⟨rfl, HB.out⟩
end Go.Proofs.Ytiignammhieidaa
