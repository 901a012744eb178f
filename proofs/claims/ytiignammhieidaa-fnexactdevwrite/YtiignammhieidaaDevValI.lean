/-
  Own work: ValidDev of the program.
-/
import Derived.Test.YtiignammhieidaaDevVal
namespace Go.Proofs.Ytiignammhieidaa
open Go.ChangeShapes Go.WideShapes Go.ChangeAt Go.RowKit
set_option linter.unusedVariables false

def hasS (L : Nat) (s : Int) : Bool := decide (0 ≤ s ∧ s < ((L / 64 : Nat) : Int))
set_option maxHeartbeats 400000 in
theorem has_any (g : Nat) (a x : Option Addr) (L c m cx : Nat) (f s : Int) (d : Bool) (w : World) (h : w.heap[g]? = some (.cells #[.slice a L c, .slice x m cx, .int .i64 f, .bool d] 29 (0, 0))) (hL : L ≤ 1048576) :
    Calls Try.prog 26 #[.pointer (some ⟨g, 0, none⟩), .int .i64 s] w fun e w' => e = .returned (.bool (hasS L s)) ∧ w' = w := by
  have HD : Hid (hasS L s = decide (0 ≤ s ∧ s < ((L / 64 : Nat) : Int))) := rfl
  have c0 := cell_of_row w g 0 _ _ _ h
  simp at c0
  clear h
  go_enter Try.func26, Try.ntmps26
  go_wp2
  all_goals (go_ret; refine ⟨ret_bool ?_, rfl⟩; rw [HD.out]; simp; try omega)

set_option maxHeartbeats 400000 in
theorem ival_any (v : Value) (zs : List Int) (ps : List PD) (f : Int) (d : Bool) (w : World) (h : DAt w v zs ps f d) (hz : zs.length ≤ 1048576) (hn : ps.length ≤ 1048576) (hps : ∀ i, (ps.getD i (0, [])).2.length ≤ 1048576) :
    Calls Try.prog 25 #[v] w fun e w' => e = .returned (.bool (validB zs.length ps f)) ∧ Below w.heap.size w w' := by
  obtain ⟨a, c, x, cx, rfl, hA, hP, _⟩ := h
  generalize zs.length = L at *
  by_cases hb : vBase L ps.length f
  · obtain ⟨b1, b2, b3, b4, b5, b6⟩ := hb
    have HP := hP
    generalize hm : ps.length = m at *
    have hB := (Below.refl w.heap.size w).alloc (Nat.le_refl _) (.cells #[.slice a L c, .slice x m cx, .int .i64 f, .bool d] 29)
    have P2 := hP.below hB
    have HB : Hid _ := hB
    have HP2 : Hid _ := P2
    clear hB P2 hP HP hA
    have t1 : ((L : Int) % 64 != 0) = false := by simp; omega
    have t2 : ¬ ((L : Int) < 512) := by omega
    have t3 : ¬ (16384 < (L : Int)) := by omega
    have t4 : ¬ (1000 < (m : Int)) := by omega
    have t5 : ¬ (f < -1) := by omega
    have t6 : ¬ (1000000 < f) := by omega
    go_enter Try.func25, Try.ntmps25
    go_wp2
    have n0 : (w.alloc (.cells #[.slice a L c, .slice x m cx, .int .i64 f, .bool d] 29)).heap[w.heap.size]? = some (.cells #[.slice a L c, .slice x m cx, .int .i64 f, .bool d] 29 (0, 0)) := heap_alloc_new w _
    have hW := HB.out
    have hP2 := HP2.out
    have hz0 : w.heap.size < (w.alloc (.cells #[.slice a L c, .slice x m cx, .int .i64 f, .bool d] 29)).heap.size := by simp
    clear HB HP2
    generalize (w.alloc (.cells #[.slice a L c, .slice x m cx, .int .i64 f, .bool d] 29)) = W at *
    go_loopw [39] (fun i wr => ∃ k : Nat, k ≤ m ∧ i = .int .i64 k ∧ (∀ i, i < k → pOk (L / 64) (ps.getD i (0, []))) ∧ Below W.heap.size W wr) (fun i _ => m - (intOf i).toNat)
    case atStart => exact ⟨0, Nat.zero_le _, rfl, fun i hi => by omega, Below.refl _ _⟩
    case round =>
      obtain ⟨k, hk, rfl, hall, hbel⟩ := hrel
      by_cases hlt : k < m
      · obtain ⟨b, off, rfl, hbl, hc⟩ := PAt.get (PAt.below hP2 hbel) (by omega)
        obtain ⟨y, cy, g1, g2, g3⟩ := hc k (by omega)
        have HG : Hid _ := hall
        clear hall hc
        have hp := hps k
        have HQ : Hid (∀ s z, (ps.getD k (0, [])).1 = s → (ps.getD k (0, [])).2.length = z → (pOk (L / 64) (ps.getD k (0, [])) ↔ (0 ≤ s ∧ s < ((L / 64 : Nat) : Int) ∧ z = 64))) := by
          rintro _ _ rfl rfl; exact Iff.rfl
        have HQ' : Hid _ := HQ.out _ _ rfl rfl
        clear HQ
        generalize (ps.getD k (0, [])).1 = s at *
        generalize (ps.getD k (0, [])).2.length = z at *
        have hb1 := (Below.refl wr.heap.size wr).alloc (Nat.le_refl _) (.cells #[.int .i64 s, .slice y z cy] 44)
        have n1 : (wr.alloc (.cells #[.int .i64 s, .slice y z cy] 44)).heap[w.heap.size]? = some (.cells #[.slice a L c, .slice (some ⟨b, off, none⟩) m cx, .int .i64 f, .bool d] 29 (0, 0)) := by
          rw [hb1.block _ (by have := hbel.size; omega), hbel.block _ hz0]; exact n0
        have HN1 : Hid _ := n1
        have HBL : Hid (Below W.heap.size W (wr.alloc (.cells #[.int .i64 s, .slice y z cy] 44))) := hbel.trans (hb1.mono hbel.size)
        clear n1 hbel hb1
        by_cases hs : hasS L s = true
        · by_cases h64 : z = 64
          · subst h64
            go_wp2_with (go_at_call 26; refine (has_any w.heap.size _ _ _ _ _ _ _ _ _ _ HN1.out hz).mono ?_; rintro e w1 ⟨rfl, rfl⟩; rw [hs])
            go_roundw
            case rel =>
              refine ⟨k + 1, by omega, by go_num, fun i hi => ?_, HBL.out⟩
              by_cases e : i = k
              · subst e
                rw [HQ'.out]
                unfold hasS at hs
                simp at hs
                simp
                omega
              · exact HG.out i (by omega)
            case measure => simp [intOf]; omega
          · have h64' : ((z : Int) != 64) = true := by rw [bne_iff_ne]; omega
            go_wp2_with (go_at_call 26; refine (has_any w.heap.size _ _ _ _ _ _ _ _ _ _ HN1.out hz).mono ?_; rintro e w1 ⟨rfl, rfl⟩; rw [hs])
            go_ret
            refine ⟨ret_bool (validB_bad (k := k) (by omega) ?_).symm, hW.trans (HBL.out.mono (by omega))⟩
            rw [HQ'.out]; omega
        · have hs' : hasS L s = false := by simpa using hs
          clear hs
          go_wp2_with (go_at_call 26; refine (has_any w.heap.size _ _ _ _ _ _ _ _ _ _ HN1.out hz).mono ?_; rintro e w1 ⟨rfl, rfl⟩; rw [hs'])
          go_ret
          refine ⟨ret_bool (validB_bad (k := k) (by omega) ?_).symm, hW.trans (HBL.out.mono (by omega))⟩
          rw [HQ'.out]
          unfold hasS at hs'
          simp at hs'
          omega
      · have hkm : k = m := by omega
        subst hkm
        go_wp2
        go_ret
        exact ⟨ret_bool (validB_yes (by rw [hm]; exact ⟨b1, b2, b3, b4, b5, b6⟩) (by rw [hm]; exact hall)).symm, hW.trans (hbel.mono (by omega))⟩
  · have hv := validB_no hb
    generalize hm : ps.length = m at *
    have HV : Hid _ := hv
    have HB : Hid _ := hb
    clear hv hb hP hA
    go_enter Try.func25, Try.ntmps25
    go_wp2
    all_goals first
      | (go_ret; exact ⟨ret_bool HV.out.symm, ((Below.refl w.heap.size w).alloc (Nat.le_refl _) _)⟩)
      | (exfalso; apply HB.out; unfold vBase; omega)
end Go.Proofs.Ytiignammhieidaa
