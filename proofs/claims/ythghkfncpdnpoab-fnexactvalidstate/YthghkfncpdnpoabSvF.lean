/-
  Own work: copies and comparisons of taps and of states, as the laws make them (written by wip/mksf.py).
-/
import Derived.Test.YthghkfncpdnpoabSvE
namespace Go.Proofs.Ythghkfncpdnpoab
open Go.ChangeShapes Go.WideShapes Go.ChangeAt Go.RowKit
set_option linter.unusedVariables false

set_option maxHeartbeats 400000 in
theorem toT1_any (s nw : Int) (w : World) : Calls Try.prog 80 #[.agg #[.int .i64 s, .int .i64 nw]] w fun e w' => e = .returned (.agg #[.int .i64 s, .int .i64 nw]) ∧ Below w.heap.size w w' := by
  have HB : Hid (Below w.heap.size w (((w.alloc (.cells #[.int .i64 s, .int .i64 nw] 125)).alloc (.cells #[.int .i64 s, .int .i64 nw] 99)).alloc (.cells #[.int .i64 s, .int .i64 nw] 99))) := (((Below.refl _ _).alloc (Nat.le_refl _) _).alloc (by simp) _).alloc (by simp; omega) _
  have HR : Hid ((((w.alloc (.cells #[.int .i64 s, .int .i64 nw] 125)).alloc (.cells #[.int .i64 s, .int .i64 nw] 99)).alloc (.cells #[.int .i64 s, .int .i64 nw] 99)).heap[w.heap.size + 1]? = some (.cells #[.int .i64 s, .int .i64 nw] 99 (0, 0))) := by
    show _ = _
    rw [Below.heap_alloc _ _ (w.heap.size + 1) (by simp)]
    have := heap_alloc_new (w.alloc (.cells #[.int .i64 s, .int .i64 nw] 125)) (.cells #[.int .i64 s, .int .i64 nw] 99)
    rwa [show (w.alloc (.cells #[.int .i64 s, .int .i64 nw] 125)).heap.size = w.heap.size + 1 by simp] at this
  have HSZ : Hid ((Try.prog.info? 99).map (·.size) = some 2) := by show _ = _; kernel_rfl
  go_enter Try.func80, Try.ntmps80
  go_wp2
  exact bodyPost_ret (v := .agg #[.int .i64 s, .int .i64 nw]) (results_cell_row rfl _ _ (w.heap.size + 1) 99 _ (0, 0) _ rfl HR.out Try.underlying99 rfl HSZ.out) rfl ⟨rfl, HB.out⟩
structure TT (w wr : World) (g n : Nat) (T : List Int) (k : Nat) : Prop where
  below : Below w.heap.size w wr
  blk : ∃ cur : Array Value, wr.heap[g]? = some (.cells cur 99 (0, 0)) ∧ cur.size = n * 2 ∧ ∀ i, i < k * 2 → cur[i]? = some (.int .i64 (T.getD i 0))
theorem TT.step {w wr w1 : World} {g n : Nat} {T : List Int} {k : Nat} (h : TT w wr g n T k) (hk : k < n) (hg : w.heap.size ≤ g) (hb : Below wr.heap.size wr w1) :
    TT w ((w1.setCell ⟨g, k * 2, none⟩ (.int .i64 (T.getD (k * 2) 0))).setCell ⟨g, k * 2 + 1, none⟩ (.int .i64 (T.getD (k * 2 + 1) 0))) g n T (k + 1) := by
  obtain ⟨cur, h1, h2, h3⟩ := h.blk
  have hgl := (Array.getElem?_eq_some_iff.1 h1).1
  have h1' : w1.heap[g]? = some (.cells cur 99 (0, 0)) := by rw [hb.block g hgl]; exact h1
  have e1 := heap_setCell_same w1 g (k * 2) _ _ (.int .i64 (T.getD (k * 2) 0)) h1'
  have e2 := heap_setCell_same _ g (k * 2 + 1) _ _ (.int .i64 (T.getD (k * 2 + 1) 0)) e1
  refine ⟨((h.below.trans (hb.mono h.below.size)).setCell hg _).setCell hg _, ⟨_, e2, by simp [h2], fun i hi => ?_⟩⟩
  by_cases ea : i = k * 2
  · subst ea
    rw [Array.getElem?_setIfInBounds_ne (by omega), Array.getElem?_setIfInBounds_self_of_lt (by omega)]
  · by_cases eb : i = k * 2 + 1
    · subst eb
      rw [Array.getElem?_setIfInBounds_self_of_lt (by simp; omega)]
    · rw [Array.getElem?_setIfInBounds_ne (by omega), Array.getElem?_setIfInBounds_ne (by omega)]; exact h3 i (by omega)
set_option maxHeartbeats 1000000 in
theorem toT_any (a : Option Addr) (n cap : Nat) (T : List Int) (w : World) (hl : T.length = n * 2) (hn : n ≤ 1048576) (ha : At .i64 w a T) :
    Calls Try.prog 68 #[.slice a n cap] w fun e w' => e = .returned (.slice (some ⟨w.heap.size, 0, none⟩) n n) ∧ At .i64 w' (some ⟨w.heap.size, 0, none⟩) T ∧ Below w.heap.size w w' := by
  obtain ⟨i0, hi, hz0, hz1, hz2⟩ := info_parts Try.infoTap
  have HI : Hid (i0.bytes = 16) := hz2
  have HLT : Hid (T.length = n * 2) := hl
  have HA : Hid (At .i64 w a T) := ha
  clear hz2 hl ha
  go_enter Try.func68, Try.ntmps68
  go_wp2_with (first
    | (at_make; refine wpList_make_full _ rfl _ _ 58 rfl w.heap.size 99 i0 (.agg #[.int .i64 0, .int .i64 0]) 2 Try.underlying58 hi hz0 hz1 _ _ _ _ n rfl rfl rfl rfl ?c1 ?c2 ?c3 ?_)
    | fail)
  case c1 => rw [HI.out]; omega
  case c2 => unfold maxLen; omega
  case c3 => exact Nat.le_refl _
  intro w1 hown hgrow
  have hb1 : Below w.heap.size w w1 := (Below.refl _ _).grown hgrow (Nat.le_refl _) (by simp)
  have hst : TT w w1 w.heap.size n T 0 := by
    obtain ⟨h1, ⟨h2, _⟩ | ⟨g', cap, cur, hv, hb, hh, hc, hm, hs, ht⟩⟩ := hown
    · cases h2
    · cases hv
      exact ⟨hb1, ⟨cur, hh, hs, fun i hi => by omega⟩⟩
  have HST : Hid (TT w w1 w.heap.size n T 0) := hst
  clear hown hgrow hb1 hst hi hz0 hz1
  go_wp2
  go_loopw [4] (fun i wr => ∃ k : Nat, k ≤ n ∧ i = .int .i64 k ∧ TT w wr w.heap.size n T k) (fun i _ => n - (intOf i).toNat)
  case atStart => exact ⟨0, Nat.zero_le _, rfl, HST.out⟩
  case round =>
    clear HST
    obtain ⟨k, hk, rfl, st⟩ := hrel
    by_cases hlt : k < n
    · have hlt' : (k : Int) < n := by omega
      obtain ⟨b, off, ea, hb, hc⟩ := (HA.out.below st.below).get (by have := HLT.out; omega)
      have t0 := hc (k * 2) (by have := HLT.out; omega)
      have t1 := hc (k * 2 + 1) (by have := HLT.out; omega)
      rw [← Nat.add_assoc] at t1
      subst ea
      obtain ⟨cur, c1, c2, c3⟩ := st.blk
      have hgl := (Array.getElem?_eq_some_iff.1 c1).1
      have HC1 : Hid (wr.heap[w.heap.size]? = some (.cells cur 99 (0, 0))) := c1
      have HSP : Hid (∀ w1, Below wr.heap.size wr w1 → TT w ((w1.setCell ⟨w.heap.size, k * 2, none⟩ (.int .i64 (T.getD (k * 2) 0))).setCell ⟨w.heap.size, k * 2 + 1, none⟩ (.int .i64 (T.getD (k * 2 + 1) 0))) w.heap.size n T (k + 1)) := fun w1 hb => st.step hlt (Nat.le_refl _) hb
      clear hc hb c3 st c1
      generalize T.getD (k * 2) 0 = s at *
      generalize T.getD (k * 2 + 1) 0 = nw at *
      go_wp2_with fail
      refine (toT1_any s nw wr).mono ?_
      rintro e w2 ⟨rfl, hb2⟩
      have k1 : w2.heap[w.heap.size]? = some (.cells cur 99 (0, 0)) := by rw [hb2.block _ hgl]; exact HC1.out
      have d0 : w2.cell? ⟨w.heap.size, k * 2, none⟩ = some (cur[k * 2]'(by omega)) := by rw [cell_of_row w2 _ _ _ _ _ k1]; simp
      have d1 : w2.cell? ⟨w.heap.size, k * 2 + 1, none⟩ = some (cur[k * 2 + 1]'(by omega)) := by rw [cell_of_row w2 _ _ _ _ _ k1]; simp
      have f0 := frozen_of_row w2 w.heap.size (k * 2) _ _ k1
      have f1 := frozen_of_row w2 w.heap.size (k * 2 + 1) _ _ k1
      generalize (cur[k * 2]'(by omega)) = o0 at *
      generalize (cur[k * 2 + 1]'(by omega)) = o1 at *
      have HEN : Hid (TT w ((w2.setCell ⟨w.heap.size, k * 2, none⟩ (.int .i64 s)).setCell ⟨w.heap.size, k * 2 + 1, none⟩ (.int .i64 nw)) w.heap.size n T (k + 1)) := HSP.out w2 hb2
      clear k1 hb2 t0 t1 HSP HC1
      go_wp2
      go_roundw
      case rel => exact ⟨k + 1, by omega, by go_num, HEN.out⟩
      case measure => simp [intOf]; omega
    · have hkn : k = n := by omega
      have hlt' : ¬ ((k : Int) < n) := by omega
      have HM : Hid (At .i64 wr (some ⟨w.heap.size, 0, none⟩) T ∧ Below w.heap.size w wr) := by
        obtain ⟨cur, c1, c2, c3⟩ := st.blk
        refine ⟨.inr ⟨w.heap.size, 0, rfl, (Array.getElem?_eq_some_iff.1 c1).1, fun i hi => ?_⟩, st.below⟩
        rw [cell_of_row wr _ _ _ _ _ c1, Nat.zero_add]; exact c3 i (by have := HLT.out; omega)
      clear st
      go_wp2
      go_ret
      exact ⟨rfl, HM.out.1, HM.out.2⟩
set_option maxHeartbeats 400000 in
theorem eqT1_any (s nw : Int) (w : World) : Calls Try.prog 84 #[.agg #[.int .i64 s, .int .i64 nw], .agg #[.int .i64 s, .int .i64 nw]] w fun e w' => e = .returned (.bool true) ∧ Below w.heap.size w w' := by
  have HB : Hid (Below w.heap.size w ((w.alloc (.cells #[.int .i64 s, .int .i64 nw] 99)).alloc (.cells #[.int .i64 s, .int .i64 nw] 99))) := ((Below.refl _ _).alloc (Nat.le_refl _) _).alloc (by simp) _
  go_enter Try.func84, Try.ntmps84
  go_wp2
  go_ret
  exact ⟨rfl, HB.out⟩
/-- What toState answers. -/
def ToS (w : World) (D U : List Int) (k : Int) (T : List Int) (nD nU nT : Nat) (e : Ending) (w' : World) : Prop :=
  ∃ gD gU gT, e = .returned (.agg #[.slice (some ⟨gD, 0, none⟩) nD nD, .slice (some ⟨gU, 0, none⟩) nU nU, .int .i64 k, .slice (some ⟨gT, 0, none⟩) nT nT]) ∧ At .i64 w' (some ⟨gD, 0, none⟩) D ∧ At .i64 w' (some ⟨gU, 0, none⟩) U ∧ At .i64 w' (some ⟨gT, 0, none⟩) T ∧ Below w.heap.size w w'
end Go.Proofs.Ythghkfncpdnpoab
