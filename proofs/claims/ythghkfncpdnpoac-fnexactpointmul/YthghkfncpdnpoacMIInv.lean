/-
  Own work: the program's inverse.
-/
import Derived.Test.YthghkfncpdnpoacRtN
namespace Go.Proofs.Ythghkfncpdnpoac
open Go.ChangeShapes Go.WideShapes Go.ChangeAt Go.RowKit
set_option linter.unusedVariables false

set_option maxHeartbeats 2000000 in
theorem inverse_of (g o : Nat) (xs : List Int) (w : World) (h : EAt w g o xs) (v1 goalv : Int) (hv1 : ev xs ^ M250 % fp = v1) (hgoal : sqN v1 5 * ev xs ^ 11 % fp = goalv) :
    Calls Try.prog 110 #[.pointer (some ⟨g, o, none⟩)] w (EP w goalv) := by
  have HE : Hid (sqN v1 5 * ev xs ^ 11 % fp = goalv) := hgoal
  have HV1 : Hid (ev xs ^ M250 % fp = v1) := hv1
  have S0 := (Run.start w [(g, o, xs)] (fun e he => by rcases List.mem_singleton.1 he with rfl; exact h)).room
  have HO : Hid (Run w (w.alloc (.cells #[.int .u64 0, .int .u64 0, .int .u64 0, .int .u64 0, .int .u64 0] 82)) [(w.heap.size, [0, 0, 0, 0, 0])] [(g, o, xs)]) := S0
  clear S0 h hv1 hgoal
  go_enter Try.func110, Try.ntmps110
  go_wp2_with fail
  refine (ones250_any g o xs _ (HO.out.el 0 _ _ _ rfl)).mono ?_
  rintro e w1 ⟨es, hk, hv, rfl, b⟩
  have HK1 : Hid (EOk es ∧ ev es = v1) := ⟨hk, hv.trans HV1.out⟩
  have S1 := HO.out.call b
  have H1 : Hid (Run w w1 [(w.heap.size, [0, 0, 0, 0, 0])] [(g, o, xs)]) := S1
  clear S1 hk hv b HV1
  go_wp2_with (first
    | (refine wpList_storeN H1.out rfl (.tmp 3) (.tmp 6) rfl es rfl rfl HK1.out.1 rfl ?_)
    | fail)
  intro w2 S2
  have H2 : Hid (Run w w2 [(w1.heap.size, es), (w.heap.size, [0, 0, 0, 0, 0])] [(g, o, xs)]) := S2
  clear S2 H1 HO
  generalize w1.heap.size = G1 at *
  go_wp2_with fail
  refine (squared_any G1 0 es 5 _ (by decide) (H2.out.re 0 _ _ rfl)).mono ?_
  rintro e w3 ⟨fs, hk, hv, rfl, b⟩
  have HK2 : Hid (EOk fs ∧ ev fs = sqN v1 5) := ⟨hk, by rw [hv, HK1.out.2]⟩
  have H3 : Hid (Run w w3 [(G1, es), (w.heap.size, [0, 0, 0, 0, 0])] [(g, o, xs)]) := H2.out.call b
  clear H2 hk hv b
  go_wp2_with (first
    | (refine wpList_storeN H3.out rfl (.tmp 4) (.tmp 7) rfl fs rfl rfl HK2.out.1 rfl ?_)
    | fail)
  intro w4 S4
  have H4 : Hid (Run w w4 [(w3.heap.size, fs), (G1, es), (w.heap.size, [0, 0, 0, 0, 0])] [(g, o, xs)]) := S4
  clear S4 H3
  generalize w3.heap.size = G2 at *
  go_wp2
  go_loopw [8] (fun i wr => ∃ (k : Nat) (vs : List Int), k ≤ 11 ∧ i = .int .i64 k ∧ EOk vs ∧ ev vs = sqN v1 5 * ev xs ^ k % fp ∧ Run w wr [(G2, vs), (G1, es), (w.heap.size, [0, 0, 0, 0, 0])] [(g, o, xs)]) (fun i _ => 11 - (intOf i).toNat)
  case atStart =>
    refine ⟨0, fs, by decide, rfl, HK2.out.1, ?_, H4.out⟩
    rw [Int.pow_zero, Int.mul_one, ← HK2.out.2]
    exact (Int.emod_eq_of_lt (ev_bd fs).1 (ev_bd fs).2).symm
  case round =>
    clear H4
    obtain ⟨k, vs, hk, rfl, hok, hev, hrun⟩ := hrel
    have HR : Hid (Run w wr [(G2, vs), (G1, es), (w.heap.size, [0, 0, 0, 0, 0])] [(g, o, xs)]) := hrun
    have HV : Hid (EOk vs ∧ ev vs = sqN v1 5 * ev xs ^ k % fp) := ⟨hok, hev⟩
    clear hok hev hrun
    by_cases hlt : k < 11
    · have hlt' : (k : Int) < 11 := by omega
      go_wp2_with fail
      refine (times_any G2 0 g o vs xs _ (HR.out.re 0 _ _ rfl) (HR.out.el 0 _ _ _ rfl)).mono ?_
      rintro e w5 ⟨us, hk', hv, rfl, b⟩
      have HU : Hid (EOk us ∧ ev us = sqN v1 5 * ev xs ^ (k + 1) % fp) := ⟨hk', by rw [hv, HV.out.2, ml, Int.pow_succ, Int.mul_assoc]⟩
      have H5 : Hid (Run w w5 [(G2, vs), (G1, es), (w.heap.size, [0, 0, 0, 0, 0])] [(g, o, xs)]) := HR.out.call b
      clear hk' hv b HR
      go_wp2_with (first
        | (refine wpList_storeR H5.out rfl (.tmp 4) (.tmp 11) rfl 0 G2 vs us rfl rfl rfl HU.out.1 rfl ?_)
        | fail)
      intro w6 S6
      have H6 : Hid (Run w w6 [(G2, us), (G1, es), (w.heap.size, [0, 0, 0, 0, 0])] [(g, o, xs)]) := S6
      clear S6 H5
      go_wp2
      go_roundw
      case rel => exact ⟨k + 1, us, by omega, by go_num, HU.out.1, HU.out.2, H6.out⟩
      case measure => simp [intOf]; omega
    · have hk11 : k = 11 := by omega
      have HVE : Hid (ev vs = goalv) := by
        show _ = _
        rw [HV.out.2, hk11, HE.out]
      have hlt' : ¬ (k : Int) < 11 := by omega
      clear hk11
      go_wp2_with (first
        | (refine wpList_loadE rfl (.tmp 4) rfl G2 0 vs rfl (HR.out.re 0 _ _ rfl) ?_)
        | (refine wpList_storeR HR.out rfl (.tmp 2) (.tmp 13) rfl 2 w.heap.size [0, 0, 0, 0, 0] vs rfl rfl rfl HV.out.1 rfl ?_)
        | fail)
      intro w7 S7
      have H7 : Hid (Run w w7 [(G2, vs), (G1, es), (w.heap.size, vs)] [(g, o, xs)]) := S7
      clear S7 HR
      go_wp2
      exact bodyPost_ret (v := .agg (vs.map (Value.int .u64)).toArray) (H7.out.ret rfl _ 2 w.heap.size vs rfl rfl) rfl ⟨vs, HV.out.1, HVE.out, rfl, H7.out.below⟩
theorem exI : M250 * 32 + 11 = fpN - 2 := by unfold M250 m250; decide +kernel
/-- The program's inverse is the model's power. -/
theorem inverse_any (g o : Nat) (xs : List Int) (w : World) (h : EAt w g o xs) :
    Calls Try.prog 110 #[.pointer (some ⟨g, o, none⟩)] w (EP w (inv0 (ev xs))) := by
  have e := e250 (ev xs) M250 5 11
  rw [mr, show M250 * 2 ^ 5 + 11 = fpN - 2 from exI] at e
  rw [inv0_eq]
  exact inverse_of g o xs w h _ _ rfl e
end Go.Proofs.Ythghkfncpdnpoac
namespace Go.Proofs.Ythghkfncpdnpoac
set_option linter.unusedVariables false

theorem decX_same (zs : List Int) (hl : zs.length = 32) (hz : Byte zs) (hy : mY zs < fp) : dcX zs = mX zs mdD := by
  have h0 : 0 ≤ mY zs := by unfold mY; rw [fp_lit]; omega
  obtain ⟨r1, r2⟩ := roots_same (mY zs) h0 hy
  have ho := odd_same zs hl hz
  have hb := hz.get 31
  have hm : mO zs = 0 ∨ mO zs = 1 := by unfold mO; omega
  have hx : dcX zs = if ((mdX (mY zs) mdD % 2 == 1) != dcO zs) = true then (0 - mdX (mY zs) mdD) % fp else mdX (mY zs) mdD := by
    unfold dcX dc1; rw [show dcY zs = mY zs from rfl, r2]
  rw [hx, ho]
  unfold mX
  rw [show (0 : Int) % fp = 0 from by decide]
  generalize mdX (mY zs) mdD = x
  have hp : x % 2 = 0 ∨ x % 2 = 1 := by omega
  rcases hm with hm | hm <;> rcases hp with hp | hp <;> rw [hm, hp] <;> simp
theorem twoD : ev curveD2L = (mdD + mdD) % fp := by decide +kernel
end Go.Proofs.Ythghkfncpdnpoac
