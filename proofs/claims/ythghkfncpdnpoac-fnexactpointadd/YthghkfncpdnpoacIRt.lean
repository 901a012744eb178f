/-
  Own work: roots in the field, by the program (written by wip/mkroot.py).
-/
import Derived.Test.YthghkfncpdnpoacIPt
namespace Go.Proofs.Ythghkfncpdnpoac
open Go.ChangeShapes Go.WideShapes Go.ChangeAt Go.RowKit
set_option linter.unusedVariables false

/-- x to the power (p - 5) / 8. -/
def rpF (x : Int) : Int := x ^ (M250 * 4 + 1) % fp
def rtF (u v : Int) : Int := (u * (sqN v 1 * v % fp) % fp) * rpF (u * (sqN v 1 * v % fp) % fp * sqN v 2 % fp) % fp
def rcF (u v : Int) : Int := sqN (rtF u v) 1 * v % fp
def sm1L : List Int := [1718705420411056, 234908883556509, 2233514472574048, 2117202627021982, 765476049583133]
def curveDL : List Int := [929955233495203, 466365720129213, 1662059464998953, 2033849074728123, 1442794654840575]
def curveD2L : List Int := [1859910466990425, 932731440258426, 1072319116312658, 1815898335770999, 633789495995903]
def drR (u v : Int) : Bool := decide (rcF u v = u) || decide (rcF u v = (0 - u) % fp)
def drX (u v : Int) : Int := if rcF u v = u then rtF u v else rtF u v * ev sm1L % fp
/-- What divideRoot and findX answer: the point has a new x. -/
def DP (w : World) (g : Nat) (y z t : List Int) (u v : Int) (e : Ending) (w' : World) : Prop :=
  ∃ xs, EOk xs ∧ e = .returned (.bool (drR u v)) ∧ ev xs = drX u v ∧ Pt w' g xs y z t ∧ WrH g w w'
theorem ok5 (a b c d e : Int) (ha : 0 ≤ a ∧ a < 2251799813685504) (hb : 0 ≤ b ∧ b < 2251799813685248) (hc : 0 ≤ c ∧ c < 2251799813685248) (hd : 0 ≤ d ∧ d < 2251799813685248) (he : 0 ≤ e ∧ e < 2251799813685248) : EOk [a, b, c, d, e] := by
  refine ⟨rfl, fun i => ?_, fun i hi => ?_, ha.2⟩
  · rcases i with _ | _ | _ | _ | _ | i <;> simp <;> omega
  · rcases i with _ | _ | _ | _ | _ | i <;> simp <;> omega
def oneL : List Int := [1, 0, 0, 0, 0]
theorem one_ok : EOk oneL := ok5 _ _ _ _ _ (by decide) (by decide) (by decide) (by decide) (by decide)
theorem sm1_ok : EOk sm1L := ok5 _ _ _ _ _ (by decide) (by decide) (by decide) (by decide) (by decide)
theorem curveD_ok : EOk curveDL := ok5 _ _ _ _ _ (by decide) (by decide) (by decide) (by decide) (by decide)
theorem curveD2_ok : EOk curveD2L := ok5 _ _ _ _ _ (by decide) (by decide) (by decide) (by decide) (by decide)
set_option maxHeartbeats 1000000 in
theorem curveD_any (w : World) : Calls Try.prog 124 #[] w (EP w (ev curveDL)) := by
  have HS0 : Hid (Run w (w.alloc (.cells #[.int .u64 0, .int .u64 0, .int .u64 0, .int .u64 0, .int .u64 0] 82)) [(w.heap.size, [0, 0, 0, 0, 0])] []) := (Run.start w [] (by simp)).room
  go_enter Try.func124, Try.ntmps124
  go_wp2_with (first
    | (refine wpList_storeR HS0.out rfl (.tmp 0) (.tmp 1) rfl 0 w.heap.size [0, 0, 0, 0, 0] curveDL rfl rfl rfl curveD_ok rfl ?_)
    | fail)
  intro w1 S1
  have H1 : Hid (Run w w1 [(w.heap.size, curveDL)] []) := S1
  clear S1 HS0
  go_wp2
  exact bodyPost_ret (v := .agg (curveDL.map (Value.int .u64)).toArray) (H1.out.ret rfl _ 0 w.heap.size curveDL rfl rfl) rfl ⟨curveDL, curveD_ok, rfl, rfl, H1.out.below⟩

set_option maxHeartbeats 1000000 in
theorem curveD2_any (w : World) : Calls Try.prog 107 #[] w (EP w (ev curveD2L)) := by
  have HS0 : Hid (Run w (w.alloc (.cells #[.int .u64 0, .int .u64 0, .int .u64 0, .int .u64 0, .int .u64 0] 82)) [(w.heap.size, [0, 0, 0, 0, 0])] []) := (Run.start w [] (by simp)).room
  go_enter Try.func107, Try.ntmps107
  go_wp2_with (first
    | (refine wpList_storeR HS0.out rfl (.tmp 0) (.tmp 1) rfl 0 w.heap.size [0, 0, 0, 0, 0] curveD2L rfl rfl rfl curveD2_ok rfl ?_)
    | fail)
  intro w1 S1
  have H1 : Hid (Run w w1 [(w.heap.size, curveD2L)] []) := S1
  clear S1 HS0
  go_wp2
  exact bodyPost_ret (v := .agg (curveD2L.map (Value.int .u64)).toArray) (H1.out.ret rfl _ 0 w.heap.size curveD2L rfl rfl) rfl ⟨curveD2L, curveD2_ok, rfl, rfl, H1.out.below⟩

set_option maxHeartbeats 1000000 in
theorem sm1_any (w : World) : Calls Try.prog 136 #[] w (EP w (ev sm1L)) := by
  have HS0 : Hid (Run w (w.alloc (.cells #[.int .u64 0, .int .u64 0, .int .u64 0, .int .u64 0, .int .u64 0] 82)) [(w.heap.size, [0, 0, 0, 0, 0])] []) := (Run.start w [] (by simp)).room
  go_enter Try.func136, Try.ntmps136
  go_wp2_with (first
    | (refine wpList_storeR HS0.out rfl (.tmp 0) (.tmp 1) rfl 0 w.heap.size [0, 0, 0, 0, 0] sm1L rfl rfl rfl sm1_ok rfl ?_)
    | fail)
  intro w1 S1
  have H1 : Hid (Run w w1 [(w.heap.size, sm1L)] []) := S1
  clear S1 HS0
  go_wp2
  exact bodyPost_ret (v := .agg (sm1L.map (Value.int .u64)).toArray) (H1.out.ret rfl _ 0 w.heap.size sm1L rfl rfl) rfl ⟨sm1L, sm1_ok, rfl, rfl, H1.out.below⟩


def uF (Y : Int) : Int := (sqN Y 1 - ev oneL) % fp
def vF (Y : Int) : Int := (sqN Y 1 * ev curveDL % fp + ev oneL) % fp

set_option maxHeartbeats 4000000 in
theorem divideRoot_any (g : Nat) (x y z t : List Int) (g1 o1 g2 o2 : Nat) (us vs : List Int) (w : World) (hp : Pt w g x y z t) (hu : EAt w g1 o1 us) (hv : EAt w g2 o2 vs) (hg1 : g1 ≠ g) (hg2 : g2 ≠ g) :
    Calls Try.prog 126 #[.pointer (some ⟨g, 0, none⟩), .pointer (some ⟨g1, o1, none⟩), .pointer (some ⟨g2, o2, none⟩)] w (DP w g y z t (ev us) (ev vs)) := by
  have HS0 : Hid (RunP w w g x y z t [] [(g1, o1, us), (g2, o2, vs)]) := RunP.start hp _ (fun e he => by
    simp only [List.mem_cons, List.not_mem_nil, or_false] at he
    rcases he with rfl | rfl
    · exact ⟨hg1, hu⟩
    · exact ⟨hg2, hv⟩)
  clear hp hu hv hg1 hg2
  go_enter Try.func126, Try.ntmps126
  go_wp2_with fail
  refine (squared_any g2 o2 vs 1 _ (by decide) (HS0.out.el 1 _ _ _ rfl)).mono ?_
  rintro e w1 ⟨c1, hk, hv, rfl, b⟩
  have HKc1 : Hid (EOk c1 ∧ ev c1 = sqN (ev vs) 1) := ⟨hk, hv⟩
  have HS1 : Hid (RunP w w1 g x y z t [] [(g1, o1, us), (g2, o2, vs)]) := HS0.out.call b
  clear hk hv b HS0
  go_wp2_with (first
    | (refine wpList_newP HS1.out rfl (.tmp 7) (.tmp 17) rfl c1 rfl rfl HKc1.out.1 rfl ?_)
    | fail)
  intro w2 S
  have HS2 : Hid (RunP w w2 g x y z t [(w1.heap.size, c1)] [(g1, o1, us), (g2, o2, vs)]) := S
  clear S HS1
  generalize w1.heap.size = G2 at *
  go_wp2_with fail
  refine (times_any G2 0 g2 o2 c1 vs _ (HS2.out.re 0 _ _ rfl) (HS2.out.el 1 _ _ _ rfl)).mono ?_
  rintro e w3 ⟨c2, hk, hv, rfl, b⟩
  have HKc2 : Hid (EOk c2 ∧ ev c2 = ev c1 * ev vs % fp) := ⟨hk, hv⟩
  have HS3 : Hid (RunP w w3 g x y z t [(G2, c1)] [(g1, o1, us), (g2, o2, vs)]) := HS2.out.call b
  clear hk hv b HS2
  go_wp2_with (first
    | (refine wpList_rowP HS3.out rfl (.tmp 7) (.tmp 19) rfl 0 G2 c1 c2 rfl rfl rfl HKc2.out.1 rfl ?_)
    | fail)
  intro w4 S
  have HS4 : Hid (RunP w w4 g x y z t [(G2, c2)] [(g1, o1, us), (g2, o2, vs)]) := S
  clear S HS3
  go_wp2_with fail
  refine (times_any g1 o1 G2 0 us c2 _ (HS4.out.el 0 _ _ _ rfl) (HS4.out.re 0 _ _ rfl)).mono ?_
  rintro e w5 ⟨st, hk, hv, rfl, b⟩
  have HKst : Hid (EOk st ∧ ev st = ev us * ev c2 % fp) := ⟨hk, hv⟩
  have HS5 : Hid (RunP w w5 g x y z t [(G2, c2)] [(g1, o1, us), (g2, o2, vs)]) := HS4.out.call b
  clear hk hv b HS4
  go_wp2_with (first
    | (refine wpList_newP HS5.out rfl (.tmp 8) (.tmp 21) rfl st rfl rfl HKst.out.1 rfl ?_)
    | fail)
  intro w6 S
  have HS6 : Hid (RunP w w6 g x y z t [(w5.heap.size, st), (G2, c2)] [(g1, o1, us), (g2, o2, vs)]) := S
  clear S HS5
  generalize w5.heap.size = G6 at *
  go_wp2_with fail
  refine (squared_any g2 o2 vs 2 _ (by decide) (HS6.out.el 1 _ _ _ rfl)).mono ?_
  rintro e w7 ⟨f4, hk, hv, rfl, b⟩
  have HKf4 : Hid (EOk f4 ∧ ev f4 = sqN (ev vs) 2) := ⟨hk, hv⟩
  have HS7 : Hid (RunP w w7 g x y z t [(G6, st), (G2, c2)] [(g1, o1, us), (g2, o2, vs)]) := HS6.out.call b
  clear hk hv b HS6
  go_wp2_with (first
    | (refine wpList_newP HS7.out rfl (.tmp 9) (.tmp 23) rfl f4 rfl rfl HKf4.out.1 rfl ?_)
    | fail)
  intro w8 S
  have HS8 : Hid (RunP w w8 g x y z t [(w7.heap.size, f4), (G6, st), (G2, c2)] [(g1, o1, us), (g2, o2, vs)]) := S
  clear S HS7
  generalize w7.heap.size = G8 at *
  go_wp2_with fail
  refine (times_any G6 0 G8 0 st f4 _ (HS8.out.re 1 _ _ rfl) (HS8.out.re 0 _ _ rfl)).mono ?_
  rintro e w9 ⟨bs, hk, hv, rfl, b⟩
  have HKbs : Hid (EOk bs ∧ ev bs = ev st * ev f4 % fp) := ⟨hk, hv⟩
  have HS9 : Hid (RunP w w9 g x y z t [(G8, f4), (G6, st), (G2, c2)] [(g1, o1, us), (g2, o2, vs)]) := HS8.out.call b
  clear hk hv b HS8
  go_wp2_with (first
    | (refine wpList_newP HS9.out rfl (.tmp 10) (.tmp 24) rfl bs rfl rfl HKbs.out.1 rfl ?_)
    | fail)
  intro w10 S
  have HS10 : Hid (RunP w w10 g x y z t [(w9.heap.size, bs), (G8, f4), (G6, st), (G2, c2)] [(g1, o1, us), (g2, o2, vs)]) := S
  clear S HS9
  generalize w9.heap.size = G10 at *
  go_wp2_with fail
  refine (rootPower_any G10 0 bs _ (HS10.out.re 0 _ _ rfl)).mono ?_
  rintro e w11 ⟨pw, hk, hv, rfl, b⟩
  have HKpw : Hid (EOk pw ∧ ev pw = rpF (ev bs)) := ⟨hk, hv⟩
  have HS11 : Hid (RunP w w11 g x y z t [(G10, bs), (G8, f4), (G6, st), (G2, c2)] [(g1, o1, us), (g2, o2, vs)]) := HS10.out.call b
  clear hk hv b HS10
  go_wp2_with (first
    | (refine wpList_newP HS11.out rfl (.tmp 11) (.tmp 25) rfl pw rfl rfl HKpw.out.1 rfl ?_)
    | fail)
  intro w12 S
  have HS12 : Hid (RunP w w12 g x y z t [(w11.heap.size, pw), (G10, bs), (G8, f4), (G6, st), (G2, c2)] [(g1, o1, us), (g2, o2, vs)]) := S
  clear S HS11
  generalize w11.heap.size = G12 at *
  go_wp2_with fail
  refine (times_any G6 0 G12 0 st pw _ (HS12.out.re 3 _ _ rfl) (HS12.out.re 0 _ _ rfl)).mono ?_
  rintro e w13 ⟨rt, hk, hv, rfl, b⟩
  have HKrt : Hid (EOk rt ∧ ev rt = ev st * ev pw % fp) := ⟨hk, hv⟩
  have HS13 : Hid (RunP w w13 g x y z t [(G12, pw), (G10, bs), (G8, f4), (G6, st), (G2, c2)] [(g1, o1, us), (g2, o2, vs)]) := HS12.out.call b
  clear hk hv b HS12
  go_wp2_with (first
    | (refine wpList_midP HS13.out rfl (.tmp 28) (.tmp 27) rfl 0 (by decide) rt rt y z t (over_x HS13.out.pt.x.1 HKrt.out.1.1) ⟨HKrt.out.1, HS13.out.pt.y, HS13.out.pt.z, HS13.out.pt.t⟩ rfl rfl HKrt.out.1 rfl ?_)
    | fail)
  intro w14 S
  have HS14 : Hid (RunP w w14 g rt y z t [(G12, pw), (G10, bs), (G8, f4), (G6, st), (G2, c2)] [(g1, o1, us), (g2, o2, vs)]) := S
  clear S HS13
  go_wp2_with fail
  refine (squared_any g 0 rt 1 _ (by decide) HS14.out.pt.ex).mono ?_
  rintro e w15 ⟨sq, hk, hv, rfl, b⟩
  have HKsq : Hid (EOk sq ∧ ev sq = sqN (ev rt) 1) := ⟨hk, hv⟩
  have HS15 : Hid (RunP w w15 g rt y z t [(G12, pw), (G10, bs), (G8, f4), (G6, st), (G2, c2)] [(g1, o1, us), (g2, o2, vs)]) := HS14.out.call b
  clear hk hv b HS14
  go_wp2_with (first
    | (refine wpList_newP HS15.out rfl (.tmp 12) (.tmp 30) rfl sq rfl rfl HKsq.out.1 rfl ?_)
    | fail)
  intro w16 S
  have HS16 : Hid (RunP w w16 g rt y z t [(w15.heap.size, sq), (G12, pw), (G10, bs), (G8, f4), (G6, st), (G2, c2)] [(g1, o1, us), (g2, o2, vs)]) := S
  clear S HS15
  generalize w15.heap.size = G16 at *
  go_wp2_with fail
  refine (times_any G16 0 g2 o2 sq vs _ (HS16.out.re 0 _ _ rfl) (HS16.out.el 1 _ _ _ rfl)).mono ?_
  rintro e w17 ⟨rc, hk, hv, rfl, b⟩
  have HKrc : Hid (EOk rc ∧ ev rc = ev sq * ev vs % fp) := ⟨hk, hv⟩
  have HS17 : Hid (RunP w w17 g rt y z t [(G16, sq), (G12, pw), (G10, bs), (G8, f4), (G6, st), (G2, c2)] [(g1, o1, us), (g2, o2, vs)]) := HS16.out.call b
  clear hk hv b HS16
  go_wp2_with (first
    | (refine wpList_newP HS17.out rfl (.tmp 13) (.tmp 32) rfl rc rfl rfl HKrc.out.1 rfl ?_)
    | fail)
  intro w18 S
  have HS18 : Hid (RunP w w18 g rt y z t [(w17.heap.size, rc), (G16, sq), (G12, pw), (G10, bs), (G8, f4), (G6, st), (G2, c2)] [(g1, o1, us), (g2, o2, vs)]) := S
  clear S HS17
  generalize w17.heap.size = G18 at *
  have HRT : Hid (ev rt = rtF (ev us) (ev vs)) := by
    show _ = _
    unfold rtF
    rw [HKrt.out.2, HKpw.out.2, HKbs.out.2, HKst.out.2, HKf4.out.2, HKc2.out.2, HKc1.out.2]
  have HRC : Hid (ev rc = rcF (ev us) (ev vs)) := by
    show _ = _
    unfold rcF
    rw [HKrc.out.2, HKsq.out.2, HRT.out]
  clear HKpw HKbs HKst HKf4 HKc2 HKc1 HKsq HKrc
  go_wp2_with fail
  refine (equalsE_any G18 0 g1 o1 rc us _ (HS18.out.re 0 _ _ rfl) (HS18.out.el 0 _ _ _ rfl)).mono ?_
  rintro e wq ⟨rfl, b⟩
  have HSq : Hid (RunP w wq g rt y z t [(G18, rc), (G16, sq), (G12, pw), (G10, bs), (G8, f4), (G6, st), (G2, c2)] [(g1, o1, us), (g2, o2, vs)]) := HS18.out.call b
  clear b HS18
  by_cases hq : ev rc = ev us
  · have HQ : Hid (ev rc = ev us) := hq
    rw [decide_eq_true hq]
    clear hq
    go_wp2
    go_ret
    refine ⟨rt, HKrt.out.1, ?_, ?_, HSq.out.pt, HSq.out.wrh⟩
    · show _ = Ending.returned (.bool (drR (ev us) (ev vs)))
      have : drR (ev us) (ev vs) = true := by unfold drR; rw [← HRC.out, HQ.out]; simp
      rw [this]; rfl
    · unfold drX; rw [← HRC.out, HQ.out, if_pos rfl]; exact HRT.out
  · have HQ : Hid (¬ (ev rc = ev us)) := hq
    rw [decide_eq_false hq]
    clear hq
    go_wp2_with fail
    refine (negated_any g1 o1 us _ (HSq.out.el 0 _ _ _ rfl)).mono ?_
    rintro e w19 ⟨op, hk, hv, rfl, b⟩
    have HKop : Hid (EOk op ∧ ev op = (0 - ev us) % fp) := ⟨hk, hv⟩
    have HS19 : Hid (RunP w w19 g rt y z t [(G18, rc), (G16, sq), (G12, pw), (G10, bs), (G8, f4), (G6, st), (G2, c2)] [(g1, o1, us), (g2, o2, vs)]) := HSq.out.call b
    clear hk hv b HSq
    go_wp2_with (first
      | (refine wpList_newP HS19.out rfl (.tmp 14) (.tmp 36) rfl op rfl rfl HKop.out.1 rfl ?_)
      | fail)
    intro w20 S
    have HS20 : Hid (RunP w w20 g rt y z t [(w19.heap.size, op), (G18, rc), (G16, sq), (G12, pw), (G10, bs), (G8, f4), (G6, st), (G2, c2)] [(g1, o1, us), (g2, o2, vs)]) := S
    clear S HS19
    generalize w19.heap.size = G20 at *
    go_wp2_with fail
    refine (sm1_any _).mono ?_
    rintro e w21 ⟨tn, hk, hv, rfl, b⟩
    have HKtn : Hid (EOk tn ∧ ev tn = ev sm1L) := ⟨hk, hv⟩
    have HS21 : Hid (RunP w w21 g rt y z t [(G20, op), (G18, rc), (G16, sq), (G12, pw), (G10, bs), (G8, f4), (G6, st), (G2, c2)] [(g1, o1, us), (g2, o2, vs)]) := HS20.out.call b
    clear hk hv b HS20
    go_wp2_with (first
      | (refine wpList_newP HS21.out rfl (.tmp 15) (.tmp 37) rfl tn rfl rfl HKtn.out.1 rfl ?_)
      | fail)
    intro w22 S
    have HS22 : Hid (RunP w w22 g rt y z t [(w21.heap.size, tn), (G20, op), (G18, rc), (G16, sq), (G12, pw), (G10, bs), (G8, f4), (G6, st), (G2, c2)] [(g1, o1, us), (g2, o2, vs)]) := S
    clear S HS21
    generalize w21.heap.size = G22 at *
    go_wp2_with fail
    refine (times_any g 0 G22 0 rt tn _ HS22.out.pt.ex (HS22.out.re 0 _ _ rfl)).mono ?_
    rintro e w23 ⟨xx, hk, hv, rfl, b⟩
    have HKxx : Hid (EOk xx ∧ ev xx = ev rt * ev tn % fp) := ⟨hk, hv⟩
    have HS23 : Hid (RunP w w23 g rt y z t [(G22, tn), (G20, op), (G18, rc), (G16, sq), (G12, pw), (G10, bs), (G8, f4), (G6, st), (G2, c2)] [(g1, o1, us), (g2, o2, vs)]) := HS22.out.call b
    clear hk hv b HS22
    go_wp2_with (first
      | (refine wpList_midP HS23.out rfl (.tmp 41) (.tmp 40) rfl 0 (by decide) xx xx y z t (over_x HS23.out.pt.x.1 HKxx.out.1.1) ⟨HKxx.out.1, HS23.out.pt.y, HS23.out.pt.z, HS23.out.pt.t⟩ rfl rfl HKxx.out.1 rfl ?_)
      | fail)
    intro w24 S
    have HS24 : Hid (RunP w w24 g xx y z t [(G22, tn), (G20, op), (G18, rc), (G16, sq), (G12, pw), (G10, bs), (G8, f4), (G6, st), (G2, c2)] [(g1, o1, us), (g2, o2, vs)]) := S
    clear S HS23
    have HXX : Hid (ev xx = rtF (ev us) (ev vs) * ev sm1L % fp) := by
      show _ = _
      rw [HKxx.out.2, HKtn.out.2, HRT.out]
    clear HKtn
    go_wp2_with fail
    refine (equalsE_any G18 0 G20 0 rc op _ (HS24.out.re 2 _ _ rfl) (HS24.out.re 1 _ _ rfl)).mono ?_
    rintro e wz ⟨rfl, b⟩
    have HSz : Hid (RunP w wz g xx y z t [(G22, tn), (G20, op), (G18, rc), (G16, sq), (G12, pw), (G10, bs), (G8, f4), (G6, st), (G2, c2)] [(g1, o1, us), (g2, o2, vs)]) := HS24.out.call b
    clear b HS24
    have HD : Hid (decide (ev rc = ev op) = drR (ev us) (ev vs)) := by
      show _ = _
      unfold drR; rw [← HRC.out, HKop.out.2]
      simp [HQ.out]
    rw [HD.out]
    clear HD
    go_wp2
    go_ret
    refine ⟨xx, HKxx.out.1, rfl, ?_, HSz.out.pt, HSz.out.wrh⟩
    unfold drX; rw [← HRC.out, if_neg HQ.out]; exact HXX.out

set_option maxHeartbeats 4000000 in
theorem findX_any (g : Nat) (x y z t : List Int) (w : World) (hp : Pt w g x y z t) :
    Calls Try.prog 98 #[.pointer (some ⟨g, 0, none⟩)] w (DP w g y z t (uF (ev y)) (vF (ev y))) := by
  have HS0 : Hid (RunP w w g x y z t [] []) := RunP.start hp _ (fun e he => by simp at he)
  clear hp
  go_enter Try.func98, Try.ntmps98
  go_wp2_with (first
    | (refine wpList_newP HS0.out rfl (.tmp 3) (.tmp 8) rfl oneL rfl rfl one_ok rfl ?_)
    | fail)
  intro w1 S
  have HS1 : Hid (RunP w w1 g x y z t [(w.heap.size, oneL)] []) := S
  clear S HS0
  generalize w.heap.size = G1 at *
  go_wp2_with fail
  refine (curveD_any _).mono ?_
  rintro e w2 ⟨dd, hk, hv, rfl, b⟩
  have HKdd : Hid (EOk dd ∧ ev dd = ev curveDL) := ⟨hk, hv⟩
  have HS2 : Hid (RunP w w2 g x y z t [(G1, oneL)] []) := HS1.out.call b
  clear hk hv b HS1
  go_wp2_with (first
    | (refine wpList_newP HS2.out rfl (.tmp 4) (.tmp 9) rfl dd rfl rfl HKdd.out.1 rfl ?_)
    | fail)
  intro w3 S
  have HS3 : Hid (RunP w w3 g x y z t [(w2.heap.size, dd), (G1, oneL)] []) := S
  clear S HS2
  generalize w2.heap.size = G3 at *
  go_wp2_with fail
  refine (squared_any g 5 y 1 _ (by decide) HS3.out.pt.ey).mono ?_
  rintro e w4 ⟨sq, hk, hv, rfl, b⟩
  have HKsq : Hid (EOk sq ∧ ev sq = sqN (ev y) 1) := ⟨hk, hv⟩
  have HS4 : Hid (RunP w w4 g x y z t [(G3, dd), (G1, oneL)] []) := HS3.out.call b
  clear hk hv b HS3
  go_wp2_with (first
    | (refine wpList_newP HS4.out rfl (.tmp 5) (.tmp 13) rfl sq rfl rfl HKsq.out.1 rfl ?_)
    | fail)
  intro w5 S
  have HS5 : Hid (RunP w w5 g x y z t [(w4.heap.size, sq), (G3, dd), (G1, oneL)] []) := S
  clear S HS4
  generalize w4.heap.size = G5 at *
  go_wp2_with fail
  refine (minus_any G5 0 G1 0 sq oneL _ (HS5.out.re 0 _ _ rfl) (HS5.out.re 2 _ _ rfl)).mono ?_
  rintro e w6 ⟨ov, hk, hv, rfl, b⟩
  have HKov : Hid (EOk ov ∧ ev ov = (ev sq - ev oneL) % fp) := ⟨hk, hv⟩
  have HS6 : Hid (RunP w w6 g x y z t [(G5, sq), (G3, dd), (G1, oneL)] []) := HS5.out.call b
  clear hk hv b HS5
  go_wp2_with (first
    | (refine wpList_newP HS6.out rfl (.tmp 6) (.tmp 14) rfl ov rfl rfl HKov.out.1 rfl ?_)
    | fail)
  intro w7 S
  have HS7 : Hid (RunP w w7 g x y z t [(w6.heap.size, ov), (G5, sq), (G3, dd), (G1, oneL)] []) := S
  clear S HS6
  generalize w6.heap.size = G7 at *
  go_wp2_with fail
  refine (times_any G5 0 G3 0 sq dd _ (HS7.out.re 1 _ _ rfl) (HS7.out.re 2 _ _ rfl)).mono ?_
  rintro e w8 ⟨ua, hk, hv, rfl, b⟩
  have HKua : Hid (EOk ua ∧ ev ua = ev sq * ev dd % fp) := ⟨hk, hv⟩
  have HS8 : Hid (RunP w w8 g x y z t [(G7, ov), (G5, sq), (G3, dd), (G1, oneL)] []) := HS7.out.call b
  clear hk hv b HS7
  go_wp2_with (first
    | (refine wpList_newP HS8.out rfl (.tmp 7) (.tmp 15) rfl ua rfl rfl HKua.out.1 rfl ?_)
    | fail)
  intro w9 S
  have HS9 : Hid (RunP w w9 g x y z t [(w8.heap.size, ua), (G7, ov), (G5, sq), (G3, dd), (G1, oneL)] []) := S
  clear S HS8
  generalize w8.heap.size = G9 at *
  go_wp2_with fail
  refine (plus_any G9 0 G1 0 ua oneL _ (HS9.out.re 0 _ _ rfl) (HS9.out.re 4 _ _ rfl)).mono ?_
  rintro e w10 ⟨un, hk, hv, rfl, b⟩
  have HKun : Hid (EOk un ∧ ev un = (ev ua + ev oneL) % fp) := ⟨hk, hv⟩
  have HS10 : Hid (RunP w w10 g x y z t [(G9, ua), (G7, ov), (G5, sq), (G3, dd), (G1, oneL)] []) := HS9.out.call b
  clear hk hv b HS9
  go_wp2_with (first
    | (refine wpList_rowP HS10.out rfl (.tmp 7) (.tmp 16) rfl 0 G9 ua un rfl rfl rfl HKun.out.1 rfl ?_)
    | fail)
  intro w11 S
  have HS11 : Hid (RunP w w11 g x y z t [(G9, un), (G7, ov), (G5, sq), (G3, dd), (G1, oneL)] []) := S
  clear S HS10
  have HUF : Hid (ev ov = uF (ev y)) := by
    show _ = _
    unfold uF; rw [HKov.out.2, HKsq.out.2]
  have HVF : Hid (ev un = vF (ev y)) := by
    show _ = _
    unfold vF; rw [HKun.out.2, HKua.out.2, HKsq.out.2, HKdd.out.2]
  have hlt := HS11.out.lt
  have hn1 := (HS11.out.rows _ (List.mem_of_getElem? (i := 1) rfl)).1
  have hn2 := (HS11.out.rows _ (List.mem_of_getElem? (i := 0) rfl)).1
  dsimp only at hn1 hn2
  clear HKov HKsq HKun HKua HKdd
  go_wp2_with fail
  refine (divideRoot_any g x y z t G7 0 G9 0 ov un _ HS11.out.pt (HS11.out.re 1 _ _ rfl) (HS11.out.re 0 _ _ rfl) (by omega) (by omega)).mono ?_
  rintro e wd ⟨xs, hk, rfl, hx, hp, hw⟩
  rw [HUF.out, HVF.out] at hx ⊢
  have HX : Hid (EOk xs ∧ ev xs = drX (uF (ev y)) (vF (ev y)) ∧ Pt wd g xs y z t ∧ WrH g w wd) := ⟨hk, hx, hp, HS11.out.wrh.trans hw⟩
  clear hk hx hp hw HUF HVF hlt hn1 hn2 HS11
  go_wp2
  go_ret
  exact ⟨xs, HX.out.1, rfl, HX.out.2.1, HX.out.2.2.1, HX.out.2.2.2⟩
end Go.Proofs.Ythghkfncpdnpoac
