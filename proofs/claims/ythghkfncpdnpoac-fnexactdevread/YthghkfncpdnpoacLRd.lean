/-
  Own work: the law on DevRead.
-/
import Derived.Test.YthghkfncpdnpoacDevLaw
import Derived.Test.YthghkfncpdnpoacDevRdJ
import Derived.Test.YthghkfncpdnpoacDevMark
namespace Go.Proofs.Ythghkfncpdnpoac.lrd
open Go.ChangeShapes Go.WideShapes Go.ChangeAt Go.RowKit
set_option linter.unusedVariables false

theorem own : ownKnob Try.prog.godebug = none := by kernel_rfl
theorem laidOut : laidOutB Try.prog = true := by kernel_rfl

set_option maxHeartbeats 1600000 in
set_option maxRecDepth 100000 in
theorem walk (a : Option Addr) (n cap : Nat) (a' : Option Addr) (n' cap' : Nat) (zs : List Int) (ps : List PD) (f : Int) (d : Bool) (s : Int) (w : World) (hn : zs.length = n) (hn' : ps.length = n') (hm : n ≤ 9223372036854775807) (hm' : n' ≤ 9223372036854775807) (ha : At .u8 w a zs) (ha' : PAt w a' ps) (hps : ∀ i, (ps.getD i (0, [])).2.length ≤ 9223372036854775807) :
    Calls Try.prog 5 #[.agg #[.slice a n cap, .slice a' n' cap', .int .i64 f, .bool d], .int .i64 s] w fun e w' => e = .returned (.bool true) ∧ Below w.heap.size w w' := by
  have HZ : Hid (∀ left n, szR left n = if left < n then -1 else left - n) := fun _ _ => rfl
  have st0 : LV w (w.alloc (.cells #[.slice a n cap, .slice a' n' cap', .int .i64 f, .bool d] 36)) #[.slice a n cap, .slice a' n' cap', .int .i64 f, .bool d] := ⟨(Below.refl _ _).alloc (Nat.le_refl _) _, heap_alloc_new w _⟩
  have HS0 : Hid _ := st0
  clear st0
  go_enter Try.func5, Try.ntmps5
  go_wp2_with fail
  refine (szD_any a n cap a' n' cap' ps f d 1048576 _ hn' (by decide) (by decide) hm hm' (ha'.below HS0.out.below) hps).mono ?_
  rintro e w1 ⟨rfl, hb1⟩
  have st1 := LV.grow HS0.out hb1
  clear HS0 hb1
  by_cases hbig : (1048576 : Int) < ((n + (n' + pSum ps) : Nat) : Int)
  · have hr : szR 1048576 (n + (n' + pSum ps)) = -1 := by rw [HZ.out, if_pos hbig]
    rw [hr]
    have HB1 : Hid _ := st1.below
    clear st1
    go_wp2
    go_ret
    exact ⟨rfl, HB1.out⟩
  have hr : szR 1048576 (n + (n' + pSum ps)) = 1048576 - ((n + (n' + pSum ps) : Nat) : Int) := by rw [HZ.out, if_neg hbig]
  have hnb : n ≤ 1048576 := by omega
  have hnb' : n' ≤ 1048576 := by omega
  have hsum : n + n' + pSum ps ≤ 1048576 := by omega
  have hpb : ∀ i, (ps.getD i (0, [])).2.length ≤ 1048576 := fun i => by
    by_cases hi : i < ps.length
    · have h1 := pSum_snoc ps i hi
      have h2 := pSum_take ps (i + 1)
      omega
    · rw [List.getD_eq_getElem?_getD, List.getElem?_eq_none (by omega)]; simp
  have hneg : ¬ (szR 1048576 (n + (n' + pSum ps)) < 0) := by rw [hr]; omega
  generalize szR 1048576 (n + (n' + pSum ps)) = left at *
  clear hr hbig hm hm' hps HZ
  obtain ⟨c0, c1, c2, c3⟩ := st1.cells
  have HS1 : Hid _ := st1
  clear st1
  go_wp2_with fail
  refine (toD_any a n cap a' n' cap' zs ps f d _ hn hn' hnb hnb' (ha.below HS1.out.below) (ha'.below HS1.out.below) hpb).mono ?_
  rintro e w2 ⟨v2, rfl, D2, hb2⟩
  have st2 := LV.grow HS1.out hb2
  have D2' := D2.at_
  clear D2 hb2 HS1 c0 c1 c2 c3
  have HS2 : Hid _ := st2
  clear st2
  go_wp2_with fail
  refine (srd_any v2 zs ps f s d _ D2' (by omega) (by omega) hpb).mono ?_
  rintro e w3 ⟨v3, rfl, O3, hb3⟩
  have st3 := LV.grow HS2.out hb3
  clear D2' hb3 HS2
  obtain ⟨c0, c1, c2, c3⟩ := st3.cells
  have HS3 : Hid _ := st3
  have HB3 : Hid _ := st3.box
  clear st3
  have hrl := rdZ_le zs ps f s
  have HIR := ird_any (f := f) (s := s) (d := d) (zs := zs) (ps := ps)
  generalize rdZ zs ps f s = R at *
  have HIRD : Hid _ := HIR
  clear HIR
  obtain ⟨ra, rc, rfl, A3, _, hra⟩ := O3
  have HA3 : Hid _ := A3
  have HRA : Hid _ := hra
  clear A3 hra
  go_wp2_with fail
  refine (toD_any a n cap a' n' cap' zs ps f d _ hn hn' hnb hnb' (ha.below HS3.out.below) (ha'.below HS3.out.below) hpb).mono ?_
  rintro e w4 ⟨v4, rfl, D4, hb4⟩
  have st4 := LV.grow HS3.out hb4
  have A4 := At.below HA3.out hb4
  have s34 := hb4.size
  have D4' := D4
  obtain ⟨da, dc, ca, cc, B1, rfl, _⟩ := D4'
  clear hb4 HS3 HA3 c0 c1 c2 c3
  rw [hn, hn'] at D4 ⊢
  have HS4 : Hid _ := st4
  have HD4 : Hid _ := D4
  have HA4 : Hid _ := A4
  clear st4 D4 A4
  go_wp2_with fail
  have hb5 := (Below.refl w4.heap.size w4).alloc (Nat.le_refl _) (.cells #[.slice da n dc, .slice ca n' cc, .int .i64 f, .bool d] 41)
  have st5 := LV.grow HS4.out hb5
  have D5 := DMine.below (show DMine _ _ _ _ _ _ _ _ from HD4.out) hb5
  have A5 := At.below (show At .u8 w4 ra R from HA4.out) hb5
  have x5 : (w4.alloc (.cells #[.slice da n dc, .slice ca n' cc, .int .i64 f, .bool d] 41)).heap[w4.heap.size]? = some (.cells #[.slice da n dc, .slice ca n' cc, .int .i64 f, .bool d] 41 (0, 0)) := heap_alloc_new w4 _
  clear HS4 HD4 hb5 HA4
  generalize (w4.alloc (.cells #[.slice da n dc, .slice ca n' cc, .int .i64 f, .bool d] 41)) = w5 at *
  generalize hXX : w4.heap.size = X at *
  have hX5 : X < w5.heap.size := (Array.getElem?_eq_some_iff.1 x5).1
  refine (HIRD.out _ w5 D5.at_ (by omega) (by omega) hpb).mono ?_
  rintro e w6 ⟨v6, rfl, O6, hb6⟩
  have st6 := st5.grow hb6
  have D6 := D5.below hb6
  have A6 := A5.below hb6
  have x6 : w6.heap[X]? = some (.cells #[.slice da n dc, .slice ca n' cc, .int .i64 f, .bool d] 41 (0, 0)) := by rw [hb6.block _ hX5]; exact x5
  obtain ⟨ga, gc, rfl, G6, P6, hga⟩ := O6
  have s56 := hb6.size
  clear st5 D5 A5 x5 hb6
  have HS6 : Hid _ := st6
  have HD6 : Hid _ := D6
  have HA6 : Hid _ := A6
  have HX6 : Hid _ := x6
  have HG6 : Hid _ := G6
  have HP6 : Hid _ := P6
  have HGA : Hid _ := hga
  clear st6 D6 A6 x6 G6 P6 hga
  go_wp2_with fail
  refine (eqB_any ga ra R.length gc rc R w6 rfl (by omega) HG6.out HA6.out).mono ?_
  rintro e w7 ⟨rfl, q7, hw7⟩
  have hb7 : Below w6.heap.size w6 w7 := by rw [hw7]; exact below_drawn (Below.refl _ _) _
  have st7 := LV.grow HS6.out hb7
  have D7 := DMine.below (show DMine _ _ _ _ _ _ _ _ from HD6.out) hb7
  have A7 := At.below (show At .u8 w6 ra R from HA6.out) hb7
  have G7 := At.below (show At .u8 w6 ga R from HG6.out) hb7
  have P7 := Open.below (show Open w6 ga R.length from HP6.out) hb7
  have x7 : w7.heap[X]? = some (.cells #[.slice da n dc, .slice ca n' cc, .int .i64 f, .bool d] 41 (0, 0)) := by rw [hb7.block _ (by omega)]; exact HX6.out
  have s67 := hb7.size
  clear hw7 hb7 HS6 HD6 HA6 HX6 HG6 HP6
  have HS7 : Hid _ := st7
  have HD7 : Hid _ := D7
  have HA7 : Hid _ := A7
  have HX7 : Hid _ := x7
  have HG7 : Hid _ := G7
  have HP7 : Hid _ := P7
  have hX7 : X < w7.heap.size := by omega
  clear st7 D7 A7 x7 G7 P7
  go_wp2
  refine wp_region_any (by kernel_rfl) ?_
  refine wpAny_slots (frame := fun t => { tmps := #[Value.agg #[Value.slice a n cap, Value.slice a' n' cap', Value.int IntKind.i64 f, Value.bool d], Value.int IntKind.i64 s, Value.pointer (some { block := w.heap.size, off := 0 }), undef, Value.bool false, Value.int IntKind.i64 left, Value.slice ra R.length rc, Value.pointer (some { block := X, off := 0 }), Value.slice ga R.length gc, undef, undef, undef, undef, Value.agg #[Value.slice a n cap, Value.slice a' n' cap', Value.int IntKind.i64 f, Value.bool d], Value.int IntKind.i64 1048576, Value.int IntKind.i64 left, Value.int IntKind.i64 left, Value.bool (decide (left < 0)), Value.agg #[Value.slice a n cap, Value.slice a' n' cap', Value.int IntKind.i64 f, Value.bool d], v2, Value.int IntKind.i64 s, Value.slice ra R.length rc, Value.agg #[Value.slice a n cap, Value.slice a' n' cap', Value.int IntKind.i64 f, Value.bool d], Value.agg #[Value.slice da n dc, Value.slice ca n' cc, Value.int IntKind.i64 f, Value.bool d], Value.agg #[Value.slice da n dc, Value.slice ca n' cc, Value.int IntKind.i64 f, Value.bool d], Value.int IntKind.i64 s, Value.slice ga R.length gc, Value.slice ga R.length gc, Value.slice ra R.length rc, Value.bool true, Value.bool false, t 0, t 1, t 2, t 3, t 4, undef, undef, undef, undef, undef, undef, undef, undef, undef, undef, undef, undef, undef, undef, undef, undef, undef, undef, undef, undef, undef, undef, undef, undef, undef, undef, undef, undef, undef, undef], defers := [] })
    (Ext := fun w' => LV w w' #[Value.slice a n cap, Value.slice a' n' cap', Value.int IntKind.i64 f, Value.bool d] ∧ Below w7.heap.size w7 w') (Good := G10 zs ps f d (.agg #[Value.slice da n dc, Value.slice ca n' cc, Value.int IntKind.i64 f, Value.bool d]) (.agg #[Value.slice a n cap, Value.slice a' n' cap', Value.int IntKind.i64 f, Value.bool d])) (G10_mono _ _ _ _ _ _) (by kernel_rfl) (by kernel_rfl) ?hop ?hdone _ _ (fun _ => undef) _ (by simp) ?ext ?start (by simp)
  case start => intro i hi h; exact absurd h (by rw [Array.getD_eq_getD_getElem?, Array.getElem?_replicate]; split <;> simp)
  case ext => exact ⟨LV.grow HS7.out ((Below.refl _ _).drew), (Below.refl _ _).drew⟩
  case hop =>
    intro i o t w' ho hx hdep K hK
    obtain ⟨hx, hxb⟩ := hx
    have hi : i < 5 := (Array.getElem?_eq_some_iff.1 ho).1
    obtain rfl | rfl | rfl | rfl | rfl : i = 0 ∨ i = 1 ∨ i = 2 ∨ i = 3 ∨ i = 4 := by omega
    all_goals (simp at ho; subst ho)
    · clear hdep
      obtain ⟨q0, q1, q2, q3⟩ := row4 (w := w') (g := X) ((hxb.block _ hX7).trans HX7.out)
      go_simp
      exact hK w' _ rfl ⟨hx, hxb⟩ (Mono.refl _)
    · clear hdep
      obtain ⟨q0, q1, q2, q3⟩ := hx.cells
      go_simp
      exact hK w' _ rfl ⟨hx, hxb⟩ (Mono.refl _)
    · have d1 : t 1 = _ := hdep ⟨1, .data⟩ (by simp) rfl
      clear hdep
      go_simp
      refine (toD_any a n cap a' n' cap' zs ps f d _ hn hn' hnb hnb' (ha.below hx.below) (ha'.below hx.below) hpb).mono ?_
      rintro e w9 ⟨v9, rfl, D9, hb9⟩
      have D9' := D9.at_
      go_simp
      simpa [upd, d1] using hK w9 v9 D9' ⟨hx.grow hb9, hxb.trans (hb9.mono hxb.size)⟩ (Mono.of_below hb9)
    · have d0 : t 0 = _ := hdep ⟨0, .data⟩ (by simp) rfl
      have d2 : DAt w' (t 2) zs ps f d := hdep ⟨2, .data⟩ (by simp) rfl
      clear hdep
      go_simp
      refine (eqD_any _ _ zs ps f d w' (DAt.below (DMine.at_ (show DMine _ _ _ _ _ _ _ _ from HD7.out)) hxb) d2 (by omega) (by omega) hpb).mono ?_
      rintro e w9 ⟨rfl, hb9⟩
      go_simp
      simpa [upd, d0] using hK w9 (.bool true) rfl ⟨hx.grow hb9, hxb.trans (hb9.mono hxb.size)⟩ (Mono.of_below hb9)
    · have d3 : t 3 = _ := hdep ⟨3, .data⟩ (by simp) rfl
      clear hdep
      go_simp
      simpa [upd, d3] using hK w' (.bool false) rfl ⟨hx, hxb⟩ (Mono.refl _)
  case hdone =>
    intro t w8 hx hg
    have h4 : t 4 = _ := hg 4 (by decide)
    clear hg
    rw [h4]
    generalize t 0 = t0
    generalize t 1 = t1
    generalize t 2 = t2
    generalize t 3 = t3
    clear h4
    obtain ⟨st8, hb8⟩ := hx
    have D8 := DMine.below (show DMine _ _ _ _ _ _ _ _ from HD7.out) hb8
    have A8 := At.below (show At .u8 w7 ra R from HA7.out) hb8
    have G8 := At.below (show At .u8 w7 ga R from HG7.out) hb8
    have P8 := Open.below (show Open w7 ga R.length from HP7.out) hb8
    have x8 : w8.heap[X]? = some (.cells #[.slice da n dc, .slice ca n' cc, .int .i64 f, .bool d] 41 (0, 0)) := by rw [hb8.block _ hX7]; exact HX7.out
    have s78 := hb8.size
    obtain ⟨c0, c1, c2, c3⟩ := row4 x8
    have HS8 : Hid _ := st8
    have HD8 : Hid _ := D8
    have HA8 : Hid _ := A8
    have HX8 : Hid _ := x8
    have HG8 : Hid _ := G8
    have HP8 : Hid _ := P8
    clear st8 D8 A8 x8 G8 P8 hb8 HS7 HD7 HA7 HX7 HG7 HP7
    go_wp2_with fail
    refine (markD_any _ zs ps f d 1 _ _ w8 HD8.out (by decide) (by omega)).mono ?_
    rintro e w9 ⟨rfl, _, hc9⟩
    have hkk : (0 : Int) ≤ 1 + zs.length + ps.length + pSum ps := by omega
    generalize (1 + (zs.length : Int) + ps.length + pSum ps) = kk at *
    have s89 := hc9.size
    have hw8 : w.heap.size < w3.heap.size := by
      have := (Array.getElem?_eq_some_iff.1 HB3.out).1
      exact this
    have st9 : LV w w9 #[Value.slice a n cap, Value.slice a' n' cap', Value.int IntKind.i64 f, Value.bool d] := ⟨(LV.below HS8.out).trans ((hc9.below (by omega)).mono (by omega)), by rw [hc9.block _ (by omega) (.inl (by omega))]; exact (LV.box HS8.out)⟩
    have A9 : At .u8 w9 ra R := At.keep (show At .u8 w8 ra R from HA8.out) (fun ad e => by have := HRA.out ad e; exact hc9.block _ (by omega) (.inl (by omega))) s89
    have G9 : At .u8 w9 ga R := At.keep (show At .u8 w8 ga R from HG8.out) (fun ad e => by have := HGA.out ad e; exact hc9.block _ (by omega) (.inr (by omega))) s89
    have P9 : Open w9 ga R.length := Open.keep (show Open w8 ga R.length from HP8.out) (fun ad e => by have := HGA.out ad e; exact hc9.block _ (by omega) (.inr (by omega))) s89
    have HS9 : Hid _ := st9
    have HA9 : Hid _ := A9
    have HG9 : Hid _ := G9
    have HP9 : Hid _ := P9
    clear st9 A9 G9 P9 hc9 HS8 HD8 HA8 HX8 HG8 HP8 c0 c1 c2 c3
    go_wp2_with fail
    refine (eqB_any ga ra R.length gc rc R w9 rfl (by omega) HG9.out HA9.out).mono ?_
    rintro e w10 ⟨rfl, q10, hw10⟩
    have hb10 : Below w9.heap.size w9 w10 := by rw [hw10]; exact below_drawn (Below.refl _ _) _
    have st10 := LV.grow HS9.out hb10
    have A10 := At.below (show At .u8 w9 ra R from HA9.out) hb10
    have P10 := Open.below (show Open w9 ga R.length from HP9.out) hb10
    have s910 := hb10.size
    have HS10 : Hid _ := st10
    have HA10 : Hid _ := A10
    have HP10 : Hid _ := P10
    clear st10 A10 P10 hw10 hb10 HS9 HA9 HG9 HP9
    go_wp2_with fail
    refine (markB_any ga R.length gc 1 w10 HP10.out (by decide) (by omega)).mono ?_
    rintro e w11 ⟨rfl, G11, hwr⟩
    have s11 := hwr.size
    have st11 : LV w w11 #[Value.slice a n cap, Value.slice a' n' cap', Value.int IntKind.i64 f, Value.bool d] := ⟨(LV.below HS10.out).trans (hwr.below _ (fun ad e => by have := HGA.out ad e; omega)), by rw [hwr.block _ (fun ad e => by have := HGA.out ad e; omega)]; exact (LV.box HS10.out)⟩
    have A11 : At .u8 w11 ra R := At.keep (show At .u8 w10 ra R from HA10.out) (fun ad e => by have := HRA.out ad e; exact hwr.block _ (fun ad' e' => by have := HGA.out ad' e'; omega)) (by omega)
    have HS11 : Hid _ := st11
    have HA11 : Hid _ := A11
    have HG11 : Hid _ := G11
    clear st11 A11 G11 hwr HS10 HA10 HP10
    go_wp2_with fail
    refine (heldB_any ga R.length gc 1 w11 HG11.out (by decide) (by omega)).mono ?_
    rintro e w12 ⟨rfl, rfl⟩
    obtain ⟨c0, c1, c2, c3⟩ := LV.cells HS11.out
    have t1 : ¬ (1 + (R.length : Int)) < 0 := by omega
    have t2 : ((1 + (R.length : Int)) != 1 + (R.length : Int)) = false := by simp
    clear HG11
    go_wp2_with fail
    refine (toD_any a n cap a' n' cap' zs ps f d _ hn hn' hnb hnb' (ha.below (LV.below HS11.out)) (ha'.below (LV.below HS11.out)) hpb).mono ?_
    rintro e w13 ⟨v13, rfl, D13, hb13⟩
    have st13 := LV.grow HS11.out hb13
    have A13 := At.below (show At .u8 w12 ra R from HA11.out) hb13
    have D13' := D13.at_
    have HS13 : Hid _ := st13
    have HA13 : Hid _ := A13
    clear st13 A13 D13 hb13 HS11 HA11 c0 c1 c2 c3
    go_wp2_with fail
    refine (HIRD.out _ w13 D13' (by omega) (by omega) hpb).mono ?_
    rintro e w14 ⟨v14, rfl, O14, hb14⟩
    obtain ⟨ha14, hc14, rfl, H14, _, _⟩ := O14
    have st14 := LV.grow HS13.out hb14
    have A14 := At.below (show At .u8 w13 ra R from HA13.out) hb14
    have HS14 : Hid _ := st14
    have HA14 : Hid _ := A14
    have HH14 : Hid _ := H14
    clear st14 A14 H14 hb14 HS13 HA13 D13'
    go_wp2_with fail
    refine (eqB_any ha14 ra R.length hc14 rc R w14 rfl (by omega) HH14.out HA14.out).mono ?_
    rintro e w15 ⟨rfl, q15, hw15⟩
    have HB15 : Hid (Below w.heap.size w w15) := by unfold Hid; rw [hw15]; exact below_drawn (LV.below HS14.out) _
    clear hw15 HS14 HA14 HH14
    go_wp2
    go_ret
    exact ⟨rfl, HB15.out⟩

set_option maxRecDepth 100000 in
theorem lifted (os : Os) (started : os.Started) (H : Type) (enc : TypeId × Value → H) :
    ReturnsInHanded {} Try.checked os 5 .any (Rows.fnExactDevReadSpec.pre6 enc Try.prog Try.f5 Rows.fnExactDevReadRow.domain false) (Rows.fnExactDevReadSpec.post enc Try.prog Try.f5 false true false false) := by
  refine returnsInHanded_of_change (C := Try.checked) own started (by kernel_rfl) Try.func5
    (ChangeSpec.witness6 (enc := enc) (C := Try.checked) false ⟨#[], #[.agg #[.slice none 0 0, .slice none 0 0, .int .i64 0, .bool false], .int .i64 0], []⟩ 8 (by kernel_rfl) (by kernel_rfl) (by kernel_rfl) (by kernel_rfl)) ?_
  intro W base args ds gs before hval0 hW hcnd _
  have hval : ∀ (j : Nat) t v, Try.f5.params[j]? = some t → args[j]? = some v → Value.okWide Try.prog W .any base t v := hval0
  have hW' := hW
  obtain ⟨p, q, hA0, hV, rfl, hfz, hnd⟩ := hW
  have hA : DataW.TrodAll enc Try.prog W 0 (fun _ => true) true Try.f5.params.toList args.toList ds p := hA0
  rw [Try.params5] at hA hval
  obtain ⟨v0, vs0, d0, ds0, p0, q0, hargs, rfl, rfl, h0, r0⟩ := trodAll_cons hA
  obtain ⟨v1, vs1, d1, ds1, p1, q1, hargs1, rfl, rfl, h1, r1⟩ := trodAll_cons r0
  obtain ⟨rfl, rfl, rfl⟩ := trodAll_nil r1
  obtain rfl : args = #[v0, v1] := by cases args; simp_all
  obtain ⟨rfl, rfl⟩ := trodVars_none hV
  have k0 := h0
  have k1 := h1
  have lt0 : ∀ x ∈ p0, x.block < W.heap.size := by obtain ⟨m, hm⟩ := k0; exact DataW.trod_lt m _ _ _ hm
  have lt1 : ∀ x ∈ p1, x.block < W.heap.size := by obtain ⟨m, hm⟩ := k1; exact DataW.trod_lt m _ _ _ hm
  obtain ⟨a, n, cap, a', n', cap', zs, ps, f, d, rfl, hn, hn', hm, hm', ha, ha', hps, _, _, _⟩ := dev_of (hval 0 36 v0 rfl rfl) h0
  obtain ⟨s, rfl, rfl, rfl, w1⟩ := open_int Try.underlying2 (hval 1 2 v1 rfl rfl) h1
  clear hA0 hval0
  refine (walk a n cap a' n' cap' zs ps f d s W hn hn' hm hm' ha ha' hps).mono fun e W' ⟨he, bel⟩ => ?_
  subst he
  exact ⟨_, rfl, _, _, _, [], _, [], hW', trodAll_mk1 (shut_bool Try.underlying4 _), (trodAll_cons_mk (Below.trod laidOut (by kernel_rfl) (of_decide_eq_true (by kernel_rfl)) k0 bel lt0) (trodAll_cons_mk (Below.trod laidOut (by kernel_rfl) (of_decide_eq_true (by kernel_rfl)) k1 bel lt1) trodAll_mk0)), rfl, bel.frame _, fun h => by cases h⟩

theorem over : Rows.fnExactDevReadRow.holds Try.pinned (OpenSpec.ofChange Rows.fnExactDevReadSpec) :=
  OpenClaim.holds_of_wide 5 Try.f5 rfl rfl rfl rfl rfl rfl rfl ⟨rfl, rfl, rfl, rfl, rfl⟩ rfl rfl rfl rfl rfl (by kernel_rfl) Try.func5 (by kernel_rfl)
    (of_decide_eq_true (by kernel_rfl)) (by unfold Func.isWrapper; first | (rw [if_pos (by decide +kernel)]; kernel_rfl) | (rw [if_neg (by decide +kernel)]; exact ⟨rfl, rfl⟩))
    (fun os started H enc _ => lifted os started H enc)
end Go.Proofs.Ythghkfncpdnpoac.lrd
namespace Go.Proofs.Ythghkfncpdnpoac
theorem devRead_holds : Rows.FnExactDevReadSaid := lrd.over
#print axioms devRead_holds
end Go.Proofs.Ythghkfncpdnpoac
