/-
  Own work: the law on sums of multiples of a drawn point (written by wip/mklgp.py).
-/
import Derived.Test.YtdaglofgioehhaaEpu
import Derived.Test.YtdaglofgioehhaaMLwa
import Derived.Test.YtdaglofgioehhaaPAi
import Derived.Test.YtdaglofgioehhaaMGr
import Derived.WalkKit
import Derived.ProofKit
import Derived.OpenShut
import Derived.ShutString
import Derived.ChangeOld
import Derived.Below
import Derived.Lib.SmallJoins
import Derived.BigQuiet
namespace Go.Proofs.Ytdaglofgioehhaa.lgp
open Go.ChangeShapes Go.WideShapes Go.ChangeAt Go.RowKit
open Go.ChangeMaps (open_string shut_string)
set_option linter.unusedVariables false

theorem own : ownKnob Try.prog.godebug = none := by kernel_rfl
theorem laidOut : laidOutB Try.prog = true := by kernel_rfl

section
variable {H : Type} {enc : TypeId × Value → H} {W : World}
set_option maxRecDepth 100000 in
theorem bytes_of {fuel : Nat} {v : Value} {y : DataW H × List MemPlace} (h : DataW.trod enc Try.prog W 0 (fun _ => true) true fuel 22 [v] = some y) :
    ∃ a n cap zs, v = .slice a n cap ∧ zs.length = n ∧ n ≤ 9223372036854775807 ∧ Byte zs ∧ At .u8 W a zs := by
  rcases open_ints Try.underlying22 Try.underlying5 (by kernel_rfl) h with ⟨hcs, _⟩ | ⟨x, l, c, zs, hcs, _, hl, hm, hz, _, hcell, hwz⟩
  · simp at hcs
    exact ⟨none, 0, 0, [], hcs, rfl, by omega, by simp [Byte], .inl rfl⟩
  · simp at hcs
    have hz' : zs.length = c := by simpa using hz
    refine ⟨some x, l, c, zs.take l, hcs, by simp; omega, by unfold maxLen at hm; omega, fun n hn => ?_, ?_⟩
    · have := hwz n (List.mem_of_mem_take hn)
      simp [Lit.wf, IntKind.min, IntKind.max, IntKind.signed, IntKind.bits] at this
      omega
    · by_cases h0 : l = 0
      · left; simp [h0]
      · right
        obtain ⟨b, off, spot⟩ := x
        have hc0 := hcell 0 (by omega)
        have hs : spot = none := by simpa [Addr.add] using World.cell?_spot hc0
        subst hs
        refine ⟨b, off, rfl, block_lt_of_cell (a := (⟨b, off, none⟩ : Addr).add 0) hc0, fun i hi => ?_⟩
        have hi' : i < l := by simp at hi; omega
        have := hcell i (by omega)
        rw [Addr.add_lit] at this
        rw [this]
        simp [List.getD, hi']
end
set_option maxRecDepth 100000 in
set_option maxHeartbeats 16000000 in
theorem walk (a0 a1 : Option Addr) (len0 cap0 len1 cap1 : Nat) (zs0 ys : List Int) (w : World) (hn : zs0.length = len0) (hn1 : ys.length = len1) (hz : Byte zs0) (hz1 : Byte ys) (ha : At .u8 w a0 zs0) (ha1 : At .u8 w a1 ys) :
    Calls Try.prog 6 #[.slice a0 len0 cap0, .slice a1 len1 cap1] w fun e w' => e = .returned (.bool true) ∧ Below w.heap.size w w' := by
  by_cases hl : (1048576 : Int) < (len0 : Int)
  · go_enter Try.func6, Try.ntmps6
    go_wp2
    go_ret
    exact ⟨rfl, Below.refl _ _⟩
  by_cases hl1 : (1048576 : Int) < (len1 : Int)
  · go_enter Try.func6, Try.ntmps6
    go_wp2
    go_ret
    exact ⟨rfl, Below.refl _ _⟩
  have hl' : len0 ≤ 1048576 := by omega
  have HY := hid_ofE ha1
  have HD := hid_ofE (drawPt_any a0 len0 cap0 zs0 w hn hl' hz ha)
  clear ha1 ha hz hn
  go_enter Try.func6, Try.ntmps6
  go_wp2_with fail
  refine HD.out.mono ?_
  rintro e w1 ⟨v1, m, rfl, hm, ⟨gp, cp, ps, rfl, hpc, hpl, hpb, hpA⟩, B1⟩
  have hm' : m ≤ 1048576 := by omega
  have HY1 := hid_ofE (HY.out.below B1)
  have HP1 := hid_ofE hpA
  have HB1 := hid_ofE B1
  clear HD HY hpA B1
  go_wp2_with fail
  refine (spk_any _ m cp ps _ hpl hm' HP1.out hpb).mono ?_
  rintro e w2 ⟨rfl, B2⟩
  have HY2 := hid_ofE (HY1.out.below B2)
  have HP2 := hid_ofE (HP1.out.below B2)
  have HB2 : Hid (Below w.heap.size w w2) := HB1.out.trans (B2.mono HB1.out.size)
  clear HY1 HP1 HB1 B2
  cases hq : mB ps mdD with
  | false =>
    clear HY2
    go_wp2_with fail
    refine (ipk_any _ m cp ps _ hpl hm' HP2.out hpb).mono ?_
    rintro e w3 ⟨rfl, B3⟩
    rw [hq]
    have HP3 := hid_ofE (HP2.out.below B3)
    have HB3 : Hid (Below w.heap.size w w3) := HB2.out.trans (B3.mono HB2.out.size)
    clear HP2 HB2 B3
    have HQ := hid_ofE (paZ_no (zs := ps) (ys := ps) (by rw [hq]; simp))
    go_wp2_with fail
    refine (ipad_any _ _ m cp m cp ps ps _ hpl hm' HP3.out hpb hpl hm' HP3.out hpb).mono ?_
    rintro e w4 ⟨v4, rfl, R4, B4⟩
    rw [HQ.out] at R4
    obtain ⟨a4, c4, rfl, _⟩ := R4
    have HB4 : Hid (Below w.heap.size w w4) := HB3.out.trans (B4.mono HB3.out.size)
    clear HP3 HB3 B4 HQ
    rw [List.length_nil]
    go_wp2
    go_ret
    exact ⟨rfl, HB4.out⟩
  | true =>
    have HM := hid_ofE hq
    clear hq
    go_wp2_with fail
    refine (lwAt_any _ len1 cap1 0 ys _ hn1 HY2.out hz1 (by decide)).mono ?_
    rintro e _ ⟨y0, rfl, h00, h01, rfl⟩
    go_wp2_with fail
    refine (lwAt_any _ len1 cap1 1 ys _ hn1 HY2.out hz1 (by decide)).mono ?_
    rintro e _ ⟨y1, rfl, h10, h11, rfl⟩
    go_wp2_with fail
    refine (lwAt_any _ len1 cap1 2 ys _ hn1 HY2.out hz1 (by decide)).mono ?_
    rintro e _ ⟨y2, rfl, h20, h21, rfl⟩
    go_wp2_with fail
    refine (lwAt_any _ len1 cap1 3 ys _ hn1 HY2.out hz1 (by decide)).mono ?_
    rintro e _ ⟨y3, rfl, h30, h31, rfl⟩
    go_wp2_with fail
    refine (lwAt_any _ len1 cap1 4 ys _ hn1 HY2.out hz1 (by decide)).mono ?_
    rintro e _ ⟨y4, rfl, h40, h41, rfl⟩
    go_wp2_with fail
    refine (lwAt_any _ len1 cap1 5 ys _ hn1 HY2.out hz1 (by decide)).mono ?_
    rintro e _ ⟨y5, rfl, h50, h51, rfl⟩
    go_wp2_with fail
    have hA : Hid (0 ≤ y0 + 256 * y1 + 65536 * y2 ∧ y0 + 256 * y1 + 65536 * y2 < 16777216) := ⟨by omega, by omega⟩
    have hB : Hid (0 ≤ y3 + 256 * y4 + 65536 * y5 ∧ y3 + 256 * y4 + 65536 * y5 < 16777216) := ⟨by omega, by omega⟩
    obtain ⟨A0, A1⟩ := hA.out
    obtain ⟨C0, C1⟩ := hB.out
    clear hA hB HY2
    generalize y0 + 256 * y1 + 65536 * y2 = A at *
    generalize y3 + 256 * y4 + 65536 * y5 = C at *
    clear h00 h01 h10 h11 h20 h21 h30 h31 h40 h41 h50 h51
    have hm32 : m = 32 := by rw [← hpl]; exact (mB_len2 HM.out).1
    subst hm32
    refine (lwSc_any (A) _ A0 (by omega)).mono ?_
    rintro e w3 ⟨v3, ka, rfl, O3, kab, kal, kav, B3⟩
    obtain ⟨g3, c3, rfl, _, _, A3⟩ := O3.at2
    rw [kal]
    have HKka3 := hid_ofE A3
    clear O3 A3
    have HP3 := hid_ofE (HP2.out.below B3)
    have HB3 : Hid (Below w.heap.size w w3) := HB2.out.trans (B3.mono HB2.out.size)
    clear HP2 HB2 B3
    go_wp2_with fail
    refine (imul_any _ _ 32 _ 32 _ ka ps _ kal (by decide) HKka3.out kab hpl (by decide) HP3.out hpb).mono ?_
    rintro e w4 ⟨v4, rfl, R4, B4⟩
    obtain ⟨X1, X2, X3⟩ := muZ_code kal kab hpb HM.out
    obtain ⟨aX, cX, rfl, A4, _⟩ := R4
    rw [X1]
    have HZX4 := hid_ofE A4
    clear A4 X3
    clear HKka3
    have HP4 := hid_ofE (HP3.out.below B4)
    have HB4 : Hid (Below w.heap.size w w4) := HB3.out.trans (B4.mono HB3.out.size)
    clear HP3 HB3 B4
    go_wp2_with fail
    refine (lwSc_any (C) _ C0 (by omega)).mono ?_
    rintro e w5 ⟨v5, kb, rfl, O5, kbb, kbl, kbv, B5⟩
    obtain ⟨g5, c5, rfl, _, _, A5⟩ := O5.at2
    rw [kbl]
    have HKkb5 := hid_ofE A5
    clear O5 A5
    have HP5 := hid_ofE (HP4.out.below B5)
    have HZX5 := hid_ofE (HZX4.out.below B5)
    have HB5 : Hid (Below w.heap.size w w5) := HB4.out.trans (B5.mono HB4.out.size)
    clear HP4 HZX4 HB4 B5
    go_wp2_with fail
    refine (imul_any _ _ 32 _ 32 _ kb ps _ kbl (by decide) HKkb5.out kbb hpl (by decide) HP5.out hpb).mono ?_
    rintro e w6 ⟨v6, rfl, R6, B6⟩
    obtain ⟨Y1, Y2, Y3⟩ := muZ_code kbl kbb hpb HM.out
    obtain ⟨aY, cY, rfl, A6, _⟩ := R6
    rw [Y1]
    have HZY6 := hid_ofE A6
    clear A6 Y3
    clear HKkb5
    have HP6 := hid_ofE (HP5.out.below B6)
    have HZX6 := hid_ofE (HZX5.out.below B6)
    have HB6 : Hid (Below w.heap.size w w6) := HB5.out.trans (B6.mono HB5.out.size)
    clear HP5 HZX5 HB5 B6
    go_wp2_with fail
    refine (lwSc_any (A + C) _ (by omega) (by omega)).mono ?_
    rintro e w7 ⟨v7, kc, rfl, O7, kcb, kcl, kcv, B7⟩
    obtain ⟨g7, c7, rfl, _, _, A7⟩ := O7.at2
    rw [kcl]
    have HKkc7 := hid_ofE A7
    clear O7 A7
    have HP7 := hid_ofE (HP6.out.below B7)
    have HZX7 := hid_ofE (HZX6.out.below B7)
    have HZY7 := hid_ofE (HZY6.out.below B7)
    have HB7 : Hid (Below w.heap.size w w7) := HB6.out.trans (B7.mono HB6.out.size)
    clear HP6 HZX6 HZY6 HB6 B7
    go_wp2_with fail
    refine (imul_any _ _ 32 _ 32 _ kc ps _ kcl (by decide) HKkc7.out kcb hpl (by decide) HP7.out hpb).mono ?_
    rintro e w8 ⟨v8, rfl, R8, B8⟩
    obtain ⟨Z1, Z2, Z3⟩ := muZ_code kcl kcb hpb HM.out
    obtain ⟨aZ, cZ, rfl, A8, _⟩ := R8
    rw [Z1]
    have HZZ8 := hid_ofE A8
    clear A8 Z3
    clear HKkc7
    have HP8 := hid_ofE (HP7.out.below B8)
    have HZX8 := hid_ofE (HZX7.out.below B8)
    have HZY8 := hid_ofE (HZY7.out.below B8)
    have HB8 : Hid (Below w.heap.size w w8) := HB7.out.trans (B8.mono HB7.out.size)
    clear HP7 HZX7 HZY7 HB7 B8
    have HGa := hid_ofE (grp kal kab kbl kbb kcl kcb hpb HM.out (by rw [kcv, kav, kbv])).1
    have HGb := hid_ofE (grp kbl kbb kal kab kcl kcb hpb HM.out (by rw [kcv, kav, kbv, Int.add_comm])).1
    have HGm := hid_ofE (grp kal kab kbl kbb kcl kcb hpb HM.out (by rw [kcv, kav, kbv])).2
    go_wp2_with fail
    refine (ipad_any _ _ 32 _ 32 _ (muZ ka ps) (muZ kb ps) _ X1 (by decide) HZX8.out X2 Y1 (by decide) HZY8.out Y2).mono ?_
    rintro e w9 ⟨v9, rfl, R9, B9⟩
    rw [HGa.out] at R9
    obtain ⟨aa, ca, rfl, A9, _⟩ := R9
    rw [Z1]
    have HS9 := hid_ofE A9
    clear A9
    have HP9 := hid_ofE (HP8.out.below B9)
    have HZX9 := hid_ofE (HZX8.out.below B9)
    have HZY9 := hid_ofE (HZY8.out.below B9)
    have HZZ9 := hid_ofE (HZZ8.out.below B9)
    have HB9 : Hid (Below w.heap.size w w9) := HB8.out.trans (B9.mono HB8.out.size)
    clear HP8 HZX8 HZY8 HZZ8 HB8 B9
    go_wp2_with fail
    refine (lwR_any _ _ 32 32 _ _ (muZ kc ps) (muZ kc ps) _ Z1 Z1 HS9.out HZZ9.out Z2 Z2).mono ?_
    rintro e _ ⟨rfl, rfl⟩
    rw [decide_eq_true (rfl : muZ kc ps = muZ kc ps)]
    clear HS9
    go_wp2_with fail
    refine (ipad_any _ _ 32 _ 32 _ (muZ kb ps) (muZ ka ps) _ Y1 (by decide) HZY9.out Y2 X1 (by decide) HZX9.out X2).mono ?_
    rintro e w10 ⟨v10, rfl, R10, B10⟩
    rw [HGb.out] at R10
    obtain ⟨ab, cb, rfl, A10, _⟩ := R10
    rw [Z1]
    have HS10 := hid_ofE A10
    clear A10
    have HP10 := hid_ofE (HP9.out.below B10)
    have HZX10 := hid_ofE (HZX9.out.below B10)
    have HZY10 := hid_ofE (HZY9.out.below B10)
    have HZZ10 := hid_ofE (HZZ9.out.below B10)
    have HB10 : Hid (Below w.heap.size w w10) := HB9.out.trans (B10.mono HB9.out.size)
    clear HP9 HZX9 HZY9 HZZ9 HB9 B10
    go_wp2_with fail
    refine (lwR_any _ _ 32 32 _ _ (muZ kc ps) (muZ kc ps) _ Z1 Z1 HS10.out HZZ10.out Z2 Z2).mono ?_
    rintro e _ ⟨rfl, rfl⟩
    rw [decide_eq_true (rfl : muZ kc ps = muZ kc ps)]
    clear HS10
    go_wp2_with fail
    refine (ipk_any _ 32 _ (muZ kc ps) _ Z1 (by decide) HZZ10.out Z2).mono ?_
    rintro e w11 ⟨rfl, B11⟩
    rw [HGm.out]
    have HP11 := hid_ofE (HP10.out.below B11)
    have HZX11 := hid_ofE (HZX10.out.below B11)
    have HZY11 := hid_ofE (HZY10.out.below B11)
    have HZZ11 := hid_ofE (HZZ10.out.below B11)
    have HB11 : Hid (Below w.heap.size w w11) := HB10.out.trans (B11.mono HB10.out.size)
    clear HP10 HZX10 HZY10 HZZ10 HB10 B11
    go_wp2_with fail
    refine (lwSc_any (A + C) _ (by omega) (by omega)).mono ?_
    rintro e w12 ⟨v12, kd, rfl, O12, kdb, kdl, kdv, B12⟩
    obtain ⟨g12, c12, rfl, _, _, A12⟩ := O12.at2
    rw [kdl]
    have HKkd12 := hid_ofE A12
    clear O12 A12
    have HP12 := hid_ofE (HP11.out.below B12)
    have HZX12 := hid_ofE (HZX11.out.below B12)
    have HZY12 := hid_ofE (HZY11.out.below B12)
    have HZZ12 := hid_ofE (HZZ11.out.below B12)
    have HB12 : Hid (Below w.heap.size w w12) := HB11.out.trans (B12.mono HB11.out.size)
    clear HP11 HZX11 HZY11 HZZ11 HB11 B12
    go_wp2_with fail
    have hkd : kd = kc := val_inj (B := 256) (by decide) kdb kcb (by omega) (by rw [kdv, kcv])
    subst hkd
    refine (smul_any _ _ 32 _ 32 _ _ ps _ kdl (by decide) HKkd12.out kdb hpl (by decide) HP12.out hpb).mono ?_
    rintro e w13 ⟨b13, o13, c13, rfl, _, A13, B13⟩
    rw [Z1]
    have HS13 := hid_ofE A13
    clear A13
    have HP13 := hid_ofE (HP12.out.below B13)
    have HZX13 := hid_ofE (HZX12.out.below B13)
    have HZY13 := hid_ofE (HZY12.out.below B13)
    have HZZ13 := hid_ofE (HZZ12.out.below B13)
    have HKkd13 := hid_ofE (HKkd12.out.below B13)
    have HB13 : Hid (Below w.heap.size w w13) := HB12.out.trans (B13.mono HB12.out.size)
    clear HP12 HZX12 HZY12 HZZ12 HKkd12 HB12 B13
    go_wp2_with fail
    refine (lwR_any _ _ 32 32 _ _ _ _ _ Z1 Z1 HZZ13.out HS13.out Z2 Z2).mono ?_
    rintro e _ ⟨rfl, rfl⟩
    rw [decide_eq_true rfl]
    go_wp2
    go_ret
    exact ⟨rfl, HB13.out⟩
set_option maxRecDepth 100000 in
theorem lifted (os : Os) (started : os.Started) (H : Type) (enc : TypeId × Value → H) :
    ReturnsInHanded {} Try.checked os 6 .any (Rows.fnGroupSpec.pre6 enc Try.prog Try.f6 Rows.fnGroupRow.domain false) (Rows.fnGroupSpec.post enc Try.prog Try.f6 false true false false) := by
  refine returnsInHanded_of_change (C := Try.checked) own started (by kernel_rfl) Try.func6
    (ChangeSpec.witness6 (enc := enc) (C := Try.checked) false ⟨#[], #[.slice none 0 0, .slice none 0 0], []⟩ 8 (by kernel_rfl) (by kernel_rfl) (by kernel_rfl) (by kernel_rfl)) ?_
  intro W base args ds gs before hval0 hW hcnd _
  have hval : ∀ (j : Nat) t v, Try.f6.params[j]? = some t → args[j]? = some v → Value.okWide Try.prog W .any base t v := hval0
  have hW' := hW
  obtain ⟨p, q, hA0, hV, rfl, hfz, hnd⟩ := hW
  have hA : DataW.TrodAll enc Try.prog W 0 (fun _ => true) true Try.f6.params.toList args.toList ds p := hA0
  rw [Try.params6] at hA hval
  obtain ⟨v0, vs0, d0, ds0, p0, q0, hargs, rfl, rfl, h0, r0⟩ := trodAll_cons hA
  obtain ⟨v1, vs1, d1, ds1, p1, q1, hargs1, rfl, rfl, h1, r1⟩ := trodAll_cons r0
  obtain ⟨rfl, rfl, rfl⟩ := trodAll_nil r1
  obtain rfl : args = #[v0, v1] := by cases args; simp_all
  obtain ⟨rfl, rfl⟩ := trodVars_none hV
  have k0 := h0
  have k1 := h1
  have lt0 : ∀ x ∈ p0, x.block < W.heap.size := by obtain ⟨m, hm⟩ := k0; exact DataW.trod_lt m _ _ _ hm
  have lt1 : ∀ x ∈ p1, x.block < W.heap.size := by obtain ⟨m, hm⟩ := k1; exact DataW.trod_lt m _ _ _ hm
  obtain ⟨a0, len0, cap0, hv0⟩ := okWide_slice Try.underlying22 (hval 0 22 v0 rfl rfl)
  obtain ⟨a1, len1, cap1, hv1⟩ := okWide_slice Try.underlying22 (hval 1 22 v1 rfl rfl)
  subst hv0
  subst hv1
  obtain ⟨m0, hm0⟩ := h0
  obtain ⟨m1, hm1⟩ := h1
  have hm0' : DataW.trod enc Try.prog W 0 (fun _ => true) true m0 22 [Value.slice a0 len0 cap0] = some (d0, p0) := hm0
  have hm1' : DataW.trod enc Try.prog W 0 (fun _ => true) true m1 22 [Value.slice a1 len1 cap1] = some (d1, p1) := hm1
  obtain ⟨_, _, _, zs, e0, hn, _, hz, ha⟩ := bytes_of hm0'
  obtain ⟨_, _, _, ys, e1, hn1, _, hz1, ha1⟩ := bytes_of hm1'
  cases e0
  cases e1
  clear hA0 hval0
  refine (walk a0 a1 len0 cap0 len1 cap1 zs ys W hn hn1 hz hz1 ha ha1).mono fun e W' ⟨he, bel⟩ => ?_
  subst he
  exact ⟨_, rfl, _, _, _, [], _, [], hW', trodAll_mk1 (shut_bool Try.underlying4 _), (trodAll_cons_mk (Below.trod laidOut (by kernel_rfl) (of_decide_eq_true (by kernel_rfl)) k0 bel lt0) (trodAll_cons_mk (Below.trod laidOut (by kernel_rfl) (of_decide_eq_true (by kernel_rfl)) k1 bel lt1) trodAll_mk0)), rfl, bel.frame _, fun h => by cases h⟩

theorem over : Rows.fnGroupRow.holds Try.pinned (OpenSpec.ofChange Rows.fnGroupSpec) :=
  OpenClaim.holds_of_wide 6 Try.f6 rfl rfl rfl rfl rfl rfl rfl ⟨rfl, rfl, rfl, rfl, rfl⟩ rfl rfl rfl rfl rfl (by kernel_rfl) Try.func6 (by kernel_rfl)
    (of_decide_eq_true (by kernel_rfl)) (by unfold Func.isWrapper; first | (rw [if_pos (by decide +kernel)]; kernel_rfl) | (rw [if_neg (by decide +kernel)]; exact ⟨rfl, rfl⟩))
    (fun os started H enc _ => lifted os started H enc)

end Go.Proofs.Ytdaglofgioehhaa.lgp
namespace Go.Proofs.Ytdaglofgioehhaa
theorem group_holds : Rows.FnGroupSaid := lgp.over
#print axioms group_holds
end Go.Proofs.Ytdaglofgioehhaa
