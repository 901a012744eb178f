/-
  Own work: the law on VerifySig, and its card (written by wip/mklvf.py).
-/
import Derived.Test.YtclmhdhblghfnaaDoorVsS
import Derived.Test.YtclmhdhblghfnaaDoorVsI
import Derived.Test.YtclmhdhblghfnaaDoorMBytes
import Derived.Test.YtclmhdhblghfnaaDoorTie
import Derived.Test.YtclmhdhblghfnaaDoorCards
import Derived.WalkKit
import Derived.ProofKit
import Derived.OpenShut
import Derived.ShutString
import Derived.ChangeOld
import Derived.Below
import Derived.OpenVars
import Derived.ChangeVars
import Derived.LaidMore
import Derived.Lay
import Derived.SevenTiedAt
import Derived.Stop.Joined
namespace Go.Proofs.YtclmhdhblghfnaaDoor.lvf
open Go.ChangeShapes Go.WideShapes Go.ChangeAt Go.RowKit
open Go.ChangeMaps (open_string shut_string)
set_option linter.unusedVariables false

theorem own : ownKnob Tryd.prog.godebug = none := by kernel_rfl
theorem laidOut : laidOutB Tryd.prog = true := by kernel_rfl

abbrev laid : List (String × DataW Unit) := [("loop.example/s02127/impl.roundConstants", Rows.laid_loop_example_s02127_impl_roundConstants)]
theorem laid_eq : (Rows.laid_loop_example_s02127_impl_roundConstants : DataW Unit) = .agg (tab.map fun n : Nat => .lit (.int .u64 (n : Int))) := by kernel_rfl
theorem tab_len : tab.length = 88 := by kernel_rfl

theorem tab_cell {W : World} (h : laidMetH Tryd.prog laid W) : TabIn W := by
  intro r hr
  rw [MakeChecks.laidMetH_plain _ _ _ (by kernel_rfl)] at h
  obtain ⟨ps, ⟨g, t, cs, fuel, p, q, hg, ht, hv, hd, _, _⟩, _, _⟩ := h
  obtain rfl := Option.some.inj ((show Tryd.prog.globalNamed "loop.example/s02127/impl.roundConstants" = some 0 by kernel_rfl).symm.trans hg)
  obtain rfl := Option.some.inj ((show (Tryd.prog.globals[0]?).map (·.type) = some 98 by kernel_rfl).symm.trans ht)
  rw [laid_eq] at hd
  obtain ⟨xs, m, _, ex, _, hl, hel⟩ := DataW.trod_array Tryd.underlying98 hd
  have c5 : Tryd.prog.cellsOf 39 = 1 := by kernel_rfl
  have hE := hel r hr
  rw [c5, Nat.mul_one, List.getElem?_eq_getElem (by omega)] at hE
  obtain ⟨z, e1, e2, _⟩ := DataW.trod_int Tryd.underlying39 hE
  have hlen := tab_len
  have e3 : (xs.map (·.1)) = tab.map fun n : Nat => .lit (.int .u64 (n : Int)) := (DataW.agg.inj (Prod.mk.inj ex).1).symm
  have e4 : (xs.map (·.1))[r]? = (tab.map fun n : Nat => (DataW.lit (.int .u64 (n : Int)) : DataW Unit))[r]? := by rw [e3]
  rw [List.getElem?_map, List.getElem?_map, List.getElem?_eq_getElem (by omega : r < xs.length), List.getElem?_eq_getElem (by omega : r < tab.length), e2] at e4
  have hz : z = (tab.getD r 0 : Nat) := by
    simp only [Option.map_some, Option.some.injEq, DataW.lit.injEq, Lit.int.injEq, true_and] at e4
    rw [e4, List.getD, List.getElem?_eq_getElem (by omega : r < tab.length)]; rfl
  rw [World.var?_cell hg hv r, ← hz]
  have : cs.toList[r]? = some (.int .u64 z) := by
    have h0 : ((cs.toList.drop r).take 1)[0]? = some (.int .u64 z) := by rw [e1]; rfl
    simpa using h0
  simpa using this

def IsRow (k : IntKind) (w : World) (a : Option Addr) (len cap : Nat) (zs : List Int) : Prop :=
  (a = none ∧ len = 0 ∧ cap = 0 ∧ zs = []) ∨
  ∃ x, a = some x ∧ len ≤ cap ∧ cap ≤ maxLen ∧ zs.length = cap ∧ (∀ i, i < zs.length → w.cell? (x.add i) = some (.int k (zs.getD i 0))) ∧ ∀ n ∈ zs, (Lit.int k n).wf = true

theorem IsRow.at_ {w : World} {a : Option Addr} {len cap : Nat} {z : List Int} (h : IsRow .u8 w a len cap z) : ∃ zs, zs.length = len ∧ Byte zs ∧ At .u8 w a zs := by
  rcases h with ⟨rfl, rfl, rfl, rfl⟩ | ⟨x, rfl, hl, hm, hz, hc, hw⟩
  · exact ⟨[], rfl, by simp [Byte], .inl rfl⟩
  · refine ⟨z.take len, by simp; omega, fun n hn => ?_, ?_⟩
    · have := hw n (List.mem_of_mem_take hn)
      simp [Lit.wf, IntKind.min, IntKind.max, IntKind.signed, IntKind.bits] at this
      omega
    · by_cases h0 : len = 0
      · left; simp [h0]
      · right
        obtain ⟨b, off, spot⟩ := x
        have hc0 := hc 0 (by omega)
        have hs : spot = none := by simpa [Addr.add] using World.cell?_spot hc0
        subst hs
        refine ⟨b, off, rfl, block_lt_of_cell (a := (⟨b, off, none⟩ : Addr).add 0) hc0, fun i hi => ?_⟩
        have hi' : i < len := by simp at hi; omega
        have := hc i (by omega)
        rw [Addr.add_lit] at this
        rw [this]
        simp [List.getD, hi']

theorem below_drewN {B : Nat} {a w : World} (h : Below B a w) (n : Nat) : Below B a (w.drewN n) := ⟨h.os, h.tape, h.output, h.size, h.block⟩

/-- What toByteS leaves. -/
theorem pta_of {w w1 : World} {n : Nat} {zs : List Int} (hn : zs.length = n) (ho : w1.ownsRow w.heap.size 5 1 (.slice (some ⟨w.heap.size, 0, none⟩) n n) n (zs.map (Value.int .u8))) : PtA w1 w.heap.size 0 zs := by
  constructor
  · rcases ho.2 with ⟨h', _⟩ | ⟨g', c', cur, h', hb, hh, _⟩
    · cases h'
    · cases h'; exact (Array.getElem?_eq_some_iff.1 hh).1
  · intro i hi
    rw [Nat.zero_add, ho.cellAt i (by omega)]; simp [hi]

set_option maxHeartbeats 4000000 in
theorem walk (a0 : Option Addr) (len0 cap0 : Nat) (z0 : List Int) (a1 : Option Addr) (len1 cap1 : Nat) (z1 : List Int) (a2 : Option Addr) (len2 cap2 : Nat) (z2 : List Int) (w : World) (w0 : IsRow .u8 w a0 len0 cap0 z0) (w1 : IsRow .u8 w a1 len1 cap1 z1) (w2 : IsRow .u8 w a2 len2 cap2 z2) (hT : TabIn w) (h00 : 0 < w.heap.size) :
    Calls Tryd.prog 3 #[.slice a0 len0 cap0, .slice a1 len1 cap1, .slice a2 len2 cap2] w fun e w' => e = .returned (.bool true) ∧ Below w.heap.size w w' := by
  by_cases hl : (1048576 : Int) < (len0 : Int)
  · go_enter Tryd.func3, Tryd.ntmps3
    go_wp2
    go_ret
    exact ⟨rfl, Below.refl _ _⟩
  by_cases hl1 : (1048576 : Int) < (len1 : Int)
  · go_enter Tryd.func3, Tryd.ntmps3
    go_wp2
    go_ret
    exact ⟨rfl, Below.refl _ _⟩
  by_cases hl2 : (1048576 : Int) < (len2 : Int)
  · go_enter Tryd.func3, Tryd.ntmps3
    go_wp2
    go_ret
    exact ⟨rfl, Below.refl _ _⟩
  obtain ⟨xs, hn0, hz0, ha0⟩ := IsRow.at_ w0
  obtain ⟨ys, hn1, hz1, ha1⟩ := IsRow.at_ w1
  obtain ⟨zs, hn2, hz2, ha2⟩ := IsRow.at_ w2
  have hb0 : len0 ≤ 1048576 := by omega
  have hb1 : len1 ≤ 1048576 := by omega
  have hb2 : len2 ≤ 1048576 := by omega
  have HT := hid_ofS hT
  have HH0 := hid_ofS h00
  have HA := hid_ofS (And.intro ha0 (And.intro ha1 ha2))
  have HZ := hid_ofS (And.intro hz0 (And.intro hz1 hz2))
  clear w0 w1 w2 hT h00 ha0 ha1 ha2 hz0 hz1 hz2
  go_enter Tryd.func3, Tryd.ntmps3
  go_wp2_with fail
  refine (toB_any a0 len0 cap0 xs _ hn0 hb0 (HA.out.1)).mono ?_
  rintro e w1 ⟨rfl, ho, hb⟩
  have HB1 : Hid (Below w.heap.size w w1) := hb
  have P1_1 := hid_ofS (pta_of hn0 ho)
  clear ho hb 
  go_wp2_with fail
  refine (toB_any a1 len1 cap1 ys _ hn1 hb1 (HA.out.2.1.below HB1.out)).mono ?_
  rintro e w2 ⟨rfl, ho, hb⟩
  have HB2 : Hid (Below w.heap.size w w2) := HB1.out.trans (hb.mono HB1.out.size)
  have P2_2 := hid_ofS (pta_of hn1 ho)
  have P1_2 := hid_ofS (P1_1.out.below hb)
  clear ho hb P1_1 HB1
  go_wp2_with fail
  refine (toB_any a2 len2 cap2 zs _ hn2 hb2 (HA.out.2.2.below HB2.out)).mono ?_
  rintro e w3 ⟨rfl, ho, hb⟩
  have HB3 : Hid (Below w.heap.size w w3) := HB2.out.trans (hb.mono HB2.out.size)
  have P3_3 := hid_ofS (pta_of hn2 ho)
  have P1_3 := hid_ofS (P1_2.out.below hb)
  have P2_3 := hid_ofS (P2_2.out.below hb)
  clear ho hb P1_2 P2_2 HB2
  go_wp2_with fail
  refine (vsS_any w.heap.size 0 len0 w1.heap.size 0 len1 w2.heap.size 0 len2 len0 len1 len2 xs ys zs _ hn0 hn1 hn2 P1_3.out P2_3.out P3_3.out HZ.out.1 HZ.out.2.1 HZ.out.2.2 (Nat.le_refl _) hb0 hb1 hb2).mono ?_
  rintro e w4 ⟨rfl, hb⟩
  have HB4 : Hid (Below w.heap.size w w4) := HB3.out.trans (hb.mono HB3.out.size)
  obtain ⟨vr, hvr⟩ : ∃ v, v = vsR xs ys zs := ⟨_, rfl⟩
  rw [← hvr]
  have HVR := hid_ofS hvr
  clear hb HB3 P1_3 P2_3 P3_3 hvr
  go_wp2_with fail
  refine (toB_any a0 len0 cap0 xs _ hn0 hb0 (HA.out.1.below HB4.out)).mono ?_
  rintro e w5 ⟨rfl, ho, hb⟩
  have HB5 : Hid (Below w.heap.size w w5) := HB4.out.trans (hb.mono HB4.out.size)
  have P5_5 := hid_ofS (pta_of hn0 ho)
  clear ho hb  HB4
  go_wp2_with fail
  refine (toB_any a1 len1 cap1 ys _ hn1 hb1 (HA.out.2.1.below HB5.out)).mono ?_
  rintro e w6 ⟨rfl, ho, hb⟩
  have HB6 : Hid (Below w.heap.size w w6) := HB5.out.trans (hb.mono HB5.out.size)
  have P6_6 := hid_ofS (pta_of hn1 ho)
  have P5_6 := hid_ofS (P5_5.out.below hb)
  clear ho hb P5_5 HB5
  go_wp2_with fail
  refine (toB_any a2 len2 cap2 zs _ hn2 hb2 (HA.out.2.2.below HB6.out)).mono ?_
  rintro e w7 ⟨rfl, ho, hb⟩
  have HB7 : Hid (Below w.heap.size w w7) := HB6.out.trans (hb.mono HB6.out.size)
  have P7_7 := hid_ofS (pta_of hn2 ho)
  have P5_7 := hid_ofS (P5_6.out.below hb)
  have P6_7 := hid_ofS (P6_6.out.below hb)
  clear ho hb P5_6 P6_6 HB6
  go_wp2_with fail
  refine (vsI_any w4.heap.size 0 len0 w5.heap.size 0 len1 w6.heap.size 0 len2 len0 len1 len2 xs ys zs _ hn0 hn1 hn2 P5_7.out P6_7.out P7_7.out HZ.out.1 HZ.out.2.1 HZ.out.2.2 (Nat.le_refl _) hb0 hb1 hb2 (tab_keepV HT.out HH0.out HB7.out) (Nat.lt_of_lt_of_le HH0.out HB7.out.size)).mono ?_
  rintro e w8 ⟨rfl, hb⟩
  have HB8 : Hid (Below w.heap.size w w8) := HB7.out.trans (hb.mono HB7.out.size)
  have P5_8 := hid_ofS (P5_7.out.below hb)
  have P6_8 := hid_ofS (P6_7.out.below hb)
  have P7_8 := hid_ofS (P7_7.out.below hb)
  rw [← HVR.out]
  have hne : (vr != vr) = false := by simp
  clear hb HB7 P5_7 P6_7 P7_7
  go_wp2_with fail
  refine (toB_any a0 len0 cap0 xs _ hn0 hb0 (HA.out.1.below HB8.out)).mono ?_
  rintro e w9 ⟨rfl, ho, hb⟩
  have HB9 : Hid (Below w.heap.size w w9) := HB8.out.trans (hb.mono HB8.out.size)
  have P9_9 := hid_ofS (pta_of hn0 ho)
  have P5_9 := hid_ofS (P5_8.out.below hb)
  have P6_9 := hid_ofS (P6_8.out.below hb)
  have P7_9 := hid_ofS (P7_8.out.below hb)
  clear ho hb P5_8 P6_8 P7_8 HB8
  go_wp2_with fail
  refine (eqB_any _ _ len0 len0 len0 xs _ hn0 hb0 P5_9.out.at_ P9_9.out.at_).mono ?_
  rintro e w10 ⟨rfl, q9, rfl⟩
  have HB10 : Hid (Below w.heap.size w (w9.drewN q9)) := below_drewN HB9.out _
  have P6_10 : Hid (PtA (w9.drewN q9) _ 0 _) := ⟨P6_9.out.lt, P6_9.out.c⟩
  have P7_10 : Hid (PtA (w9.drewN q9) _ 0 _) := ⟨P7_9.out.lt, P7_9.out.c⟩
  clear HB9 P5_9 P6_9 P7_9 P9_9
  generalize w9.drewN q9 = w10 at *
  go_wp2_with fail
  refine (toB_any a1 len1 cap1 ys _ hn1 hb1 (HA.out.2.1.below HB10.out)).mono ?_
  rintro e w11 ⟨rfl, ho, hb⟩
  have HB11 : Hid (Below w.heap.size w w11) := HB10.out.trans (hb.mono HB10.out.size)
  have P11_11 := hid_ofS (pta_of hn1 ho)
  have P6_11 := hid_ofS (P6_10.out.below hb)
  have P7_11 := hid_ofS (P7_10.out.below hb)
  clear ho hb P6_10 P7_10 HB10
  go_wp2_with fail
  refine (eqB_any _ _ len1 len1 len1 ys _ hn1 hb1 P6_11.out.at_ P11_11.out.at_).mono ?_
  rintro e w12 ⟨rfl, q11, rfl⟩
  have HB12 : Hid (Below w.heap.size w (w11.drewN q11)) := below_drewN HB11.out _
  have P7_12 : Hid (PtA (w11.drewN q11) _ 0 _) := ⟨P7_11.out.lt, P7_11.out.c⟩
  clear HB11 P6_11 P7_11 P11_11
  generalize w11.drewN q11 = w12 at *
  go_wp2_with fail
  refine (toB_any a2 len2 cap2 zs _ hn2 hb2 (HA.out.2.2.below HB12.out)).mono ?_
  rintro e w13 ⟨rfl, ho, hb⟩
  have HB13 : Hid (Below w.heap.size w w13) := HB12.out.trans (hb.mono HB12.out.size)
  have P13_13 := hid_ofS (pta_of hn2 ho)
  have P7_13 := hid_ofS (P7_12.out.below hb)
  clear ho hb P7_12 HB12
  go_wp2_with fail
  refine (eqB_any _ _ len2 len2 len2 zs _ hn2 hb2 P7_13.out.at_ P13_13.out.at_).mono ?_
  rintro e w14 ⟨rfl, q13, rfl⟩
  have HB14 : Hid (Below w.heap.size w (w13.drewN q13)) := below_drewN HB13.out _
  clear HB13 P7_13 P13_13
  generalize w13.drewN q13 = w14 at *
  go_wp2
  go_ret
  exact ⟨rfl, HB14.out⟩

set_option maxRecDepth 100000 in
theorem lifted (os : Os) (started : os.Started) (H : Type) (enc : TypeId × Value → H) :
    ReturnsInHanded {} Tryd.checked os 3 .any (fun w args => (Rows.fnExactVerifySigSpec.pre enc Tryd.prog Tryd.f3 Rows.fnExactVerifySigRow.domain false w args ∧ laidMetH Tryd.prog laid w) ∧ sizedMet enc Tryd.prog Tryd.f3 (OpenSpec.ofChange Rows.fnExactVerifySigSpec) false w args)
      (Rows.fnExactVerifySigSpec.post enc Tryd.prog Tryd.f3 false true false false) := by
  refine returnsInHanded_of_change_and (C := Tryd.checked) (X := fun w _ => laidMetH Tryd.prog laid w) (fun _ _ _ hh h => h.of_heap hh) own started (by kernel_rfl) Tryd.func3
    (ChangeSpec.witness_shaped (enc := enc) (C := Tryd.checked) (os := os) (X := fun w _ => laidMetH Tryd.prog laid w) false (World.laidAll Tryd.prog os laid) #[.slice none 0 0, .slice none 0 0, .slice none 0 0] 8 (World.laidAll_os _ _ _)
      (World.shaped_of_ZipB (by kernel_rfl) (by kernel_rfl)) (by kernel_rfl) (by kernel_rfl) (by kernel_rfl)
      (by rw [MakeChecks.laidMetH_plain _ _ _ (by kernel_rfl)]; exact laidMet_laidAll _ (by kernel_rfl) (by kernel_rfl))) ?_
  intro W base args ds gs before hval0 hW hcnd _ hL _
  have hval : ∀ (j : Nat) t v, Tryd.f3.params[j]? = some t → args[j]? = some v → Value.okWide Tryd.prog W .any base t v := hval0
  have hW' := hW
  obtain ⟨p, q, hA0, hV, rfl, _, _⟩ := hW
  have hA : DataW.TrodAll enc Tryd.prog W 0 (fun _ => true) true Tryd.f3.params.toList args.toList ds p := hA0
  rw [Tryd.params3] at hA hval
  obtain ⟨v0, vs0, d0, ds0, p0, q0, hargs, rfl, rfl, h0, r0⟩ := trodAll_cons hA
  obtain ⟨v1, vs1, d1, ds1, p1, q1, hargs1, rfl, rfl, h1, r1⟩ := trodAll_cons r0
  obtain ⟨v2, vs2, d2, ds2, p2, q2, hargs2, rfl, rfl, h2, r2⟩ := trodAll_cons r1
  obtain ⟨rfl, rfl, rfl⟩ := trodAll_nil r2
  obtain rfl : args = #[v0, v1, v2] := by cases args; simp_all
  have hV2 : DataW.TrodVars enc Tryd.prog W (fun _ => true) ["loop.example/s02127/impl.roundConstants"] gs q := hV
  obtain ⟨g, t, cs, fuel, d, pp, rfl, hg, ht, hv, hd, rfl⟩ := trodVars_one hV2
  obtain ⟨a0, len0, cap0, rfl⟩ := okWide_slice Tryd.underlying22 (hval 0 22 v0 rfl rfl)
  have k0 := h0
  have lt0 : ∀ x ∈ p0, x.block < W.heap.size := by obtain ⟨m, hm⟩ := k0; exact DataW.trod_lt m _ _ _ hm
  obtain ⟨z0, w0⟩ : ∃ zs, IsRow .u8 W a0 len0 cap0 zs := by
    obtain ⟨fuel, hf⟩ := h0
    rcases open_ints Tryd.underlying22 Tryd.underlying5 (by kernel_rfl) hf with ⟨hcs, _⟩ | ⟨x, l, c, zs, hcs, _, hl, hm, hz, _, hcell, hwz⟩
    · simp [Value.cells] at hcs
      obtain ⟨rfl, rfl, rfl⟩ := hcs
      exact ⟨[], .inl ⟨rfl, rfl, rfl, rfl⟩⟩
    · simp [Value.cells] at hcs
      obtain ⟨rfl, rfl, rfl⟩ := hcs
      exact ⟨zs, .inr ⟨_, rfl, hl, hm, by simpa using hz, hcell, hwz⟩⟩
  obtain ⟨a1, len1, cap1, rfl⟩ := okWide_slice Tryd.underlying22 (hval 1 22 v1 rfl rfl)
  have k1 := h1
  have lt1 : ∀ x ∈ p1, x.block < W.heap.size := by obtain ⟨m, hm⟩ := k1; exact DataW.trod_lt m _ _ _ hm
  obtain ⟨z1, w1⟩ : ∃ zs, IsRow .u8 W a1 len1 cap1 zs := by
    obtain ⟨fuel, hf⟩ := h1
    rcases open_ints Tryd.underlying22 Tryd.underlying5 (by kernel_rfl) hf with ⟨hcs, _⟩ | ⟨x, l, c, zs, hcs, _, hl, hm, hz, _, hcell, hwz⟩
    · simp [Value.cells] at hcs
      obtain ⟨rfl, rfl, rfl⟩ := hcs
      exact ⟨[], .inl ⟨rfl, rfl, rfl, rfl⟩⟩
    · simp [Value.cells] at hcs
      obtain ⟨rfl, rfl, rfl⟩ := hcs
      exact ⟨zs, .inr ⟨_, rfl, hl, hm, by simpa using hz, hcell, hwz⟩⟩
  obtain ⟨a2, len2, cap2, rfl⟩ := okWide_slice Tryd.underlying22 (hval 2 22 v2 rfl rfl)
  have k2 := h2
  have lt2 : ∀ x ∈ p2, x.block < W.heap.size := by obtain ⟨m, hm⟩ := k2; exact DataW.trod_lt m _ _ _ hm
  obtain ⟨z2, w2⟩ : ∃ zs, IsRow .u8 W a2 len2 cap2 zs := by
    obtain ⟨fuel, hf⟩ := h2
    rcases open_ints Tryd.underlying22 Tryd.underlying5 (by kernel_rfl) hf with ⟨hcs, _⟩ | ⟨x, l, c, zs, hcs, _, hl, hm, hz, _, hcell, hwz⟩
    · simp [Value.cells] at hcs
      obtain ⟨rfl, rfl, rfl⟩ := hcs
      exact ⟨[], .inl ⟨rfl, rfl, rfl, rfl⟩⟩
    · simp [Value.cells] at hcs
      obtain ⟨rfl, rfl, rfl⟩ := hcs
      exact ⟨zs, .inr ⟨_, rfl, hl, hm, by simpa using hz, hcell, hwz⟩⟩
  clear hA0 hval0
  have hT := tab_cell hL
  have hz : 0 < W.heap.size := block_lt_of_cell (a := ⟨0, 0, none⟩) (hT 0 (by decide))
  refine (walk a0 len0 cap0 z0 a1 len1 cap1 z1 a2 len2 cap2 z2 W w0 w1 w2 hT hz).mono fun e W' ⟨he, bel⟩ => ?_
  subst he
  exact ⟨_, rfl, _, _, _, [], _, _, hW', trodAll_mk1 (shut_bool Tryd.underlying4 _), (trodAll_cons_mk (Below.trod laidOut (by kernel_rfl) (of_decide_eq_true (by kernel_rfl)) k0 bel lt0) (trodAll_cons_mk (Below.trod laidOut (by kernel_rfl) (of_decide_eq_true (by kernel_rfl)) k1 bel lt1) (trodAll_cons_mk (Below.trod laidOut (by kernel_rfl) (of_decide_eq_true (by kernel_rfl)) k2 bel lt2) trodAll_mk0))), Below.trodVars laidOut bel (by kernel_rfl) hV2, bel.frame _, fun h => by cases h⟩

theorem over : Rows.FnExactVerifySigSaid :=
  OpenClaim.holds_of_wide 3 Tryd.f3 rfl rfl rfl rfl rfl rfl rfl ⟨rfl, rfl, rfl, rfl, rfl⟩ rfl rfl rfl rfl rfl (by kernel_rfl) Tryd.func3 (by kernel_rfl)
    (of_decide_eq_true (by kernel_rfl)) (by unfold Func.isWrapper; first | (rw [if_pos (by decide +kernel)]; kernel_rfl) | (rw [if_neg (by decide +kernel)]; exact ⟨rfl, rfl⟩))
    (fun os started H enc _ => lifted os started H enc)
end Go.Proofs.YtclmhdhblghfnaaDoor.lvf
namespace Go.Proofs.YtclmhdhblghfnaaDoor
theorem verifySig_holds : Rows.FnExactVerifySigCardSaid :=
  Claim7.holds_tied_plain_at .later [] [.data] true (true, "4acdc98fcb64bc04a5d20c7ab9c9c017d531782e92ca5071d3c747108274316f") false
    lvf.over (fun _ h => by cases h) (by kernel_rfl) (fun _ h => by cases h) fnExactVerifySig_row_tie rfl ⟨rfl, rfl⟩ (by kernel_rfl) rfl
    (fun f fn hf hfn => by
      obtain rfl : f = 3 := Option.some.inj ((show Tryd.prog.funcNamed "loop.example/s02127/laws.FnExactVerifySig" = some 3 by kernel_rfl).symm.trans hf) |>.symm
      obtain rfl : fn = Tryd.f3 := (Option.some.inj (Tryd.func3.symm.trans hfn)).symm
      exact ⟨by kernel_rfl, fun j t ht => by
        rw [Tryd.params3] at ht
        have hm : t ∈ [22] := by simpa using Array.mem_of_getElem? ht
        have hall : ([22].all fun u => !Tryd.prog.wantsStandIn u) = true := by kernel_rfl
        exact (show Tryd.prog.wantsStandIn t = false by simpa using List.all_eq_true.1 hall t hm)⟩)
    (by kernel_rfl)
#print axioms verifySig_holds
end Go.Proofs.YtclmhdhblghfnaaDoor
