/-
  Own work round the shell that the kit's program writes.
-/
import Derived.Test.YthghkfncpdnpoaaIText
import Derived.Test.YthghkfncpdnpoaaResB
import Derived.WalkKit
import Derived.ProofKit
import Derived.OpenShut
import Derived.ShutString
import Derived.ChangeOld
import Derived.Below
namespace Go.Proofs.Ythghkfncpdnpoaa.fnExactReduceScalar
open Go.ChangeShapes Go.WideShapes Go.ChangeAt Go.RowKit
open Go.ChangeMaps (open_string shut_string)
set_option linter.unusedVariables false

theorem own : ownKnob Try.prog.godebug = none := by kernel_rfl
theorem laidOut : laidOutB Try.prog = true := by kernel_rfl

def IsRow (k : IntKind) (w : World) (a : Option Addr) (len cap : Nat) (zs : List Int) : Prop :=
  (a = none ∧ len = 0 ∧ cap = 0 ∧ zs = []) ∨
  ∃ x, a = some x ∧ len ≤ cap ∧ cap ≤ maxLen ∧ zs.length = cap ∧ (∀ i, i < zs.length → w.cell? (x.add i) = some (.int k (zs.getD i 0))) ∧ ∀ n ∈ zs, (Lit.int k n).wf = true

theorem IsRow.at_ {w : World} {a : Option Addr} {len cap : Nat} {z : List Int} (h : IsRow .u8 w a len cap z) : ∃ zs, zs.length = len ∧ Byte zs ∧ At .u8 w a zs := by
  rcases h with ⟨rfl, rfl, rfl, rfl⟩ | ⟨x, rfl, hl, hm, hz, hc, hw⟩
  · exact ⟨[], rfl, by simp [Byte], .inl rfl⟩
  · refine ⟨z.take len, by simp; omega, fun n hn => ?_, ?_⟩
    · have := hw n (List.mem_of_mem_take hn)
      simp [Lit.wf, IntKind.min, IntKind.max, IntKind.signed, IntKind.bits] at this
      omega
    · by_cases h0 : len = 0
      · left; simp [h0]
      · right
        obtain ⟨b, off, spot⟩ := x
        have hc0 := hc 0 (by omega)
        have hs : spot = none := by simpa [Addr.add] using World.cell?_spot hc0
        subst hs
        refine ⟨b, off, rfl, block_lt_of_cell (a := (⟨b, off, none⟩ : Addr).add 0) hc0, fun i hi => ?_⟩
        have hi' : i < len := by simp at hi; omega
        have := hc i (by omega)
        rw [Addr.add_lit] at this
        rw [this]
        simp [List.getD, hi']

theorem below_drewN {B : Nat} {a w : World} (h : Below B a w) (n : Nat) : Below B a (w.drewN n) := ⟨h.os, h.tape, h.output, h.size, h.block⟩

open Classical in
/-- The answer's bytes. -/
noncomputable def redZ (n : Nat) (zs : List Int) : List Int := if h : ∃ rs : List Int, n ≤ 64 ∧ Byte rs ∧ rs.length = 32 ∧ val 256 rs = val 256 zs % bigL then h.choose else []
theorem redZ_eq {n : Nat} {zs rs : List Int} (hn : n ≤ 64) (hb : Byte rs) (hl : rs.length = 32) (hv : val 256 rs = val 256 zs % bigL) : redZ n zs = rs := by
  have hex : ∃ rs : List Int, n ≤ 64 ∧ Byte rs ∧ rs.length = 32 ∧ val 256 rs = val 256 zs % bigL := ⟨rs, hn, hb, hl, hv⟩
  unfold redZ
  rw [dif_pos hex]
  obtain ⟨h0, h1, h2, h3⟩ := hex.choose_spec
  exact val_inj (B := 256) (by decide) h1 hb (by omega) (by rw [h3, hv])
theorem redZ_no {n : Nat} {zs : List Int} (hn : 64 < n) : redZ n zs = [] := by
  unfold redZ; rw [dif_neg]; rintro ⟨rs, h, _⟩; omega
theorem redZ_len (n : Nat) (zs : List Int) : (redZ n zs).length ≤ 32 := by
  unfold redZ; split
  · next h => exact Nat.le_of_eq h.choose_spec.2.2.1
  · simp

theorem sr_any (a : Option Addr) (n cap : Nat) (zs : List Int) (w : World) (hn : zs.length = n) (ha : At .u8 w a zs) (hz : Byte zs) :
    Calls Try.prog 17 #[.slice a n cap] w fun e w' => ∃ b o c, e = .returned (.slice (some ⟨b, o, none⟩) (redZ n zs).length c) ∧ b < w'.heap.size ∧ At .u8 w' (some ⟨b, o, none⟩) (redZ n zs) ∧ Below w.heap.size w w' := by
  by_cases hm : n ≤ 64
  · refine (sred_any a n cap zs w hn hm ha hz).mono ?_
    rintro e w' ⟨v, rs, rfl, O, hb, hl, hv, B⟩
    rw [redZ_eq hm hb hl hv]
    obtain ⟨g, c, rfl, hB, hg, hA⟩ := O.at_
    exact ⟨g, 0, c, rfl, hg, hA, B⟩
  · refine (sred_no a n cap w (by omega)).mono ?_
    rintro e w' ⟨v, rfl, O, B⟩
    rw [redZ_no (by omega)]
    obtain ⟨g, c, rfl, hB, hg, hA⟩ := O.at_
    exact ⟨g, 0, c, rfl, hg, hA, B⟩
theorem ir_any (a : Option Addr) (n cap : Nat) (zs : List Int) (w : World) (hn : zs.length = n) (ha : At .u8 w a zs) (hz : Byte zs) :
    Calls Try.prog 18 #[.slice a n cap] w fun e w' => ∃ v, e = .returned v ∧ ResO w.heap.size w' v (redZ n zs) ∧ Below w.heap.size w w' := by
  by_cases hm : n ≤ 64
  · refine (ired_any a n cap zs w hn hm ha hz).mono ?_
    rintro e w' ⟨v, rs, rfl, O, hb, hl, hv, B⟩
    rw [redZ_eq hm hb hl hv]
    exact ⟨v, rfl, own_res O, B⟩
  · refine (ired_no a n cap w (by omega)).mono ?_
    rintro e w' ⟨rfl, rfl⟩
    rw [redZ_no (by omega)]
    exact ⟨_, rfl, ⟨none, 0, rfl, .inl rfl, .inl rfl, fun ad h => by cases h⟩, Below.refl _ _⟩

set_option maxHeartbeats 1000000 in
theorem walk (a0 : Option Addr) (len0 cap0 : Nat) (z0 : List Int) (w : World) (w0 : IsRow .u8 w a0 len0 cap0 z0) :
    Calls Try.prog 6 #[.slice a0 len0 cap0] w fun e w' => e = .returned (.bool true) ∧ Below w.heap.size w w' := by
  by_cases hl : (1048576 : Int) < (len0 : Int)
  · go_enter Try.func6, Try.ntmps6
    go_wp2
    go_ret
    exact ⟨rfl, Below.refl _ _⟩
  · obtain ⟨zs, hn, hz, ha⟩ := IsRow.at_ w0
    have hl' : len0 ≤ 1048576 := by omega
    clear w0
    go_enter Try.func6, Try.ntmps6
    go_wp2_with fail
    refine (toB_any a0 len0 cap0 zs _ hn hl' ha).mono ?_
    rintro e w1 ⟨rfl, ho1, hb1⟩
    have A1 : At .u8 w1 (some ⟨w.heap.size, 0, none⟩) zs := by obtain ⟨a, cap, h, _, _, _, h'⟩ := At.of_owns ho1; cases h; exact h'
    have ha1 := ha.below hb1
    clear ho1
    go_wp2_with fail
    refine (sr_any _ len0 len0 zs _ hn A1 hz).mono ?_
    rintro e w2 ⟨bs, os, cs, rfl, hbs, S2, hb2⟩
    have ha2 := ha1.below hb2
    have hB2 : Below w.heap.size w w2 := hb1.trans (hb2.mono hb1.size)
    have s12 : w.heap.size ≤ w2.heap.size := hB2.size
    have hrl := redZ_len len0 zs
    have HA : Hid (At .u8 w a0 zs) := ha
    clear A1 ha1 hb1 hb2 ha
    go_wp2_with fail
    refine (toB_any a0 len0 cap0 zs _ hn hl' ha2).mono ?_
    rintro e w3 ⟨rfl, ho3, hb3⟩
    have A3 : At .u8 w3 (some ⟨w2.heap.size, 0, none⟩) zs := by obtain ⟨a, cap, h, _, _, _, h'⟩ := At.of_owns ho3; cases h; exact h'
    have O3 : Open w3 (some ⟨w2.heap.size, 0, none⟩) len0 := by
      rcases Nat.eq_zero_or_pos len0 with h0 | h0
      · exact .inl h0
      · refine .inr ⟨w2.heap.size, 0, rfl, ?_, fun i hi => ?_⟩
        · obtain ⟨b, o, h, hb, _⟩ := A3.get (by omega); cases h; exact hb
        · rw [Nat.zero_add, ho3.cellAt i (by omega)]; exact ⟨by simp [show i < zs.length by omega], ho3.frozenAt i⟩
    have ha3 := ha2.below hb3
    have S3 := S2.below hb3
    have hB3 : Below w.heap.size w w3 := hB2.trans (hb3.mono hB2.size)
    have s3 : w2.heap.size < w3.heap.size := by
      rcases ho3.2 with ⟨h', _⟩ | ⟨g', c', cur, h', hb, hh, _⟩
      · cases h'
      · cases h'; exact (Array.getElem?_eq_some_iff.1 hh).1
    clear ho3 hb3 hB2 ha2 S2
    go_wp2_with fail
    refine (ir_any _ len0 len0 zs _ hn A3 hz).mono ?_
    rintro e w4 ⟨v, rfl, hr, hb4⟩
    obtain ⟨ag, cg, rfl, A4, O4, L4⟩ := hr
    generalize hzs : redZ len0 zs = rs at *
    have HZ : Hid (redZ len0 zs = rs) := hzs
    clear hzs
    have S4 := S3.below hb4
    have A34 := A3.below hb4
    have O34 : Open w4 (some ⟨w2.heap.size, 0, none⟩) len0 := O3.below2 hb4
    have hB4 : Below w.heap.size w w4 := hB3.trans (hb4.mono hB3.size)
    have ha4 := HA.out.below hB4
    have s4 := hb4.size
    clear S3 A3 O3 hB3 ha3 hb4
    go_wp2_with fail
    refine (eqB_any _ _ rs.length _ _ rs _ rfl (by omega) A4 S4).mono ?_
    rintro e w5 ⟨rfl, q5, rfl⟩
    have A5 : At .u8 (w4.drewN q5) ag rs := A4
    have S5 : At .u8 (w4.drewN q5) (some ⟨bs, os, none⟩) rs := S4
    have O5 : Open (w4.drewN q5) ag rs.length := O4
    have X5 : At .u8 (w4.drewN q5) (some ⟨w2.heap.size, 0, none⟩) zs := A34
    have OX5 : Open (w4.drewN q5) (some ⟨w2.heap.size, 0, none⟩) len0 := O34
    have hB5 : Below w.heap.size w (w4.drewN q5) := below_drewN hB4 _
    have ha5 : At .u8 (w4.drewN q5) a0 zs := ha4
    have s5 : w3.heap.size ≤ (w4.drewN q5).heap.size := s4
    clear A4 S4 O4 A34 O34 hB4 ha4 s4
    generalize w4.drewN q5 = w5 at *
    go_wp2_with fail
    refine (toB_any a0 len0 cap0 zs _ hn hl' ha5).mono ?_
    rintro e w6 ⟨rfl, ho6, hb6⟩
    have Y6 : At .u8 w6 (some ⟨w5.heap.size, 0, none⟩) zs := by obtain ⟨a, cap, h, _, _, _, h'⟩ := At.of_owns ho6; cases h; exact h'
    have A6 := A5.below hb6
    have S6 := S5.below hb6
    have O6 := O5.below2 hb6
    have X6 := X5.below hb6
    have OX6 := OX5.below2 hb6
    have hB6 : Below w.heap.size w w6 := hB5.trans (hb6.mono hB5.size)
    have s6 := hb6.size
    clear A5 S5 O5 X5 OX5 hB5 ha5 ho6 hb6
    go_wp2_with fail
    refine (eqB_any _ _ len0 len0 len0 zs _ hn hl' X6 Y6).mono ?_
    rintro e w7 ⟨rfl, q7, rfl⟩
    have A7 : At .u8 (w6.drewN q7) ag rs := A6
    have S7 : At .u8 (w6.drewN q7) (some ⟨bs, os, none⟩) rs := S6
    have O7 : Open (w6.drewN q7) ag rs.length := O6
    have OX7 : Open (w6.drewN q7) (some ⟨w2.heap.size, 0, none⟩) len0 := OX6
    have hB7 : Below w.heap.size w (w6.drewN q7) := below_drewN hB6 _
    clear A6 S6 O6 X6 Y6 OX6 hB6
    generalize w6.drewN q7 = w7 at *
    have HL4 : Hid (∀ ad, ag = some ad → w3.heap.size ≤ ad.block) := L4
    have s2 := hB7.size
    clear L4
    go_wp2_with fail
    refine (markB_any _ len0 len0 1 _ OX7 (by decide) (by omega)).mono ?_
    rintro e w8 ⟨rfl, _, hw8⟩
    have A8 : At .u8 w8 ag rs := by
      rcases A7 with h | ⟨b', off, rfl, hlt, hc⟩
      · exact .inl h
      · have := HL4.out _ rfl
        exact At.wrB (.inr ⟨b', off, rfl, hlt, hc⟩) hw8 (fun ad e => by cases e; simp only at *; omega)
    have S8 := At.wrB S7 hw8 (fun ad e => by cases e; simp only; omega)
    have O8 : Open w8 ag rs.length := O7.wrB hw8 (fun ad e ad' e' => by cases e'; have := HL4.out ad e; simp only at *; omega)
    have hB8 : Below w.heap.size w w8 := hB7.trans (hw8.below _ (fun ad e => by cases e; simp only; omega))
    clear A7 S7 O7 OX7 hB7 hw8
    have t0 : decide (1 + (len0 : Int) < 0) = false := by simp; omega
    have t0' : ¬ (1 + (len0 : Int) < 0) := by omega
    have s8 := hB8.size
    go_wp2_with fail
    refine (eqB_any _ _ rs.length _ _ rs _ rfl (by omega) A8 S8).mono ?_
    rintro e w9 ⟨rfl, q9, rfl⟩
    have A9 : At .u8 (w8.drewN q9) ag rs := A8
    have S9 : At .u8 (w8.drewN q9) (some ⟨bs, os, none⟩) rs := S8
    have O9 : Open (w8.drewN q9) ag rs.length := O8
    have hB9 : Below w.heap.size w (w8.drewN q9) := below_drewN hB8 _
    clear A8 S8 O8 hB8
    generalize w8.drewN q9 = w9 at *
    go_wp2_with fail
    refine (markB_any ag rs.length cg 1 _ O9 (by decide) (by omega)).mono ?_
    rintro e w10 ⟨rfl, M10, hw10⟩
    have S10 := At.wrB S9 hw10 (fun ad e => by have := HL4.out ad e; omega)
    have hB10 : Below w.heap.size w w10 := hB9.trans (hw10.below _ (fun ad e => by have := HL4.out ad e; omega))
    clear A9 S9 O9 hB9 hw10
    go_wp2_with fail
    refine (heldB_any ag rs.length cg 1 _ M10 (by decide) (by omega)).mono ?_
    rintro e w11 ⟨rfl, rfl⟩
    have t1 : ¬ (1 + (rs.length : Int)) < 0 := by omega
    have t2 : ((1 + (rs.length : Int)) != 1 + (rs.length : Int)) = false := by simp
    have ha11 := HA.out.below hB10
    clear M10
    go_wp2_with fail
    refine (toB_any a0 len0 cap0 zs _ hn hl' ha11).mono ?_
    rintro e w12 ⟨rfl, ho12, hb12⟩
    have A12 : At .u8 w12 (some ⟨w11.heap.size, 0, none⟩) zs := by obtain ⟨a, cap, h, _, _, _, h'⟩ := At.of_owns ho12; cases h; exact h'
    have S12 := S10.below hb12
    have hB12 : Below w.heap.size w w12 := hB10.trans (hb12.mono hB10.size)
    clear ho12 hb12 S10 hB10 ha11
    go_wp2_with fail
    refine (ir_any _ len0 len0 zs _ hn A12 hz).mono ?_
    rintro e w13 ⟨v, rfl, hr, hb13⟩
    rw [HZ.out] at hr
    obtain ⟨ah, ch, rfl, A13, O13, L13⟩ := hr
    have S13 := S12.below hb13
    have HB : Hid (Below w.heap.size w w13) := hB12.trans (hb13.mono hB12.size)
    clear A12 S12 hB12 hb13 O13 L13
    go_wp2_with fail
    refine (eqB_any _ _ rs.length _ _ rs _ rfl (by omega) A13 S13).mono ?_
    rintro e w14 ⟨rfl, q14, rfl⟩
    have HB2 : Hid (Below w.heap.size w (w13.drewN q14)) := below_drewN HB.out _
    clear A13 S13 HB
    generalize w13.drewN q14 = w14 at *
    go_wp2
    go_ret
    exact ⟨rfl, HB2.out⟩

set_option maxRecDepth 100000 in
theorem lifted (os : Os) (started : os.Started) (H : Type) (enc : TypeId × Value → H) :
    ReturnsInHanded {} Try.checked os 6 .any (Rows.fnExactReduceScalarSpec.pre6 enc Try.prog Try.f6 Rows.fnExactReduceScalarRow.domain false) (Rows.fnExactReduceScalarSpec.post enc Try.prog Try.f6 false true false false) := by
  refine returnsInHanded_of_change (C := Try.checked) own started (by kernel_rfl) Try.func6
    (ChangeSpec.witness6 (enc := enc) (C := Try.checked) false ⟨#[], #[.slice none 0 0], []⟩ 8 (by kernel_rfl) (by kernel_rfl) (by kernel_rfl) (by kernel_rfl)) ?_
  intro W base args ds gs before hval0 hW hcnd _
  have hval : ∀ (j : Nat) t v, Try.f6.params[j]? = some t → args[j]? = some v → Value.okWide Try.prog W .any base t v := hval0
  have hW' := hW
  obtain ⟨p, q, hA0, hV, rfl, hfz, hnd⟩ := hW
  have hA : DataW.TrodAll enc Try.prog W 0 (fun _ => true) true Try.f6.params.toList args.toList ds p := hA0
  rw [Try.params6] at hA hval
  obtain ⟨v0, vs0, d0, ds0, p0, q0, hargs, rfl, rfl, h0, r0⟩ := trodAll_cons hA
  obtain ⟨rfl, rfl, rfl⟩ := trodAll_nil r0
  obtain rfl : args = #[v0] := by cases args; simp_all
  obtain ⟨rfl, rfl⟩ := trodVars_none hV
  obtain ⟨a0, len0, cap0, rfl⟩ := okWide_slice Try.underlying22 (hval 0 22 v0 rfl rfl)
  have k0 := h0
  have lt0 : ∀ x ∈ p0, x.block < W.heap.size := by obtain ⟨m, hm⟩ := k0; exact DataW.trod_lt m _ _ _ hm
  obtain ⟨z0, w0⟩ : ∃ zs, IsRow .u8 W a0 len0 cap0 zs := by
    obtain ⟨fuel, hf⟩ := h0
    rcases open_ints Try.underlying22 Try.underlying5 (by kernel_rfl) hf with ⟨hcs, _⟩ | ⟨x, l, c, zs, hcs, _, hl, hm, hz, _, hcell, hwz⟩
    · simp [Value.cells] at hcs
      obtain ⟨rfl, rfl, rfl⟩ := hcs
      exact ⟨[], .inl ⟨rfl, rfl, rfl, rfl⟩⟩
    · simp [Value.cells] at hcs
      obtain ⟨rfl, rfl, rfl⟩ := hcs
      exact ⟨zs, .inr ⟨_, rfl, hl, hm, by simpa using hz, hcell, hwz⟩⟩
  clear hA0 hval0
  refine (walk a0 len0 cap0 z0 W w0).mono fun e W' ⟨he, bel⟩ => ?_
  subst he
  exact ⟨_, rfl, _, _, _, [], _, [], hW', trodAll_mk1 (shut_bool Try.underlying4 _), (trodAll_cons_mk (Below.trod laidOut (by kernel_rfl) (of_decide_eq_true (by kernel_rfl)) k0 bel lt0) trodAll_mk0), rfl, bel.frame _, fun h => by cases h⟩

theorem over : Rows.fnExactReduceScalarRow.holds Try.pinned (OpenSpec.ofChange Rows.fnExactReduceScalarSpec) :=
  OpenClaim.holds_of_wide 6 Try.f6 rfl rfl rfl rfl rfl rfl rfl ⟨rfl, rfl, rfl, rfl, rfl⟩ rfl rfl rfl rfl rfl (by kernel_rfl) Try.func6 (by kernel_rfl)
    (of_decide_eq_true (by kernel_rfl)) (by unfold Func.isWrapper; first | (rw [if_pos (by decide +kernel)]; kernel_rfl) | (rw [if_neg (by decide +kernel)]; exact ⟨rfl, rfl⟩))
    (fun os started H enc _ => lifted os started H enc)

end Go.Proofs.Ythghkfncpdnpoaa.fnExactReduceScalar
namespace Go.Proofs.Ythghkfncpdnpoaa
theorem reduceScalar_holds : Rows.FnExactReduceScalarSaid := fnExactReduceScalar.over
#print axioms reduceScalar_holds
end Go.Proofs.Ythghkfncpdnpoaa
