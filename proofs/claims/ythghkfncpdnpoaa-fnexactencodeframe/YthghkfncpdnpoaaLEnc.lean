/-
  Own work: the law on EncodeFrame.
-/
import Derived.Test.YthghkfncpdnpoaaIEnc
import Derived.Test.YthghkfncpdnpoaaMark
import Derived.Test.YthghkfncpdnpoaaBytes
import Derived.Lib.SmallJoins
namespace Go.Proofs.Ythghkfncpdnpoaa.lenc
open Go.ChangeShapes Go.WideShapes Go.ChangeAt Go.RowKit Go.Joins
set_option linter.unusedVariables false

theorem own : ownKnob Try.prog.godebug = none := by kernel_rfl
theorem laidOut : laidOutB Try.prog = true := by kernel_rfl

set_option maxHeartbeats 400000 in
theorem toF_any (s k a b : Int) (w : World) :
    Calls Try.prog 22 #[.agg #[.int .u32 s, .int .i64 k, .int .u32 a, .int .u32 b]] w fun e w' => e = .returned (.agg #[.int .u32 s, .int .i64 k, .int .u32 a, .int .u32 b]) ∧ Below w.heap.size w w' := by
  go_enter Try.func22, Try.ntmps22
  go_wp2
  refine bodyPost_ret (v := .agg #[.int .u32 s, .int .i64 k, .int .u32 a, .int .u32 b]) (by simp [results, Try.results22, go_sem]) rfl ⟨rfl, ?_⟩
  exact (((Below.refl _ _).alloc (Nat.le_refl _) _).alloc (by simp) _).alloc (by simp; omega) _

def encZ (s k a b : Int) : List Int := if 1 ≤ k ∧ k ≤ 3 then encS s k a b else []
theorem encZ_len (s k a b : Int) : (encZ s k a b).length ≤ 64 := by
  unfold encZ; split
  · simp [encS, parts3, headS_len, four]
  · simp
/-- A slice of the answer's own, from block B on. -/
def Res (B : Nat) (w : World) (v : Value) (zs : List Int) : Prop :=
  ∃ a c, v = .slice a zs.length c ∧ At .u8 w a zs ∧ Open w a zs.length ∧ ∀ ad, a = some ad → B ≤ ad.block

theorem row_open {w : World} {g : Nat} {t : TypeId} {zs : List Int} (h : Row w g t zs) : Open w (some ⟨g, 0, none⟩) zs.length :=
  .inr ⟨g, 0, rfl, h.lt, fun i hi => by rw [Nat.zero_add]; exact ⟨by rw [h.cell i hi]; rfl, h.frozen i⟩⟩

theorem ienc_any (s k a b : Int) (w : World) (us : U32 s) (ua : U32 a) (ub : U32 b) :
    Calls Try.prog 23 #[.agg #[.int .u32 s, .int .i64 k, .int .u32 a, .int .u32 b]] w fun e w' => ∃ v, e = .returned v ∧ Res w.heap.size w' v (encZ s k a b) ∧ Below w.heap.size w w' := by
  by_cases hk : 1 ≤ k ∧ k ≤ 3
  · refine (ienc_yes s k a b w us ua ub hk).mono ?_
    rintro e w' ⟨g, rfl, hg, hr, hb⟩
    rw [enc_eq s k a b us ua ub] at hr
    have e : encZ s k a b = encS s k a b := by unfold encZ; rw [if_pos hk]
    have hl : (encS s k a b).length = 64 := by rw [← enc_eq s k a b us ua ub]; exact encI_len _ _ _ _
    rw [e]
    exact ⟨_, rfl, ⟨_, 64, by rw [hl], hr.at_, row_open hr, fun ad h => by cases h; exact hg⟩, hb⟩
  · refine (ienc_no s k a b w hk).mono ?_
    rintro e w' ⟨rfl, hb⟩
    have e : encZ s k a b = [] := by unfold encZ; rw [if_neg hk]
    rw [e]
    exact ⟨_, rfl, ⟨none, 0, rfl, .inl rfl, .inl rfl, fun ad h => by cases h⟩, hb⟩

theorem senc_any (s k a b : Int) (w : World) (us : U32 s) (ua : U32 a) (ub : U32 b) :
    Calls Try.prog 21 #[.agg #[.int .u32 s, .int .i64 k, .int .u32 a, .int .u32 b]] w fun e w' => ∃ v, e = .returned v ∧ Part w' v (encZ s k a b) ∧ Below w.heap.size w w' := by
  by_cases hk : 1 ≤ k ∧ k ≤ 3
  · have e : encZ s k a b = encS s k a b := by unfold encZ; rw [if_pos hk]
    rw [e]; exact senc_yes s k a b w us ua ub hk.1 hk.2
  · have e : encZ s k a b = [] := by unfold encZ; rw [if_neg hk]
    rw [e]; exact senc_no s k a b w (by omega)

theorem part_at {w : World} {v : Value} {zs : List Int} (h : Part w v zs) : ∃ b o c, v = .slice (some ⟨b, o, none⟩) zs.length c ∧ b < w.heap.size ∧ At .u8 w (some ⟨b, o, none⟩) zs := by
  obtain ⟨b, o, c, rfl, hl, hc⟩ := h
  exact ⟨b, o, c, rfl, hl, .inr ⟨b, o, rfl, hl, hc⟩⟩
theorem below_drewN {B : Nat} {a w : World} (h : Below B a w) (n : Nat) : Below B a (w.drewN n) := ⟨h.os, h.tape, h.output, h.size, h.block⟩
theorem At.wrO {k : IntKind} {w w' : World} {a : Option Addr} {zs : List Int} {b o : Nat} (h : At k w (some ⟨b, o, none⟩) zs) (hw : WrO a w w') (hne : ∀ ad, a = some ad → b ≠ ad.block) : At k w' (some ⟨b, o, none⟩) zs := by
  rcases h with h | ⟨b', off, h1, hl, hc⟩
  · exact .inl h
  · cases h1
    exact .inr ⟨b, o, rfl, by rw [hw.size]; exact hl, fun i hi => by rw [World.cell?_of_block (a := ⟨b, o + i, none⟩) (w := w) (hw.block b hne)]; exact hc i hi⟩

set_option maxHeartbeats 1000000 in
theorem walk (s k a b : Int) (w : World) (us : U32 s) (ua : U32 a) (ub : U32 b) :
    Calls Try.prog 7 #[.agg #[.int .u32 s, .int .i64 k, .int .u32 a, .int .u32 b]] w fun e w' => e = .returned (.bool true) ∧ Below w.heap.size w w' := by
  obtain ⟨b0, b1, b2, b3⟩ := box4 w (.int .u32 s) (.int .i64 k) (.int .u32 a) (.int .u32 b) 34
  have hb0 := below_new w (.cells #[.int .u32 s, .int .i64 k, .int .u32 a, .int .u32 b] 34)
  have hz0 : (w.alloc (.cells #[.int .u32 s, .int .i64 k, .int .u32 a, .int .u32 b] 34)).heap.size = w.heap.size + 1 := by simp
  have hlen := encZ_len s k a b
  go_enter Try.func7, Try.ntmps7
  go_wp2_with fail
  generalize w.alloc (.cells #[.int .u32 s, .int .i64 k, .int .u32 a, .int .u32 b] 34) = w0 at *
  refine (toF_any s k a b _).mono ?_
  rintro e w1 ⟨rfl, hb1⟩
  go_wp2_with fail
  refine (senc_any s k a b _ us ua ub).mono ?_
  rintro e w2 ⟨v, rfl, hp, hb2⟩
  have hB2 : Below w0.heap.size w0 w2 := hb1.trans (hb2.mono hb1.size)
  obtain ⟨bs, os, cs, rfl, hbs, A2⟩ := part_at hp
  clear hp hb1 hb2
  generalize hzs : encZ s k a b = zs at *
  have HZ : Hid (encZ s k a b = zs) := hzs
  clear hzs
  have d0 : w2.cell? ⟨w.heap.size, 0, none⟩ = some (.int .u32 s) := by rw [hB2.cell (p := ⟨w.heap.size, 0, none⟩) (by simp; omega)]; exact b0
  have d1 : w2.cell? ⟨w.heap.size, 1, none⟩ = some (.int .i64 k) := by rw [hB2.cell (p := ⟨w.heap.size, 1, none⟩) (by simp; omega)]; exact b1
  have d2 : w2.cell? ⟨w.heap.size, 2, none⟩ = some (.int .u32 a) := by rw [hB2.cell (p := ⟨w.heap.size, 2, none⟩) (by simp; omega)]; exact b2
  have d3 : w2.cell? ⟨w.heap.size, 3, none⟩ = some (.int .u32 b) := by rw [hB2.cell (p := ⟨w.heap.size, 3, none⟩) (by simp; omega)]; exact b3
  go_wp2_with fail
  refine (toF_any s k a b _).mono ?_
  rintro e w3 ⟨rfl, hb3⟩
  go_wp2_with fail
  refine (ienc_any s k a b _ us ua ub).mono ?_
  rintro e w4 ⟨v, rfl, hr, hb4⟩
  rw [HZ.out] at hr
  obtain ⟨ag, cg, rfl, A4, O4, L4⟩ := hr
  have hB4 : Below w2.heap.size w2 w4 := hb3.trans (hb4.mono hb3.size)
  have A24 := A2.below hB4
  have h3sz := hb3.size
  clear hb3 hb4 A2
  clear d0 d1 d2 d3
  go_wp2_with fail
  refine (eqB_any _ _ zs.length _ _ zs _ rfl (by omega) A4 A24).mono ?_
  rintro e w5 ⟨rfl, q5, rfl⟩
  have A5 : At .u8 (w4.drewN q5) (some ⟨bs, os, none⟩) zs := A24
  have O5 : Open (w4.drewN q5) ag zs.length := O4
  have hB5 : Below w2.heap.size w2 (w4.drewN q5) := below_drewN hB4 _
  clear A24 O4 hB4 A4
  generalize w4.drewN q5 = w5 at *
  go_wp2_with fail
  refine (markB_any ag zs.length cg 1 _ O5 (by decide) (by omega)).mono ?_
  rintro e w6 ⟨rfl, A6, hw6⟩
  have L6 : ∀ ad, ag = some ad → bs ≠ ad.block := fun ad h => by have := L4 ad h; omega
  have A56 := At.wrO A5 hw6 L6
  have hB6 : Below w2.heap.size w2 w6 := hB5.trans (hw6.below _ (fun ad h => by have := L4 ad h; omega))
  clear O5 hw6 A5 hB5 L6
  have HL4 : Hid _ := L4
  clear L4
  go_wp2_with fail
  refine (heldB_any ag zs.length cg 1 _ A6 (by decide) (by omega)).mono ?_
  rintro e w7 ⟨rfl, rfl⟩
  clear A6
  have t1 : ¬ (1 + (zs.length : Int)) < 0 := by omega
  have t2 : ((1 + (zs.length : Int)) != 1 + (zs.length : Int)) = false := by simp
  have hB7 : Below w0.heap.size w0 w7 := hB2.trans (hB6.mono hB2.size)
  have d0 : w7.cell? ⟨w.heap.size, 0, none⟩ = some (.int .u32 s) := by rw [hB7.cell (p := ⟨w.heap.size, 0, none⟩) (by simp; omega)]; exact b0
  have d1 : w7.cell? ⟨w.heap.size, 1, none⟩ = some (.int .i64 k) := by rw [hB7.cell (p := ⟨w.heap.size, 1, none⟩) (by simp; omega)]; exact b1
  have d2 : w7.cell? ⟨w.heap.size, 2, none⟩ = some (.int .u32 a) := by rw [hB7.cell (p := ⟨w.heap.size, 2, none⟩) (by simp; omega)]; exact b2
  have d3 : w7.cell? ⟨w.heap.size, 3, none⟩ = some (.int .u32 b) := by rw [hB7.cell (p := ⟨w.heap.size, 3, none⟩) (by simp; omega)]; exact b3
  clear hB6 hB2
  go_wp2_with fail
  refine (toF_any s k a b _).mono ?_
  rintro e w8 ⟨rfl, hb8⟩
  clear d0 d1 d2 d3
  go_wp2_with fail
  refine (ienc_any s k a b _ us ua ub).mono ?_
  rintro e w9 ⟨v, rfl, hr, hb9⟩
  rw [HZ.out] at hr
  obtain ⟨ah, ch, rfl, A9, O9, L9⟩ := hr
  have hB9 : Below w7.heap.size w7 w9 := hb8.trans (hb9.mono hb8.size)
  have A59 := A56.below hB9
  have HB : Hid (Below w.heap.size w w9) := hb0.trans ((hB7.trans (hB9.mono hB7.size)).mono (by omega))
  clear hb8 hb9 A56 O9 L9 hB9 hB7
  go_wp2_with fail
  refine (eqB_any _ _ zs.length _ _ zs _ rfl (by omega) A9 A59).mono ?_
  rintro e w10 ⟨rfl, q10, rfl⟩
  have HB2 : Hid (Below w.heap.size w (w9.drewN q10)) := below_drewN HB.out _
  clear A9 A59 HB b0 b1 b2 b3 hb0
  generalize w9.drewN q10 = w10 at *
  go_wp2
  go_ret
  exact ⟨rfl, HB2.out⟩

theorem u32_of_wf {x : Int} (h : (Lit.int .u32 x).wf = true) : U32 x := by
  simp [Lit.wf, IntKind.min, IntKind.max, IntKind.signed, IntKind.bits] at h
  exact ⟨by omega, by omega⟩

set_option maxRecDepth 100000 in
theorem lifted (os : Os) (started : os.Started) (H : Type) (enc : TypeId × Value → H) :
    ReturnsInHanded {} Try.checked os 7 .any (Rows.fnExactEncodeFrameSpec.pre6 enc Try.prog Try.f7 Rows.fnExactEncodeFrameRow.domain false) (Rows.fnExactEncodeFrameSpec.post enc Try.prog Try.f7 false true false false) := by
  refine returnsInHanded_of_change (C := Try.checked) own started (by kernel_rfl) Try.func7
    (ChangeSpec.witness6 (enc := enc) (C := Try.checked) false ⟨#[], #[.agg #[.int .u32 0, .int .i64 0, .int .u32 0, .int .u32 0]], []⟩ 8 (by kernel_rfl) (by kernel_rfl) (by kernel_rfl) (by kernel_rfl)) ?_
  intro W base args ds gs before hval0 hW hcnd _
  have hval : ∀ (j : Nat) t v, Try.f7.params[j]? = some t → args[j]? = some v → Value.okWide Try.prog W .any base t v := hval0
  have hW' := hW
  obtain ⟨p, q, hA0, hV, rfl, hfz, hnd⟩ := hW
  have hA : DataW.TrodAll enc Try.prog W 0 (fun _ => true) true Try.f7.params.toList args.toList ds p := hA0
  rw [Try.params7] at hA hval
  obtain ⟨v0, vs0, d0, ds0, p0, q0, hargs, rfl, rfl, h0, r0⟩ := trodAll_cons hA
  obtain ⟨rfl, rfl, rfl⟩ := trodAll_nil r0
  obtain rfl : args = #[v0] := by cases args; simp_all
  obtain ⟨rfl, rfl⟩ := trodVars_none hV
  have k0 := h0
  have lt0 : ∀ x ∈ p0, x.block < W.heap.size := by obtain ⟨m, hm⟩ := k0; exact DataW.trod_lt m _ _ _ hm
  obtain ⟨c0, c1, c2, c3, y0, y1, y2, y3, m, rfl, _, _, g0, g1, g2, g3⟩ := open_agg4 Try.underlying34 (by kernel_rfl) (by kernel_rfl : Try.prog.cellsOf 34 = 4) (hval 0 34 v0 rfl rfl) h0
  obtain ⟨s, e0, _, ws⟩ := DataW.trod_int Try.underlying23 g0
  obtain ⟨k, e1, _, wk⟩ := DataW.trod_int Try.underlying2 g1
  obtain ⟨a, e2, _, wa⟩ := DataW.trod_int Try.underlying23 g2
  obtain ⟨b, e3, _, wb⟩ := DataW.trod_int Try.underlying23 g3
  simp at e0 e1 e2 e3
  subst e0 e1 e2 e3
  clear hA0 hval0
  refine (walk s k a b W (u32_of_wf ws) (u32_of_wf wa) (u32_of_wf wb)).mono fun e W' ⟨he, bel⟩ => ?_
  subst he
  exact ⟨_, rfl, _, _, _, [], _, [], hW', trodAll_mk1 (shut_bool Try.underlying4 _), (trodAll_cons_mk (Below.trod laidOut (by kernel_rfl) (of_decide_eq_true (by kernel_rfl)) k0 bel lt0) trodAll_mk0), rfl, bel.frame _, fun h => by cases h⟩

theorem over : Rows.fnExactEncodeFrameRow.holds Try.pinned (OpenSpec.ofChange Rows.fnExactEncodeFrameSpec) :=
  OpenClaim.holds_of_wide 7 Try.f7 rfl rfl rfl rfl rfl rfl rfl ⟨rfl, rfl, rfl, rfl, rfl⟩ rfl rfl rfl rfl rfl (by kernel_rfl) Try.func7 (by kernel_rfl)
    (of_decide_eq_true (by kernel_rfl)) (by unfold Func.isWrapper; first | (rw [if_pos (by decide +kernel)]; kernel_rfl) | (rw [if_neg (by decide +kernel)]; exact ⟨rfl, rfl⟩))
    (fun os started H enc _ => lifted os started H enc)
end Go.Proofs.Ythghkfncpdnpoaa.lenc
namespace Go.Proofs.Ythghkfncpdnpoaa
theorem encodeFrame_holds : Rows.FnExactEncodeFrameSaid := lenc.over
#print axioms encodeFrame_holds
end Go.Proofs.Ythghkfncpdnpoaa
