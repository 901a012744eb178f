/-
  Own work round the shell that the kit's program writes.
-/
import Derived.Test.YthghkfncpdnpoabDecAny
import Derived.Test.YthghkfncpdnpoabBytes
import Derived.WalkKit
import Derived.ProofKit
import Derived.OpenShut
import Derived.ShutString
import Derived.ChangeOld
import Derived.Below
namespace Go.Proofs.Ythghkfncpdnpoab.ldec
open Go.ChangeShapes Go.WideShapes Go.ChangeAt Go.RowKit
open Go.ChangeMaps (open_string shut_string)
set_option linter.unusedVariables false

theorem own : ownKnob Try.prog.godebug = none := by kernel_rfl
theorem laidOut : laidOutB Try.prog = true := by kernel_rfl

def IsRow (k : IntKind) (w : World) (a : Option Addr) (len cap : Nat) (zs : List Int) : Prop :=
  (a = none ∧ len = 0 ∧ cap = 0 ∧ zs = []) ∨
  ∃ x, a = some x ∧ len ≤ cap ∧ cap ≤ maxLen ∧ zs.length = cap ∧ (∀ i, i < zs.length → w.cell? (x.add i) = some (.int k (zs.getD i 0))) ∧ ∀ n ∈ zs, (Lit.int k n).wf = true

theorem IsRow.at_ {w : World} {a : Option Addr} {len cap : Nat} {z : List Int} (h : IsRow .u8 w a len cap z) : ∃ zs, zs.length = len ∧ Byte zs ∧ At .u8 w a zs := by
  rcases h with ⟨rfl, rfl, rfl, rfl⟩ | ⟨x, rfl, hl, hm, hz, hc, hw⟩
  · exact ⟨[], rfl, by simp [Byte], .inl rfl⟩
  · refine ⟨z.take len, by simp; omega, fun n hn => ?_, ?_⟩
    · have := hw n (List.mem_of_mem_take hn)
      simp [Lit.wf, IntKind.min, IntKind.max, IntKind.signed, IntKind.bits] at this
      omega
    · by_cases h0 : len = 0
      · left; simp [h0]
      · right
        obtain ⟨b, off, spot⟩ := x
        have hc0 := hc 0 (by omega)
        have hs : spot = none := by simpa [Addr.add] using World.cell?_spot hc0
        subst hs
        refine ⟨b, off, rfl, block_lt_of_cell (a := (⟨b, off, none⟩ : Addr).add 0) hc0, fun i hi => ?_⟩
        have hi' : i < len := by simp at hi; omega
        have := hc i (by omega)
        rw [Addr.add_lit] at this
        rw [this]
        simp [List.getD, hi']


set_option maxHeartbeats 400000 in
theorem eqFR_any (x : Bool) (s k a b : Int) (w : World) :
    Calls Try.prog 17 #[.agg #[.bool x, .int .u32 s, .int .i64 k, .int .u32 a, .int .u32 b], .agg #[.bool x, .int .u32 s, .int .i64 k, .int .u32 a, .int .u32 b]] w fun e w' => e = .returned (.bool true) ∧ Below w.heap.size w w' := by
  have e0 : (x != x) = false := by simp
  have e1 : (s != s) = false := by simp
  have e2 : (k != k) = false := by simp
  have e3 : (a != a) = false := by simp
  have e4 : (b != b) = false := by simp
  go_enter Try.func17, Try.ntmps17
  go_wp2
  go_ret
  refine ⟨rfl, ?_⟩
  exact ((((Below.refl _ _).alloc (Nat.le_refl _) _).alloc (by simp) _).alloc (by simp; omega) _).alloc (by simp; omega) _

set_option maxHeartbeats 1600000 in
theorem walk (a0 : Option Addr) (len0 cap0 : Nat) (z0 : List Int) (w : World) (w0 : IsRow .u8 w a0 len0 cap0 z0) :
    Calls Try.prog 4 #[.slice a0 len0 cap0] w fun e w' => e = .returned (.bool true) ∧ Below w.heap.size w w' := by
  by_cases hl : (1048576 : Int) < (len0 : Int)
  · go_enter Try.func4, Try.ntmps4
    go_wp2
    go_ret
    exact ⟨rfl, Below.refl _ _⟩
  · obtain ⟨zs, hn, hz, ha⟩ := IsRow.at_ w0
    have hl' : len0 ≤ 1048576 := by omega
    clear w0
    obtain ⟨x, s, k, a, b, hdec⟩ := decV_form zs
    have HDEC : Hid _ := hdec
    clear hdec
    have hsF : (Try.prog.info? 31).map (·.size) = some 5 := by kernel_rfl
    have HSF : Hid _ := hsF
    clear hsF
    go_enter Try.func4, Try.ntmps4
    go_wp2_with fail
    refine (toB_any a0 len0 cap0 zs _ hn hl' ha).mono ?_
    rintro e w1 ⟨rfl, ho1, hb1⟩
    have A1 : At .u8 w1 (some ⟨w.heap.size, 0, none⟩) zs := by obtain ⟨a, cap, h, _, _, _, h'⟩ := At.of_owns ho1; cases h; exact h'
    clear ho1
    go_wp2_with fail
    refine (sdec_any _ len0 len0 zs _ hn hl' hz A1).mono ?_
    rintro e w2 ⟨rfl, hb2⟩
    rw [HDEC.out]
    have hB2 : Below w.heap.size w w2 := hb1.trans (hb2.mono hb1.size)
    have ha2 := ha.below hB2
    clear hb1 hb2 A1
    go_wp2_with (refine wpList_store_row rfl 31 (.tmp 3) (.tmp 11) rfl w2.heap.size #[.bool x, .int .u32 s, .int .i64 k, .int .u32 a, .int .u32 b] rfl rfl 31 _ (heap_alloc_new w2 _) HSF.out rfl (all5 _ _ _ _ _) ?_)
    rw [World.setRow_alloc_new]
    have hb3 := below_new w2 (.cells #[.bool x, .int .u32 s, .int .i64 k, .int .u32 a, .int .u32 b] 31)
    have hr3 : (w2.alloc (.cells #[.bool x, .int .u32 s, .int .i64 k, .int .u32 a, .int .u32 b] 31)).heap[w2.heap.size]? = some (.cells #[.bool x, .int .u32 s, .int .i64 k, .int .u32 a, .int .u32 b] 31 (0, 0)) := heap_alloc_new w2 _
    have hz3 : (w2.alloc (.cells #[.bool x, .int .u32 s, .int .i64 k, .int .u32 a, .int .u32 b] 31)).heap.size = w2.heap.size + 1 := by simp
    generalize w2.alloc (.cells #[.bool x, .int .u32 s, .int .i64 k, .int .u32 a, .int .u32 b] 31) = w3 at *
    have hz3' : w2.heap.size < w3.heap.size := by omega
    clear hz3
    have ha3 := ha2.below hb3
    have hB3 : Below w.heap.size w w3 := hB2.trans (hb3.mono hB2.size)
    clear hb3
    refine (toB_any a0 len0 cap0 zs _ hn hl' ha3).mono ?_
    rintro e w4 ⟨rfl, ho4, hb4⟩
    have A4 : At .u8 w4 (some ⟨w3.heap.size, 0, none⟩) zs := by obtain ⟨a, cap, h, _, _, _, h'⟩ := At.of_owns ho4; cases h; exact h'
    clear ho4
    have HR3 : Hid _ := hr3
    clear hr3
    go_wp2_with fail
    refine (idec_any _ len0 len0 zs _ hn hl' hz A4).mono ?_
    rintro e w5 ⟨rfl, hb5⟩
    rw [HDEC.out]
    have A5 := A4.below hb5
    have hB5 : Below w3.heap.size w3 w5 := hb4.trans (hb5.mono hb4.size)
    have h3lt : w3.heap.size ≤ w5.heap.size := hB5.size
    have hr5 : w5.heap[w2.heap.size]? = some (.cells #[.bool x, .int .u32 s, .int .i64 k, .int .u32 a, .int .u32 b] 31 (0, 0)) := by rw [hB5.block _ (by omega)]; exact HR3.out
    have HR5 : Hid _ := hr5
    clear hb4 hb5 A4 hr5 HR3
    have hwZ : ((w5.alloc (.cells #[.bool false, .int .u32 0, .int .i64 0, .int .u32 0, .int .u32 0] 31)).setRow w5.heap.size #[.bool x, .int .u32 s, .int .i64 k, .int .u32 a, .int .u32 b]) = w5.alloc (.cells #[.bool x, .int .u32 s, .int .i64 k, .int .u32 a, .int .u32 b] 31) := World.setRow_alloc_new _ _ _ _
    have H5a : Hid (((w5.alloc (.cells #[.bool false, .int .u32 0, .int .i64 0, .int .u32 0, .int .u32 0] 31)).setRow w5.heap.size #[.bool x, .int .u32 s, .int .i64 k, .int .u32 a, .int .u32 b]).heap[w5.heap.size]? = some (.cells #[.bool x, .int .u32 s, .int .i64 k, .int .u32 a, .int .u32 b] 31 (0, 0))) := by unfold Hid; rw [hwZ]; exact heap_alloc_new w5 _
    have H5b : Hid (((w5.alloc (.cells #[.bool false, .int .u32 0, .int .i64 0, .int .u32 0, .int .u32 0] 31)).setRow w5.heap.size #[.bool x, .int .u32 s, .int .i64 k, .int .u32 a, .int .u32 b]).heap[w2.heap.size]? = some (.cells #[.bool x, .int .u32 s, .int .i64 k, .int .u32 a, .int .u32 b] 31 (0, 0))) := by unfold Hid; rw [hwZ, Below.heap_alloc w5 _ _ (by omega)]; exact HR5.out
    have HWZ : Hid _ := hwZ
    clear hwZ
    go_wp2_with (first
      | (refine wpList_store_row rfl 31 (.tmp 5) (.tmp 15) rfl w5.heap.size #[.bool x, .int .u32 s, .int .i64 k, .int .u32 a, .int .u32 b] rfl rfl 31 _ (heap_alloc_new w5 _) HSF.out rfl (all5 _ _ _ _ _) ?_)
      | (refine wpList_load_row rfl 31 (.tmp 5) rfl w5.heap.size rfl 31 _ (0, 0) _ H5a.out Try.underlying31 rfl HSF.out ?_)
      | (refine wpList_load_row rfl 31 (.tmp 3) rfl w2.heap.size rfl 31 _ (0, 0) _ H5b.out Try.underlying31 rfl HSF.out ?_))
    rw [HWZ.out]
    have hb6 := below_new w5 (.cells #[.bool x, .int .u32 s, .int .i64 k, .int .u32 a, .int .u32 b] 31)
    generalize w5.alloc (.cells #[.bool x, .int .u32 s, .int .i64 k, .int .u32 a, .int .u32 b] 31) = w6 at *
    clear H5a H5b HWZ HR5
    have A6 := A5.below hb6
    have hB6 : Below w3.heap.size w3 w6 := hB5.trans (hb6.mono hB5.size)
    clear A5 hB5 hb6
    refine (eqFR_any x s k a b _).mono ?_
    rintro e w7 ⟨rfl, hb7⟩
    have A7 := A6.below hb7
    have hB7 : Below w3.heap.size w3 w7 := hB6.trans (hb7.mono hB6.size)
    have ha7 := ha3.below hB7
    clear A6 hB6 hb7
    go_wp2_with fail
    refine (toB_any a0 len0 cap0 zs _ hn hl' ha7).mono ?_
    rintro e w8 ⟨rfl, ho8, hb8⟩
    have A8 : At .u8 w8 (some ⟨w7.heap.size, 0, none⟩) zs := by obtain ⟨a, cap, h, _, _, _, h'⟩ := At.of_owns ho8; cases h; exact h'
    have A78 := A7.below hb8
    have HB8 : Hid (Below w.heap.size w w8) := hB3.trans ((hB7.trans (hb8.mono hB7.size)).mono hB3.size)
    clear ho8 A7 hb8 hB7 ha7 ha3
    go_wp2_with fail
    refine (eqB_any _ _ len0 len0 len0 zs _ hn hl' A78 A8).mono ?_
    rintro e w9 ⟨rfl, q, rfl⟩
    have HB9 : Hid (Below w.heap.size w (w8.drewN q)) := below_drewN' HB8.out _
    clear A78 A8 HB8 hB3 hB2 ha2
    generalize w8.drewN q = w9 at *
    go_wp2
    go_ret
    exact ⟨rfl, HB9.out⟩

set_option maxRecDepth 100000 in
theorem lifted (os : Os) (started : os.Started) (H : Type) (enc : TypeId × Value → H) :
    ReturnsInHanded {} Try.checked os 4 .any (Rows.fnExactDecodeFrameSpec.pre6 enc Try.prog Try.f4 Rows.fnExactDecodeFrameRow.domain false) (Rows.fnExactDecodeFrameSpec.post enc Try.prog Try.f4 false true false false) := by
  refine returnsInHanded_of_change (C := Try.checked) own started (by kernel_rfl) Try.func4
    (ChangeSpec.witness6 (enc := enc) (C := Try.checked) false ⟨#[], #[.slice none 0 0], []⟩ 8 (by kernel_rfl) (by kernel_rfl) (by kernel_rfl) (by kernel_rfl)) ?_
  intro W base args ds gs before hval0 hW hcnd _
  have hval : ∀ (j : Nat) t v, Try.f4.params[j]? = some t → args[j]? = some v → Value.okWide Try.prog W .any base t v := hval0
  have hW' := hW
  obtain ⟨p, q, hA0, hV, rfl, hfz, hnd⟩ := hW
  have hA : DataW.TrodAll enc Try.prog W 0 (fun _ => true) true Try.f4.params.toList args.toList ds p := hA0
  rw [Try.params4] at hA hval
  obtain ⟨v0, vs0, d0, ds0, p0, q0, hargs, rfl, rfl, h0, r0⟩ := trodAll_cons hA
  obtain ⟨rfl, rfl, rfl⟩ := trodAll_nil r0
  obtain rfl : args = #[v0] := by cases args; simp_all
  obtain ⟨rfl, rfl⟩ := trodVars_none hV
  obtain ⟨a0, len0, cap0, rfl⟩ := okWide_slice Try.underlying22 (hval 0 22 v0 rfl rfl)
  have k0 := h0
  have lt0 : ∀ x ∈ p0, x.block < W.heap.size := by obtain ⟨m, hm⟩ := k0; exact DataW.trod_lt m _ _ _ hm
  obtain ⟨z0, w0⟩ : ∃ zs, IsRow .u8 W a0 len0 cap0 zs := by
    obtain ⟨fuel, hf⟩ := h0
    rcases open_ints Try.underlying22 Try.underlying5 (by kernel_rfl) hf with ⟨hcs, _⟩ | ⟨x, l, c, zs, hcs, _, hl, hm, hz, _, hcell, hwz⟩
    · simp [Value.cells] at hcs
      obtain ⟨rfl, rfl, rfl⟩ := hcs
      exact ⟨[], .inl ⟨rfl, rfl, rfl, rfl⟩⟩
    · simp [Value.cells] at hcs
      obtain ⟨rfl, rfl, rfl⟩ := hcs
      exact ⟨zs, .inr ⟨_, rfl, hl, hm, by simpa using hz, hcell, hwz⟩⟩
  clear hA0 hval0
  refine (walk a0 len0 cap0 z0 W w0).mono fun e W' ⟨he, bel⟩ => ?_
  subst he
  exact ⟨_, rfl, _, _, _, [], _, [], hW', trodAll_mk1 (shut_bool Try.underlying4 _), (trodAll_cons_mk (Below.trod laidOut (by kernel_rfl) (of_decide_eq_true (by kernel_rfl)) k0 bel lt0) trodAll_mk0), rfl, bel.frame _, fun h => by cases h⟩

theorem over : Rows.fnExactDecodeFrameRow.holds Try.pinned (OpenSpec.ofChange Rows.fnExactDecodeFrameSpec) :=
  OpenClaim.holds_of_wide 4 Try.f4 rfl rfl rfl rfl rfl rfl rfl ⟨rfl, rfl, rfl, rfl, rfl⟩ rfl rfl rfl rfl rfl (by kernel_rfl) Try.func4 (by kernel_rfl)
    (of_decide_eq_true (by kernel_rfl)) (by unfold Func.isWrapper; first | (rw [if_pos (by decide +kernel)]; kernel_rfl) | (rw [if_neg (by decide +kernel)]; exact ⟨rfl, rfl⟩))
    (fun os started H enc _ => lifted os started H enc)

end Go.Proofs.Ythghkfncpdnpoab.ldec
namespace Go.Proofs.Ythghkfncpdnpoab
theorem decodeFrame_holds : Rows.FnExactDecodeFrameSaid := ldec.over
#print axioms decodeFrame_holds
end Go.Proofs.Ythghkfncpdnpoab
