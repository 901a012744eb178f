/-
  Own work round the shell that the kit's program writes.
-/
import Derived.Test.YthghkfncpdnpoaaPTk
import Derived.Test.YthghkfncpdnpoaaBytes
import Derived.WalkKit
import Derived.ProofKit
import Derived.OpenShut
import Derived.ShutString
import Derived.ChangeOld
import Derived.Below
namespace Go.Proofs.Ythghkfncpdnpoaa.fnExactParseTicket
open Go.ChangeShapes Go.WideShapes Go.ChangeAt Go.RowKit
open Go.ChangeMaps (open_string shut_string)
set_option linter.unusedVariables false

theorem own : ownKnob Try.prog.godebug = none := by kernel_rfl
theorem laidOut : laidOutB Try.prog = true := by kernel_rfl

theorem tkV_form (zs : List Int) : ∃ c s x, tkV zs = .agg #[.bool c, .int .i64 s, .int .i64 x] := by
  cases h : tkB zs
  · exact ⟨_, _, _, tkV_no h⟩
  · exact ⟨_, _, _, tkV_yes h⟩
def IsRow (k : IntKind) (w : World) (a : Option Addr) (len cap : Nat) (zs : List Int) : Prop :=
  (a = none ∧ len = 0 ∧ cap = 0 ∧ zs = []) ∨
  ∃ x, a = some x ∧ len ≤ cap ∧ cap ≤ maxLen ∧ zs.length = cap ∧ (∀ i, i < zs.length → w.cell? (x.add i) = some (.int k (zs.getD i 0))) ∧ ∀ n ∈ zs, (Lit.int k n).wf = true

theorem IsRow.at_ {w : World} {a : Option Addr} {len cap : Nat} {z : List Int} (h : IsRow .u8 w a len cap z) : ∃ zs, zs.length = len ∧ Byte zs ∧ At .u8 w a zs := by
  rcases h with ⟨rfl, rfl, rfl, rfl⟩ | ⟨x, rfl, hl, hm, hz, hc, hw⟩
  · exact ⟨[], rfl, by simp [Byte], .inl rfl⟩
  · refine ⟨z.take len, by simp; omega, fun n hn => ?_, ?_⟩
    · have := hw n (List.mem_of_mem_take hn)
      simp [Lit.wf, IntKind.min, IntKind.max, IntKind.signed, IntKind.bits] at this
      omega
    · by_cases h0 : len = 0
      · left; simp [h0]
      · right
        obtain ⟨b, off, spot⟩ := x
        have hc0 := hc 0 (by omega)
        have hs : spot = none := by simpa [Addr.add] using World.cell?_spot hc0
        subst hs
        refine ⟨b, off, rfl, block_lt_of_cell (a := (⟨b, off, none⟩ : Addr).add 0) hc0, fun i hi => ?_⟩
        have hi' : i < len := by simp at hi; omega
        have := hc i (by omega)
        rw [Addr.add_lit] at this
        rw [this]
        simp [List.getD, hi']

theorem below_drewN {B : Nat} {a w : World} (h : Below B a w) (n : Nat) : Below B a (w.drewN n) := ⟨h.os, h.tape, h.output, h.size, h.block⟩

theorem eqT_any (c : Bool) (s x : Int) (w : World) :
    Calls Try.prog 16 #[.agg #[.bool c, .int .i64 s, .int .i64 x], .agg #[.bool c, .int .i64 s, .int .i64 x]] w fun e w' => e = .returned (.bool true) ∧ Below w.heap.size w w' := by
  have HB : Hid (Below w.heap.size w ((w.alloc (.cells #[.bool c, .int .i64 s, .int .i64 x] 29)).alloc (.cells #[.bool c, .int .i64 s, .int .i64 x] 29))) := ((Below.refl _ _).alloc (Nat.le_refl _) _).alloc (by simp) _
  go_enter Try.func16, Try.ntmps16
  go_wp2
  go_ret
  exact ⟨rfl, HB.out⟩

set_option maxHeartbeats 400000 in
theorem walk (a0 : Option Addr) (len0 cap0 : Nat) (z0 : List Int) (w : World) (w0 : IsRow .u8 w a0 len0 cap0 z0) :
    Calls Try.prog 5 #[.slice a0 len0 cap0] w fun e w' => e = .returned (.bool true) ∧ Below w.heap.size w w' := by
  by_cases hl : (1048576 : Int) < (len0 : Int)
  · go_enter Try.func5, Try.ntmps5
    go_wp2
    go_ret
    exact ⟨rfl, Below.refl _ _⟩
  · obtain ⟨zs, hn, hz, ha⟩ := IsRow.at_ w0
    have hl' : len0 ≤ 1048576 := by omega
    clear w0
    obtain ⟨c, s, x, hV⟩ := tkV_form zs
    go_enter Try.func5, Try.ntmps5
    go_wp2_with fail
    refine (toB_any a0 len0 cap0 zs _ hn hl' ha).mono ?_
    rintro e w1 ⟨rfl, ho1, hb1⟩
    have A1 : At .u8 w1 (some ⟨w.heap.size, 0, none⟩) zs := by obtain ⟨a, cap, h, _, _, _, h'⟩ := At.of_owns ho1; cases h; exact h'
    have ha1 := ha.below hb1
    clear ho1
    go_wp2_with fail
    refine (ptS_any _ len0 len0 zs _ hn hl' (Nat.le_refl _) A1 hz).mono ?_
    rintro e w2 ⟨rfl, hb2⟩
    have ha2 := ha1.below hb2
    rw [hV]
    have HSF : Hid ((Try.prog.info? 29).map (·.size) = some 3) := by show _ = _; kernel_rfl
    have R2 : (w2.alloc (.cells #[.bool c, .int .i64 s, .int .i64 x] 29)).heap[w2.heap.size]? = some (.cells #[.bool c, .int .i64 s, .int .i64 x] 29 (0, 0)) := heap_alloc_new w2 _
    have hb2' : Below w2.heap.size w2 (w2.alloc (.cells #[.bool c, .int .i64 s, .int .i64 x] 29)) := (Below.refl _ _).alloc (Nat.le_refl _) _
    have ha2' := ha2.below hb2'
    have L2 : w2.heap.size < (w2.alloc (.cells #[.bool c, .int .i64 s, .int .i64 x] 29)).heap.size := by simp
    go_wp2_with fail
    generalize hW : w2.alloc (.cells #[.bool c, .int .i64 s, .int .i64 x] 29) = w2' at *
    clear hW
    refine (toB_any a0 len0 cap0 zs _ hn hl' ha2').mono ?_
    rintro e w3 ⟨rfl, ho3, hb3⟩
    have A3 : At .u8 w3 (some ⟨w2'.heap.size, 0, none⟩) zs := by obtain ⟨a, cap, h, _, _, _, h'⟩ := At.of_owns ho3; cases h; exact h'
    have ha3 := ha2'.below hb3
    clear ho3
    go_wp2_with fail
    refine (ptI_any _ len0 len0 zs _ hn hl' (Nat.le_refl _) A3 hz).mono ?_
    rintro e w4 ⟨rfl, hb4⟩
    rw [hV]
    have ha4 := ha3.below hb4
    have A4 := A3.below hb4
    have s3 := hb3.size
    have s4 := hb4.size
    have hb4' : Below w4.heap.size w4 (w4.alloc (.cells #[.bool c, .int .i64 s, .int .i64 x] 29)) := (Below.refl _ _).alloc (Nat.le_refl _) _
    have HR4 : Hid ((w4.alloc (.cells #[.bool c, .int .i64 s, .int .i64 x] 29)).heap[w2.heap.size]? = some (.cells #[.bool c, .int .i64 s, .int .i64 x] 29 (0, 0))) := by
      show _ = _; rw [hb4'.block _ (by omega), hb4.block _ (by omega), hb3.block _ L2]; exact R2
    have HR5 : Hid ((w4.alloc (.cells #[.bool c, .int .i64 s, .int .i64 x] 29)).heap[w4.heap.size]? = some (.cells #[.bool c, .int .i64 s, .int .i64 x] 29 (0, 0))) := heap_alloc_new w4 _
    have ha5 := ha4.below hb4'
    have A5 := A4.below hb4'
    have HB4 : Hid (Below w.heap.size w (w4.alloc (.cells #[.bool c, .int .i64 s, .int .i64 x] 29))) := by
      have s1 := hb1.size
      have s2 := hb2.size
      have s2' := hb2'.size
      exact (hb1.trans ((hb2.trans ((hb2'.trans ((hb3.trans ((hb4.trans (hb4'.mono s4)).mono s3)).mono s2')).mono s2)).mono s1))
    clear hb1 hb2 hb2' hb3 hb4 hb4' R2 ha ha1 ha2 ha2' ha3 ha4 A1 A3 A4 s3 s4 L2
    go_wp2_with (first
      | (refine wpList_load_row rfl 29 (.tmp 5) rfl w4.heap.size rfl 29 _ (0, 0) _ HR5.out Try.underlying29 rfl HSF.out ?_)
      | (refine wpList_load_row rfl 29 (.tmp 3) rfl w2.heap.size rfl 29 _ (0, 0) _ HR4.out Try.underlying29 rfl HSF.out ?_)
      | fail)
    generalize hW : w4.alloc (.cells #[.bool c, .int .i64 s, .int .i64 x] 29) = w5 at *
    clear hW
    refine (eqT_any c s x _).mono ?_
    rintro e w6 ⟨rfl, hb6⟩
    have ha6 := ha5.below hb6
    have A6 := A5.below hb6
    have HB6 : Hid (Below w.heap.size w w6) := HB4.out.trans (hb6.mono HB4.out.size)
    clear hb6 HB4 ha5 A5
    go_wp2_with fail
    refine (toB_any a0 len0 cap0 zs _ hn hl' ha6).mono ?_
    rintro e w7 ⟨rfl, ho7, hb7⟩
    have A7 : At .u8 w7 (some ⟨w6.heap.size, 0, none⟩) zs := by obtain ⟨a, cap, h, _, _, _, h'⟩ := At.of_owns ho7; cases h; exact h'
    have A67 := A6.below hb7
    have HB7 : Hid (Below w.heap.size w w7) := HB6.out.trans (hb7.mono HB6.out.size)
    clear ho7 hb7
    go_wp2_with fail
    refine (eqB_any _ _ len0 len0 len0 zs _ hn hl' A67 A7).mono ?_
    rintro e w8 ⟨rfl, q, rfl⟩
    go_wp2
    go_ret
    exact ⟨rfl, below_drewN HB7.out _⟩

set_option maxRecDepth 100000 in
theorem lifted (os : Os) (started : os.Started) (H : Type) (enc : TypeId × Value → H) :
    ReturnsInHanded {} Try.checked os 5 .any (Rows.fnExactParseTicketSpec.pre6 enc Try.prog Try.f5 Rows.fnExactParseTicketRow.domain false) (Rows.fnExactParseTicketSpec.post enc Try.prog Try.f5 false true false false) := by
  refine returnsInHanded_of_change (C := Try.checked) own started (by kernel_rfl) Try.func5
    (ChangeSpec.witness6 (enc := enc) (C := Try.checked) false ⟨#[], #[.slice none 0 0], []⟩ 8 (by kernel_rfl) (by kernel_rfl) (by kernel_rfl) (by kernel_rfl)) ?_
  intro W base args ds gs before hval0 hW hcnd _
  have hval : ∀ (j : Nat) t v, Try.f5.params[j]? = some t → args[j]? = some v → Value.okWide Try.prog W .any base t v := hval0
  have hW' := hW
  obtain ⟨p, q, hA0, hV, rfl, hfz, hnd⟩ := hW
  have hA : DataW.TrodAll enc Try.prog W 0 (fun _ => true) true Try.f5.params.toList args.toList ds p := hA0
  rw [Try.params5] at hA hval
  obtain ⟨v0, vs0, d0, ds0, p0, q0, hargs, rfl, rfl, h0, r0⟩ := trodAll_cons hA
  obtain ⟨rfl, rfl, rfl⟩ := trodAll_nil r0
  obtain rfl : args = #[v0] := by cases args; simp_all
  obtain ⟨rfl, rfl⟩ := trodVars_none hV
  obtain ⟨a0, len0, cap0, rfl⟩ := okWide_slice Try.underlying22 (hval 0 22 v0 rfl rfl)
  have k0 := h0
  have lt0 : ∀ x ∈ p0, x.block < W.heap.size := by obtain ⟨m, hm⟩ := k0; exact DataW.trod_lt m _ _ _ hm
  obtain ⟨z0, w0⟩ : ∃ zs, IsRow .u8 W a0 len0 cap0 zs := by
    obtain ⟨fuel, hf⟩ := h0
    rcases open_ints Try.underlying22 Try.underlying5 (by kernel_rfl) hf with ⟨hcs, _⟩ | ⟨x, l, c, zs, hcs, _, hl, hm, hz, _, hcell, hwz⟩
    · simp [Value.cells] at hcs
      obtain ⟨rfl, rfl, rfl⟩ := hcs
      exact ⟨[], .inl ⟨rfl, rfl, rfl, rfl⟩⟩
    · simp [Value.cells] at hcs
      obtain ⟨rfl, rfl, rfl⟩ := hcs
      exact ⟨zs, .inr ⟨_, rfl, hl, hm, by simpa using hz, hcell, hwz⟩⟩
  clear hA0 hval0
  refine (walk a0 len0 cap0 z0 W w0).mono fun e W' ⟨he, bel⟩ => ?_
  subst he
  exact ⟨_, rfl, _, _, _, [], _, [], hW', trodAll_mk1 (shut_bool Try.underlying4 _), (trodAll_cons_mk (Below.trod laidOut (by kernel_rfl) (of_decide_eq_true (by kernel_rfl)) k0 bel lt0) trodAll_mk0), rfl, bel.frame _, fun h => by cases h⟩

theorem over : Rows.fnExactParseTicketRow.holds Try.pinned (OpenSpec.ofChange Rows.fnExactParseTicketSpec) :=
  OpenClaim.holds_of_wide 5 Try.f5 rfl rfl rfl rfl rfl rfl rfl ⟨rfl, rfl, rfl, rfl, rfl⟩ rfl rfl rfl rfl rfl (by kernel_rfl) Try.func5 (by kernel_rfl)
    (of_decide_eq_true (by kernel_rfl)) (by unfold Func.isWrapper; first | (rw [if_pos (by decide +kernel)]; kernel_rfl) | (rw [if_neg (by decide +kernel)]; exact ⟨rfl, rfl⟩))
    (fun os started H enc _ => lifted os started H enc)

end Go.Proofs.Ythghkfncpdnpoaa.fnExactParseTicket
namespace Go.Proofs.Ythghkfncpdnpoaa
theorem parseTicket_holds : Rows.FnExactParseTicketSaid := fnExactParseTicket.over
#print axioms parseTicket_holds
end Go.Proofs.Ythghkfncpdnpoaa
