/-
  Own work: the law on ValidDev.
-/
import Derived.Test.YthghkfncpdnpoabDevValI
import Derived.Test.YthghkfncpdnpoabArgDev
namespace Go.Proofs.Ythghkfncpdnpoab.lval
open Go.ChangeShapes Go.WideShapes Go.ChangeAt Go.RowKit
set_option linter.unusedVariables false

theorem own : ownKnob Try.prog.godebug = none := by kernel_rfl
theorem laidOut : laidOutB Try.prog = true := by kernel_rfl

/-- The parameter's box stands. -/
structure LV (w w' : World) (C : Array Value) : Prop where
  below : Below w.heap.size w w'
  box : w'.heap[w.heap.size]? = some (.cells C 47 (0, 0))
theorem LV.grow {w w' w'' : World} {C : Array Value} (h : LV w w' C) (hb : Below w'.heap.size w' w'') : LV w w'' C :=
  ⟨h.below.trans (hb.mono h.below.size), by rw [hb.block _ (Array.getElem?_eq_some_iff.1 h.box).1]; exact h.box⟩
theorem LV.cells {w w' : World} {a0 a1 a2 a3 : Value} (h : LV w w' #[a0, a1, a2, a3]) :
    w'.cell? ⟨w.heap.size, 0, none⟩ = some a0 ∧ w'.cell? ⟨w.heap.size, 1, none⟩ = some a1 ∧ w'.cell? ⟨w.heap.size, 2, none⟩ = some a2 ∧ w'.cell? ⟨w.heap.size, 3, none⟩ = some a3 :=
  ⟨cell_of_row _ _ _ _ _ _ h.box, cell_of_row _ _ _ _ _ _ h.box, cell_of_row _ _ _ _ _ _ h.box, cell_of_row _ _ _ _ _ _ h.box⟩
theorem row4 {w : World} {g : Nat} {t : TypeId} {a0 a1 a2 a3 : Value} (h : w.heap[g]? = some (.cells #[a0, a1, a2, a3] t (0, 0))) :
    w.cell? ⟨g, 0, none⟩ = some a0 ∧ w.cell? ⟨g, 1, none⟩ = some a1 ∧ w.cell? ⟨g, 2, none⟩ = some a2 ∧ w.cell? ⟨g, 3, none⟩ = some a3 :=
  ⟨cell_of_row _ _ _ _ _ _ h, cell_of_row _ _ _ _ _ _ h, cell_of_row _ _ _ _ _ _ h, cell_of_row _ _ _ _ _ _ h⟩

def G10 (zs : List Int) (ps : List PD) (f : Int) (d : Bool) (x arg : Value) : Nat → World → Value → Prop
  | 0, _, v => v = x
  | 1, _, v => v = arg
  | 2, w, v => DAt w v zs ps f d
  | 3, _, v => v = .bool true
  | _, _, v => v = .bool false
theorem DAt.mono {w w' : World} {v : Value} {zs : List Int} {ps : List PD} {f : Int} {d : Bool} (h : DAt w v zs ps f d) (hm : Mono w w') : DAt w' v zs ps f d := by
  obtain ⟨da, dc, ca, cc, hv, h1, h2⟩ := h
  have kAt : ∀ {x : Option Addr} {zs : List Int}, At .u8 w x zs → At .u8 w' x zs := fun {x zs} h => by
    rcases h with h | ⟨b, off, rfl, hl, hc⟩
    · exact .inl h
    · exact .inr ⟨b, off, rfl, by have := hm.size; omega, fun i hi => by rw [hm.cell ⟨b, off + i, none⟩ hl]; exact hc i hi⟩
  refine ⟨da, dc, ca, cc, hv, kAt h1, ?_⟩
  rcases h2 with h | ⟨b, off, rfl, hl, hc⟩
  · exact .inl h
  · exact .inr ⟨b, off, rfl, by have := hm.size; omega, fun i hi => by
      obtain ⟨x, c, p1, p2, p3⟩ := hc i hi
      exact ⟨x, c, by rw [hm.cell ⟨b, off + i * 2, none⟩ hl]; exact p1, by rw [hm.cell ⟨b, off + i * 2 + 1, none⟩ hl]; exact p2, kAt p3⟩⟩
theorem G10_mono (zs : List Int) (ps : List PD) (f : Int) (d : Bool) (x arg : Value) (i : Nat) (w w' : World) (v : Value) (hm : Mono w w') (h : G10 zs ps f d x arg i w v) : G10 zs ps f d x arg i w' v := by
  unfold G10 at *
  split at h <;> first | exact h | exact DAt.mono h hm

set_option maxRecDepth 100000 in
set_option maxHeartbeats 1600000 in
theorem walk (a : Option Addr) (n cap : Nat) (a' : Option Addr) (n' cap' : Nat) (zs : List Int) (ps : List PD) (f : Int) (d : Bool) (w : World) (hn : zs.length = n) (hn' : ps.length = n') (hm : n ≤ 9223372036854775807) (hm' : n' ≤ 9223372036854775807) (ha : At .u8 w a zs) (ha' : PAt w a' ps) (hps : ∀ i, (ps.getD i (0, [])).2.length ≤ 9223372036854775807) :
    Calls Try.prog 7 #[.agg #[.slice a n cap, .slice a' n' cap', .int .i64 f, .bool d]] w fun e w' => e = .returned (.bool true) ∧ Below w.heap.size w w' := by
  have HZ : Hid (∀ left n, szR left n = if left < n then -1 else left - n) := fun _ _ => rfl
  have st0 : LV w (w.alloc (.cells #[.slice a n cap, .slice a' n' cap', .int .i64 f, .bool d] 47)) #[.slice a n cap, .slice a' n' cap', .int .i64 f, .bool d] := ⟨(Below.refl _ _).alloc (Nat.le_refl _) _, heap_alloc_new w _⟩
  have HS0 : Hid _ := st0
  clear st0
  go_enter Try.func7, Try.ntmps7
  go_wp2_with fail
  refine (szD_any a n cap a' n' cap' ps f d 1048576 _ hn' (by decide) (by decide) hm hm' (ha'.below HS0.out.below) hps).mono ?_
  rintro e w1 ⟨rfl, hb1⟩
  have st1 := LV.grow HS0.out hb1
  clear HS0 hb1
  by_cases hbig : (1048576 : Int) < ((n + (n' + pSum ps) : Nat) : Int)
  · have hr : szR 1048576 (n + (n' + pSum ps)) = -1 := by rw [HZ.out, if_pos hbig]
    rw [hr]
    have HB1 : Hid _ := st1.below
    clear st1
    go_wp2
    go_ret
    exact ⟨rfl, HB1.out⟩
  have hr : szR 1048576 (n + (n' + pSum ps)) = 1048576 - ((n + (n' + pSum ps) : Nat) : Int) := by rw [HZ.out, if_neg hbig]
  have hnb : n ≤ 1048576 := by omega
  have hnb' : n' ≤ 1048576 := by omega
  have hpb : ∀ i, (ps.getD i (0, [])).2.length ≤ 1048576 := fun i => by
    by_cases hi : i < ps.length
    · have h1 := pSum_snoc ps i hi
      have h2 := pSum_take ps (i + 1)
      omega
    · rw [List.getD_eq_getElem?_getD, List.getElem?_eq_none (by omega)]; simp
  have hneg : ¬ (szR 1048576 (n + (n' + pSum ps)) < 0) := by rw [hr]; omega
  generalize szR 1048576 (n + (n' + pSum ps)) = left at *
  clear hr hbig hm hm' hps HZ
  obtain ⟨c0, c1, c2, c3⟩ := st1.cells
  have HS1 : Hid _ := st1
  clear st1
  go_wp2_with fail
  refine (toD_any a n cap a' n' cap' zs ps f d _ hn hn' hnb hnb' (ha.below HS1.out.below) (ha'.below HS1.out.below) hpb).mono ?_
  rintro e w2 ⟨v2, rfl, D2, hb2⟩
  have st2 := LV.grow HS1.out hb2
  have D2' := D2.at_
  clear D2 hb2 HS1 c0 c1 c2 c3
  have HS2 : Hid _ := st2
  clear st2
  go_wp2_with fail
  refine (sval_any v2 zs ps f d _ D2' (by omega) (by omega) hpb).mono ?_
  rintro e w3 ⟨rfl, hb3⟩
  have st3 := LV.grow HS2.out hb3
  clear D2' hb3 HS2
  obtain ⟨c0, c1, c2, c3⟩ := st3.cells
  have HS3 : Hid _ := st3
  clear st3
  generalize hvb : validB zs.length ps f = vb at *
  have HVB : Hid _ := hvb
  clear hvb
  go_wp2_with fail
  refine (toD_any a n cap a' n' cap' zs ps f d _ hn hn' hnb hnb' (ha.below HS3.out.below) (ha'.below HS3.out.below) hpb).mono ?_
  rintro e w4 ⟨v4, rfl, D4, hb4⟩
  have st4 := LV.grow HS3.out hb4
  have D4' := D4.at_
  clear D4 hb4 HS3 c0 c1 c2 c3
  obtain ⟨da, dc, ca, cc, rfl, hA4, hP4⟩ := D4'
  have HS4 : Hid _ := st4
  have HD4 : Hid _ := And.intro hA4 hP4
  clear st4 hA4 hP4
  go_wp2_with fail
  have hb5 := (Below.refl w4.heap.size w4).alloc (Nat.le_refl _) (.cells #[.slice da n dc, .slice ca n' cc, .int .i64 f, .bool d] 38)
  have st5 := LV.grow HS4.out hb5
  have D5 : DAt (w4.alloc (.cells #[.slice da n dc, .slice ca n' cc, .int .i64 f, .bool d] 38)) (.agg #[.slice da n dc, .slice ca n' cc, .int .i64 f, .bool d]) zs ps f d := ⟨da, dc, ca, cc, by rw [hn, hn'], At.below HD4.out.1 hb5, PAt.below HD4.out.2 hb5⟩
  have x5 : (w4.alloc (.cells #[.slice da n dc, .slice ca n' cc, .int .i64 f, .bool d] 38)).heap[w4.heap.size]? = some (.cells #[.slice da n dc, .slice ca n' cc, .int .i64 f, .bool d] 38 (0, 0)) := heap_alloc_new w4 _
  clear HS4 HD4 hb5
  generalize (w4.alloc (.cells #[.slice da n dc, .slice ca n' cc, .int .i64 f, .bool d] 38)) = w5 at *
  generalize w4.heap.size = X at *
  refine (ival_any _ zs ps f d _ D5 (by omega) (by omega) hpb).mono ?_
  rintro e w6 ⟨rfl, hb6⟩
  rw [HVB.out]
  have st6 := st5.grow hb6
  have D6 := D5.below hb6
  have x6 : w6.heap[X]? = some (.cells #[.slice da n dc, .slice ca n' cc, .int .i64 f, .bool d] 38 (0, 0)) := by rw [hb6.block _ (Array.getElem?_eq_some_iff.1 x5).1]; exact x5
  have hX : X < w6.heap.size := (Array.getElem?_eq_some_iff.1 x6).1
  have HS6 : Hid _ := st6
  have HD6 : Hid _ := D6
  have HX6 : Hid _ := x6
  have tv : (vb != vb) = false := by simp
  clear st5 D5 x5 hb6 st6 D6 x6
  go_wp2
  refine wp_region_any (by kernel_rfl) ?_
  refine wpAny_slots (frame := fun t => { tmps := #[Value.agg #[Value.slice a n cap, Value.slice a' n' cap', Value.int IntKind.i64 f, Value.bool d], Value.pointer (some { block := w.heap.size, off := 0 }), Value.bool false, Value.int IntKind.i64 left, Value.bool vb, Value.pointer (some { block := X, off := 0 }), Value.bool vb, Value.agg #[Value.slice a n cap, Value.slice a' n' cap', Value.int IntKind.i64 f, Value.bool d], Value.int IntKind.i64 1048576, Value.int IntKind.i64 left, Value.int IntKind.i64 left, Value.bool (decide (left < 0)), Value.agg #[Value.slice a n cap, Value.slice a' n' cap', Value.int IntKind.i64 f, Value.bool d], v2, Value.bool vb, Value.agg #[Value.slice a n cap, Value.slice a' n' cap', Value.int IntKind.i64 f, Value.bool d], Value.agg #[Value.slice da n dc, Value.slice ca n' cc, Value.int IntKind.i64 f, Value.bool d], Value.agg #[Value.slice da n dc, Value.slice ca n' cc, Value.int IntKind.i64 f, Value.bool d], Value.bool vb, Value.bool vb, Value.bool vb, Value.bool false, t 0, t 1, t 2, t 3, t 4], defers := [] })
    (Ext := fun w' => LV w w' #[Value.slice a n cap, Value.slice a' n' cap', Value.int IntKind.i64 f, Value.bool d] ∧ Below w6.heap.size w6 w') (Good := G10 zs ps f d (.agg #[Value.slice da n dc, Value.slice ca n' cc, Value.int IntKind.i64 f, Value.bool d]) (.agg #[Value.slice a n cap, Value.slice a' n' cap', Value.int IntKind.i64 f, Value.bool d])) (G10_mono _ _ _ _ _ _) (by kernel_rfl) (by kernel_rfl) ?hop ?hdone _ _ (fun _ => undef) _ (by simp) ?ext ?start (by simp)
  case start => intro i hi h; exact absurd h (by rw [Array.getD_eq_getD_getElem?, Array.getElem?_replicate]; split <;> simp)
  case ext => exact ⟨HS6.out.grow ((Below.refl _ _).drew), (Below.refl _ _).drew⟩
  case hdone =>
    intro t w' hx hg
    have h4 : t 4 = _ := hg 4 (by decide)
    clear hg
    rw [h4]
    have HB : Hid _ := hx.1.below
    clear hx
    go_wp2
    go_ret
    exact ⟨rfl, HB.out⟩
  case hop =>
    intro i o t w' ho hx hdep K hK
    obtain ⟨hx, hxb⟩ := hx
    have hi : i < 5 := (Array.getElem?_eq_some_iff.1 ho).1
    obtain rfl | rfl | rfl | rfl | rfl : i = 0 ∨ i = 1 ∨ i = 2 ∨ i = 3 ∨ i = 4 := by omega
    all_goals (simp at ho; subst ho)
    · clear hdep
      obtain ⟨q0, q1, q2, q3⟩ := row4 (w := w') (g := X) ((hxb.block _ hX).trans HX6.out)
      go_simp
      exact hK w' _ rfl ⟨hx, hxb⟩ (Mono.refl _)
    · clear hdep
      obtain ⟨q0, q1, q2, q3⟩ := hx.cells
      go_simp
      exact hK w' _ rfl ⟨hx, hxb⟩ (Mono.refl _)
    · have d1 : t 1 = _ := hdep ⟨1, .data⟩ (by simp) rfl
      clear hdep
      go_simp
      refine (toD_any a n cap a' n' cap' zs ps f d _ hn hn' hnb hnb' (ha.below hx.below) (ha'.below hx.below) hpb).mono ?_
      rintro e w7 ⟨v7, rfl, D7, hb7⟩
      have D7' := D7.at_
      go_simp
      simpa [upd, d1] using hK w7 v7 D7' ⟨hx.grow hb7, hxb.trans (hb7.mono hxb.size)⟩ (Mono.of_below hb7)
    · have d0 : t 0 = _ := hdep ⟨0, .data⟩ (by simp) rfl
      have d2 : DAt w' (t 2) zs ps f d := hdep ⟨2, .data⟩ (by simp) rfl
      clear hdep
      go_simp
      refine (eqD_any _ _ zs ps f d w' (DAt.below HD6.out hxb) d2 (by omega) (by omega) hpb).mono ?_
      rintro e w7 ⟨rfl, hb7⟩
      go_simp
      simpa [upd, d0] using hK w7 (.bool true) rfl ⟨hx.grow hb7, hxb.trans (hb7.mono hxb.size)⟩ (Mono.of_below hb7)
    · have d3 : t 3 = _ := hdep ⟨3, .data⟩ (by simp) rfl
      clear hdep
      go_simp
      simpa [upd, d3] using hK w' (.bool false) rfl ⟨hx, hxb⟩ (Mono.refl _)

set_option maxRecDepth 100000 in
theorem lifted (os : Os) (started : os.Started) (H : Type) (enc : TypeId × Value → H) :
    ReturnsInHanded {} Try.checked os 7 .any (Rows.fnExactValidDevSpec.pre6 enc Try.prog Try.f7 Rows.fnExactValidDevRow.domain false) (Rows.fnExactValidDevSpec.post enc Try.prog Try.f7 false true false false) := by
  refine returnsInHanded_of_change (C := Try.checked) own started (by kernel_rfl) Try.func7
    (ChangeSpec.witness6 (enc := enc) (C := Try.checked) false ⟨#[], #[.agg #[.slice none 0 0, .slice none 0 0, .int .i64 0, .bool false]], []⟩ 8 (by kernel_rfl) (by kernel_rfl) (by kernel_rfl) (by kernel_rfl)) ?_
  intro W base args ds gs before hval0 hW hcnd _
  have hval : ∀ (j : Nat) t v, Try.f7.params[j]? = some t → args[j]? = some v → Value.okWide Try.prog W .any base t v := hval0
  have hW' := hW
  obtain ⟨p, q, hA0, hV, rfl, hfz, hnd⟩ := hW
  have hA : DataW.TrodAll enc Try.prog W 0 (fun _ => true) true Try.f7.params.toList args.toList ds p := hA0
  rw [Try.params7] at hA hval
  obtain ⟨v0, vs0, d0, ds0, p0, q0, hargs, rfl, rfl, h0, r0⟩ := trodAll_cons hA
  obtain ⟨rfl, rfl, rfl⟩ := trodAll_nil r0
  obtain rfl : args = #[v0] := by cases args; simp_all
  obtain ⟨rfl, rfl⟩ := trodVars_none hV
  have k0 := h0
  have lt0 : ∀ x ∈ p0, x.block < W.heap.size := by obtain ⟨m, hm⟩ := k0; exact DataW.trod_lt m _ _ _ hm
  obtain ⟨a, n, cap, a', n', cap', zs, ps, f, d, rfl, hn, hn', hm, hm', ha, ha', hps, _, _, _⟩ := dev_of (hval 0 47 v0 rfl rfl) h0
  clear hA0 hval0
  refine (walk a n cap a' n' cap' zs ps f d W hn hn' hm hm' ha ha' hps).mono fun e W' ⟨he, bel⟩ => ?_
  subst he
  exact ⟨_, rfl, _, _, _, [], _, [], hW', trodAll_mk1 (shut_bool Try.underlying4 _), (trodAll_cons_mk (Below.trod laidOut (by kernel_rfl) (of_decide_eq_true (by kernel_rfl)) k0 bel lt0) trodAll_mk0), rfl, bel.frame _, fun h => by cases h⟩

theorem over : Rows.fnExactValidDevRow.holds Try.pinned (OpenSpec.ofChange Rows.fnExactValidDevSpec) :=
  OpenClaim.holds_of_wide 7 Try.f7 rfl rfl rfl rfl rfl rfl rfl ⟨rfl, rfl, rfl, rfl, rfl⟩ rfl rfl rfl rfl rfl (by kernel_rfl) Try.func7 (by kernel_rfl)
    (of_decide_eq_true (by kernel_rfl)) (by unfold Func.isWrapper; first | (rw [if_pos (by decide +kernel)]; kernel_rfl) | (rw [if_neg (by decide +kernel)]; exact ⟨rfl, rfl⟩))
    (fun os started H enc _ => lifted os started H enc)
end Go.Proofs.Ythghkfncpdnpoab.lval
namespace Go.Proofs.Ythghkfncpdnpoab
theorem validDev_holds : Rows.FnExactValidDevSaid := lval.over
#print axioms validDev_holds
end Go.Proofs.Ythghkfncpdnpoab
