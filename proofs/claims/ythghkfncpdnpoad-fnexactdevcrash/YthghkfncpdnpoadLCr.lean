/-
  Own work: the law on DevCrash.
-/
import Derived.Test.YthghkfncpdnpoadToC
import Derived.Test.YthghkfncpdnpoadICr
import Derived.Test.YthghkfncpdnpoadDevHeld
import Derived.Test.YthghkfncpdnpoadDevLaw
namespace Go.Proofs.Ythghkfncpdnpoad.lcr
open Go.ChangeShapes Go.WideShapes Go.ChangeAt Go.RowKit
set_option linter.unusedVariables false

theorem own : ownKnob Try.prog.godebug = none := by kernel_rfl
theorem laidOut : laidOutB Try.prog = true := by kernel_rfl
theorem all3c (a : Option Addr) (l c : Nat) (t u : Int) : (#[Value.slice a l c, .int .i64 t, .int .i64 u].all (fun v => v.oneCell')) = true := by simp [Value.oneCell']
theorem Try.sizeCr : (Try.prog.info? 72).map (·.size) = some 3 := by kernel_rfl

/-- The parameters' boxes stand. -/
structure LS (w w' : World) (C0 C1 : Array Value) : Prop where
  below : Below w.heap.size w w'
  b0 : w'.heap[w.heap.size]? = some (.cells C0 61 (0, 0))
  b1 : w'.heap[w.heap.size + 1]? = some (.cells C1 64 (0, 0))
theorem LS.keep {w w' w'' : World} {C0 C1 : Array Value} (h : LS w w' C0 C1) (ho : w''.os = w'.os) (ht : w''.tape = w'.tape) (hu : w''.output = w'.output) (hs : w'.heap.size ≤ w''.heap.size) (hk : ∀ k, k < w.heap.size + 2 → w''.heap[k]? = w'.heap[k]?) : LS w w'' C0 C1 :=
  ⟨h.below.trans ⟨ho, ht, hu, hs, fun k hk' => hk k (by omega)⟩, by rw [hk _ (by omega)]; exact h.b0, by rw [hk _ (by omega)]; exact h.b1⟩
theorem LS.sz {w w' : World} {C0 C1 : Array Value} (h : LS w w' C0 C1) : w.heap.size + 2 ≤ w'.heap.size := (Array.getElem?_eq_some_iff.1 h.b1).1
theorem LS.grow {w w' w'' : World} {C0 C1 : Array Value} (h : LS w w' C0 C1) (hb : Below w'.heap.size w' w'') : LS w w'' C0 C1 :=
  h.keep hb.os hb.tape hb.output hb.size (fun k hk => hb.block k (by have := h.sz; omega))
theorem LS.start (w : World) (C0 C1 : Array Value) : LS w ((w.alloc (.cells C0 61)).alloc (.cells C1 64)) C0 C1 := by
  have h2 := (Below.refl _ (w.alloc (.cells C0 61))).alloc (Nat.le_refl _) (.cells C1 64)
  refine ⟨((Below.refl w.heap.size w).alloc (Nat.le_refl _) (.cells C0 61)).alloc (by simp) (.cells C1 64), ?_, ?_⟩
  · rw [h2.block _ (by simp)]; exact heap_alloc_new w _
  · have := heap_alloc_new (w.alloc (.cells C0 61)) (.cells C1 64)
    simpa using this

/-- The model's answer stands, below block E. -/
structure LW (w w' : World) (C0 C1 : Array Value) (W E : Nat) (dv : Value) (R : List Int) (F : Int) : Prop where
  ls : LS w w' C0 C1
  bw : w'.heap[W]? = some (.cells #[dv, .slice none 0 0, .int .i64 F, .bool false] 69 (0, 0))
  ow : OwnN w' 0 dv R
  hW : W < E
  hdv : ∀ k, dv.ownBlock = some k → k < E
  hE : E ≤ w'.heap.size
  hw : w.heap.size + 2 ≤ E
theorem LW.keep {w w' w'' : World} {C0 C1 : Array Value} {W E : Nat} {dv : Value} {R : List Int} {F : Int} (h : LW w w' C0 C1 W E dv R F) (ho : w''.os = w'.os) (ht : w''.tape = w'.tape) (hu : w''.output = w'.output) (hs : w'.heap.size ≤ w''.heap.size) (hk : ∀ k, k < E → w''.heap[k]? = w'.heap[k]?) : LW w w'' C0 C1 W E dv R F :=
  ⟨h.ls.keep ho ht hu hs (fun k hk' => hk k (by have := h.hw; omega)), by rw [hk _ h.hW]; exact h.bw, h.ow.keep (fun k e => hk k (h.hdv k e)), h.hW, h.hdv, by have := h.hE; omega, h.hw⟩
theorem LW.grow {w w' w'' : World} {C0 C1 : Array Value} {W E : Nat} {dv : Value} {R : List Int} {F : Int} (h : LW w w' C0 C1 W E dv R F) (hb : Below w'.heap.size w' w'') : LW w w'' C0 C1 W E dv R F :=
  h.keep hb.os hb.tape hb.output hb.size (fun k hk => hb.block k (by have := h.hE; omega))
theorem LW.dat {w w' : World} {C0 C1 : Array Value} {W E : Nat} {dv : Value} {R : List Int} {F : Int} (h : LW w w' C0 C1 W E dv R F) : DAt w' (.agg #[dv, .slice none 0 0, .int .i64 F, .bool false]) R [] F false :=
  (DPl.mine (B := 0) ⟨dv, rfl, h.ow⟩ (Nat.zero_le _)).at_

/-- The model's and the program's answer stand: below block E, from block S on. -/
structure LM (w w' : World) (C0 C1 : Array Value) (W E G S : Nat) (dv gv : Value) (R : List Int) (F : Int) : Prop where
  lw : LW w w' C0 C1 W E dv R F
  bg : w'.heap[G]? = some (.cells #[gv, .slice none 0 0, .int .i64 F, .bool false] 69 (0, 0))
  og : OwnN w' S gv R
  hG : S ≤ G ∧ E ≤ S
  hgv : ∀ k, gv.ownBlock = some k → k < G
theorem LM.keep {w w' w'' : World} {C0 C1 : Array Value} {W E G S : Nat} {dv gv : Value} {R : List Int} {F : Int} (h : LM w w' C0 C1 W E G S dv gv R F) (ho : w''.os = w'.os) (ht : w''.tape = w'.tape) (hu : w''.output = w'.output) (hs : w'.heap.size ≤ w''.heap.size) (hk : ∀ k, k < w'.heap.size → k < E ∨ S ≤ k → w''.heap[k]? = w'.heap[k]?) : LM w w'' C0 C1 W E G S dv gv R F := by
  have hGl := (Array.getElem?_eq_some_iff.1 h.bg).1
  have := h.hG
  have hE := h.lw.hE
  exact ⟨h.lw.keep ho ht hu hs (fun k hk' => hk k (by omega) (.inl hk')), by rw [hk _ hGl (.inr (by omega))]; exact h.bg, h.og.keep (fun k e => hk k (h.og.lt k e).2.1 (.inr (h.og.lt k e).1)), h.hG, h.hgv⟩
theorem LM.grow {w w' w'' : World} {C0 C1 : Array Value} {W E G S : Nat} {dv gv : Value} {R : List Int} {F : Int} (h : LM w w' C0 C1 W E G S dv gv R F) (hb : Below w'.heap.size w' w'') : LM w w'' C0 C1 W E G S dv gv R F :=
  h.keep hb.os hb.tape hb.output hb.size (fun k hk _ => hb.block k hk)
theorem LM.ch {w w' w'' : World} {C0 C1 : Array Value} {W E G S B U : Nat} {dv gv : Value} {R : List Int} {F : Int} (h : LM w w' C0 C1 W E G S dv gv R F) (hc : Ch B U w' w'') (hB : E ≤ B) (hU : U ≤ S) : LM w w'' C0 C1 W E G S dv gv R F :=
  h.keep hc.os hc.tape hc.output hc.size (fun k hk hor => hc.block k hk (by omega))
theorem LM.gat {w w' : World} {C0 C1 : Array Value} {W E G S : Nat} {dv gv : Value} {R : List Int} {F : Int} (h : LM w w' C0 C1 W E G S dv gv R F) : DMine S G w' (.agg #[gv, .slice none 0 0, .int .i64 F, .bool false]) R [] F false := by
  have hGl := (Array.getElem?_eq_some_iff.1 h.bg).1
  rcases h.og with ⟨rfl, rfl⟩ | hO
  · exact DMine.nil _ _ _ h.hG.1 (by omega) _ _
  · obtain ⟨g, c, rfl, hb, hg, hc, hA, hOp⟩ := hO.at_
    exact ⟨_, c, none, 0, G, rfl, hA, hOp, fun ad e => by cases e; exact ⟨hb, h.hgv _ rfl⟩, h.hG.1, Nat.le_refl _, by omega, .inl rfl, hc⟩

/-- The copies handed in stand too. -/
structure LG (w w' : World) (C0 C1 : Array Value) (W E G S X0 X1 Bx Ux Bc : Nat) (dv gv : Value) (R : List Int) (F : Int) (xd : Array Value) (zs : List Int) (ps : List PD) (f : Int) (d : Bool) (xa : Option Addr) (xc : Nat) (bs : List Bool) (t u : Int) : Prop where
  lm : LM w w' C0 C1 W E G S dv gv R F
  bx : w'.heap[X0]? = some (.cells xd 69 (0, 0))
  dx : DMine Bx Ux w' (.agg xd) zs ps f d
  bc : w'.heap[X1]? = some (.cells #[.slice xa bs.length xc, .int .i64 t, .int .i64 u] 72 (0, 0))
  dc : BMine Bc w' xa bs
  hord : E ≤ Bx ∧ Ux ≤ X0 ∧ X0 < Bc ∧ Bc ≤ X1 ∧ X1 < S
  hxa : ∀ ad, xa = some ad → Bc ≤ ad.block ∧ ad.block < X1
theorem LG.grow {w w' w'' : World} {C0 C1 : Array Value} {W E G S X0 X1 Bx Ux Bc : Nat} {dv gv : Value} {R : List Int} {F : Int} {xd : Array Value} {zs : List Int} {ps : List PD} {f : Int} {d : Bool} {xa : Option Addr} {xc : Nat} {bs : List Bool} {t u : Int}
    (h : LG w w' C0 C1 W E G S X0 X1 Bx Ux Bc dv gv R F xd zs ps f d xa xc bs t u) (hb : Below w'.heap.size w' w'') : LG w w'' C0 C1 W E G S X0 X1 Bx Ux Bc dv gv R F xd zs ps f d xa xc bs t u :=
  ⟨h.lm.grow hb, by rw [hb.block _ (Array.getElem?_eq_some_iff.1 h.bx).1]; exact h.bx, h.dx.below hb, by rw [hb.block _ (Array.getElem?_eq_some_iff.1 h.bc).1]; exact h.bc, h.dc.below hb, h.hord, h.hxa⟩

def G8 (S : Nat) (vd vc : Value) (zs : List Int) (ps : List PD) (f : Int) (d : Bool) (bs : List Bool) (t u : Int) (R : List Int) (F : Int) : Nat → World → Value → Prop
  | 0, _, v => v = vd
  | 1, w, v => ∃ B U, DMine B U w v zs ps f d
  | 2, _, v => v = vc
  | 3, w, v => CAt w v bs t u
  | 4, w, v => DPl w S v R F
  | _, w, v => ∃ W, v = .pointer (some ⟨W, 0, none⟩) ∧ S ≤ W ∧ w.heap[W]? = some (.cells #[.slice none 0 0, .slice none 0 0, .int .i64 0, .bool false] 69 (0, 0))
theorem G8_mono (S : Nat) (vd vc : Value) (zs : List Int) (ps : List PD) (f : Int) (d : Bool) (bs : List Bool) (t u : Int) (R : List Int) (F : Int) (i : Nat) (w w' : World) (v : Value) (hm : Below w.heap.size w w') (h : G8 S vd vc zs ps f d bs t u R F i w v) : G8 S vd vc zs ps f d bs t u R F i w' v := by
  unfold G8 at *
  split at h
  · exact h
  · obtain ⟨B, U, h⟩ := h; exact ⟨B, U, h.below hm⟩
  · exact h
  · exact h.below hm
  · obtain ⟨dv, e, h⟩ := h; exact ⟨dv, e, h.keep (fun k hk => hm.block k (h.lt k hk).2.1)⟩
  · obtain ⟨W, e, h1, h2⟩ := h; exact ⟨W, e, h1, by rw [hm.block _ (Array.getElem?_eq_some_iff.1 h2).1]; exact h2⟩
def G16 (bs : List Bool) (t u : Int) (x arg : Value) : Nat → World → Value → Prop
  | 0, _, v => v = x
  | 1, _, v => v = arg
  | 2, w, v => CAt w v bs t u
  | 3, _, v => v = .bool true
  | _, _, v => v = .bool false
theorem G16_mono (bs : List Bool) (t u : Int) (x arg : Value) (i : Nat) (w w' : World) (v : Value) (hm : Below w.heap.size w w') (h : G16 bs t u x arg i w v) : G16 bs t u x arg i w' v := by
  unfold G16 at *
  split at h <;> first | exact h | exact h.below hm
theorem G10_mono' (zs : List Int) (ps : List PD) (f : Int) (d : Bool) (x arg : Value) (i : Nat) (w w' : World) (v : Value) (hm : Below w.heap.size w w') (h : G10 zs ps f d x arg i w v) : G10 zs ps f d x arg i w' v := by
  unfold G10 at *
  split at h <;> first | exact h | exact DAt.below h hm
/-- A value of this kind is a slice. -/
theorem OwnN.sl {w : World} {B : Nat} {v : Value} {z : List Int} (h : OwnN w B v z) : ∃ a c, v = .slice a z.length c := by
  rcases h with ⟨rfl, rfl⟩ | h
  · exact ⟨none, 0, rfl⟩
  · obtain ⟨g, c, rfl, _⟩ := h.base; exact ⟨_, c, rfl⟩

set_option maxHeartbeats 4000000 in
set_option maxRecDepth 100000 in
theorem walk (a : Option Addr) (n cap : Nat) (a' : Option Addr) (n' cap' : Nat) (zs : List Int) (ps : List PD) (f : Int) (d : Bool) (y : Option Addr) (q cy : Nat) (bs : List Bool) (t u : Int) (w : World) (hn : zs.length = n) (hn' : ps.length = n') (hm : n ≤ 9223372036854775807) (hm' : n' ≤ 9223372036854775807) (ha : At .u8 w a zs) (ha' : PAt w a' ps) (hps : ∀ i, (ps.getD i (0, [])).2.length ≤ 9223372036854775807)
    (hq : bs.length = q) (hq' : q ≤ 9223372036854775807) (hy : BAt w y bs) :
    Calls Try.prog 5 #[.agg #[.slice a n cap, .slice a' n' cap', .int .i64 f, .bool d], .agg #[.slice y q cy, .int .i64 t, .int .i64 u]] w fun e w' => e = .returned (.bool true) ∧ Below w.heap.size w w' := by
  have HZ : Hid (∀ left n, szR left n = if left < n then -1 else left - n) := fun _ _ => rfl
  have HSD : Hid _ := Try.sizeDv
  have HSC : Hid _ := Try.sizeCr
  have HS0 : Hid (LS w _ #[.slice a n cap, .slice a' n' cap', .int .i64 f, .bool d] #[.slice y q cy, .int .i64 t, .int .i64 u]) := LS.start w #[.slice a n cap, .slice a' n' cap', .int .i64 f, .bool d] #[.slice y q cy, .int .i64 t, .int .i64 u]
  go_enter Try.func5, Try.ntmps5
  go_wp2_with fail
  refine (szD_any a n cap a' n' cap' ps f d 1048576 _ hn' (by decide) (by decide) hm hm' (ha'.below HS0.out.below) hps).mono ?_
  rintro e w1 ⟨rfl, hb1⟩
  have st1 := LS.grow HS0.out hb1
  clear HS0 hb1
  by_cases hbig : (1048576 : Int) < ((n + (n' + pSum ps) : Nat) : Int)
  · have hr : szR 1048576 (n + (n' + pSum ps)) = -1 := by rw [HZ.out, if_pos hbig]
    rw [hr]
    have HB1 : Hid _ := st1.below
    clear st1
    go_wp2
    go_ret
    exact ⟨rfl, HB1.out⟩
  have hr : szR 1048576 (n + (n' + pSum ps)) = 1048576 - ((n + (n' + pSum ps) : Nat) : Int) := by rw [HZ.out, if_neg hbig]
  have hnb : n ≤ 1048576 := by omega
  have hnb' : n' ≤ 1048576 := by omega
  have hsum : n + n' + pSum ps ≤ 1048576 := by omega
  have hpb : ∀ i, (ps.getD i (0, [])).2.length ≤ 1048576 := fun i => by
    by_cases hi : i < ps.length
    · have h1 := pSum_snoc ps i hi
      have h2 := pSum_take ps (i + 1)
      omega
    · rw [List.getD_eq_getElem?_getD, List.getElem?_eq_none (by omega)]; simp
  have hl0 : 0 ≤ szR 1048576 (n + (n' + pSum ps)) := by rw [hr]; omega
  have hl1 : szR 1048576 (n + (n' + pSum ps)) ≤ 1048576 := by rw [hr]; omega
  have hneg : ¬ (szR 1048576 (n + (n' + pSum ps)) < 0) := by omega
  generalize szR 1048576 (n + (n' + pSum ps)) = left at *
  clear hr hbig hm hm' hps
  obtain ⟨k0, k1, k2⟩ := row3 st1.b1
  have HS1 : Hid (LS w w1 #[.slice a n cap, .slice a' n' cap', .int .i64 f, .bool d] #[.slice y q cy, .int .i64 t, .int .i64 u]) := st1
  clear st1
  go_wp2_with fail
  refine (szC_any y q cy t u left _ hl0 hl1 hq').mono ?_
  rintro e w2 ⟨rfl, hb2⟩
  have st2 := LS.grow HS1.out hb2
  clear HS1 hb2 k0 k1 k2
  by_cases hbig : left < (q : Int)
  · have hr : szR left q = -1 := by rw [HZ.out, if_pos hbig]
    rw [hr]
    have HB1 : Hid _ := st2.below
    clear st2
    go_wp2
    go_ret
    exact ⟨rfl, HB1.out⟩
  have hr : szR left q = left - (q : Int) := by rw [HZ.out, if_neg hbig]
  have hqb : q ≤ 1048576 := by omega
  have hneg2 : ¬ (szR left q < 0) := by rw [hr]; omega
  generalize szR left q = left2 at *
  clear hr hbig hq' HZ
  have HS2 : Hid (LS w w2 #[.slice a n cap, .slice a' n' cap', .int .i64 f, .bool d] #[.slice y q cy, .int .i64 t, .int .i64 u]) := st2
  clear st2
  have hRl : (crZ zs ps f bs t u).length ≤ 1048576 := by have := crZ_le zs ps f bs t u; omega
  have HSCR : Hid (∀ (v vc : Value) (B U : Nat) (ww : World), DMine B U ww v zs ps f d → CAt ww vc bs t u → Calls Try.prog 23 #[v, vc] ww fun e w' => ∃ r, e = .returned r ∧ DPl w' ww.heap.size r (crZ zs ps f bs t u) (crF zs.length ps f) ∧ Below ww.heap.size ww w') := fun v vc B U ww h1 h2 => scr_any v vc zs ps f d bs t u B U ww h1 h2 (by omega) (by omega) hpb (by omega)
  have HICR : Hid (∀ (v vc : Value) (ww : World), DAt ww v zs ps f d → CAt ww vc bs t u → Calls Try.prog 26 #[v, vc] ww fun e w' => ∃ r, e = .returned r ∧ DPl w' ww.heap.size r (crZ zs ps f bs t u) (crF zs.length ps f) ∧ Below ww.heap.size ww w') := fun v vc ww h1 h2 => icr_any v vc zs ps f d bs t u ww h1 h2 (by omega) (by omega) hpb (by omega)
  obtain ⟨R, hR⟩ : ∃ R, crZ zs ps f bs t u = R := ⟨_, rfl⟩
  obtain ⟨F, hF⟩ : ∃ F, crF zs.length ps f = F := ⟨_, rfl⟩
  rw [hR, hF] at HSCR HICR
  rw [hR] at hRl
  clear hR hF
  have HTOD : Hid (∀ ww : World, Below w.heap.size w ww → Calls Try.prog 24 #[.agg #[.slice a n cap, .slice a' n' cap', .int .i64 f, .bool d]] ww fun e w' => ∃ v, e = .returned v ∧ DMine ww.heap.size w'.heap.size w' v zs ps f d ∧ Below ww.heap.size ww w') := fun ww hb => toD_any a n cap a' n' cap' zs ps f d ww hn hn' hnb hnb' (ha.below hb) (ha'.below hb) hpb
  have HTOC : Hid (∀ ww : World, Below w.heap.size w ww → Calls Try.prog 25 #[.agg #[.slice y q cy, .int .i64 t, .int .i64 u]] ww fun e w' => ∃ v, e = .returned v ∧ CMine ww.heap.size w' v bs t u ∧ Below ww.heap.size ww w') := fun ww hb => toC_any y q cy bs t u ww hq hqb (hy.below hb)
  have hzb : zs.length ≤ 1048576 := by omega
  have hpsb : ps.length ≤ 1048576 := by omega
  have hbsb : bs.length ≤ 1048576 := by omega
  have hsumb : zs.length + ps.length + pSum ps ≤ 1048576 := by omega
  clear ha ha' hy hneg hl0 hl1 hn hn' hq
  go_wp2_with fail
  refine wp_region_any (by kernel_rfl) ?_
  refine wpAny_slotsL 6 (fun w w' => Below w.heap.size w w') (frame := (fun (c0 c1 c2 c3 c4 c5 c7 c8 c9 c10 c11 c12 c13 c14 c15 c16 c17 c18 c19 c20 c21 c22 c23 c29 c30 c31 c32 c33 c34 c35 c36 c37 c38 c39 c40 c41 c42 c43 c44 c45 c46 c47 c48 c49 c50 c51 c52 c53 c54 c55 c56 c57 c58 c59 c60 c61 c62 c63 c64 c65 c66 c67 c68 c69 c70 c71 c72 c73 c74 c75 c76 c77 c78 c79 c80 c81 c82 c83 : Value) => fun (t : Nat → Value) => ({ tmps := List.toArray (c0 :: c1 :: c2 :: c3 :: c4 :: c5 :: t 5 :: c7 :: c8 :: c9 :: c10 :: c11 :: c12 :: c13 :: c14 :: c15 :: c16 :: c17 :: c18 :: c19 :: c20 :: c21 :: c22 :: c23 :: t 0 :: t 1 :: t 2 :: t 3 :: t 4 :: c29 :: c30 :: c31 :: c32 :: c33 :: c34 :: c35 :: c36 :: c37 :: c38 :: c39 :: c40 :: c41 :: c42 :: c43 :: c44 :: c45 :: c46 :: c47 :: c48 :: c49 :: c50 :: c51 :: c52 :: c53 :: c54 :: c55 :: c56 :: c57 :: c58 :: c59 :: c60 :: c61 :: c62 :: c63 :: c64 :: c65 :: c66 :: c67 :: c68 :: c69 :: c70 :: c71 :: c72 :: c73 :: c74 :: c75 :: c76 :: c77 :: c78 :: c79 :: c80 :: c81 :: c82 :: c83 :: []), defers := [] } : Act)) _ _ _ _ _ _ _ _ _ _ _ _ _ _ _ _ _ _ _ _ _ _ _ _ _ _ _ _ _ _ _ _ _ _ _ _ _ _ _ _ _ _ _ _ _ _ _ _ _ _ _ _ _ _ _ _ _ _ _ _ _ _ _ _ _ _ _ _ _ _ _ _ _ _ _ _ _ _)
    (Ext := fun w' => LS w w' #[.slice a n cap, .slice a' n' cap', .int .i64 f, .bool d] #[.slice y q cy, .int .i64 t, .int .i64 u] ∧ Below w2.heap.size w2 w') (Good := G8 w2.heap.size (.agg #[.slice a n cap, .slice a' n' cap', .int .i64 f, .bool d]) (.agg #[.slice y q cy, .int .i64 t, .int .i64 u]) zs ps f d bs t u R F) (by rfl) (by kernel_rfl) (G8_mono _ _ _ _ _ _ _ _ _ _ _ _) (by kernel_rfl) (by kernel_rfl) ?hop ?hend _ _ ((fun (x0 x1 x2 x3 x4 x5 : Value) => fun (i : Nat) => if i = 0 then x0 else if i = 1 then x1 else if i = 2 then x2 else if i = 3 then x3 else if i = 4 then x4 else if i = 5 then x5 else undef) _ _ _ _ _ _) _ (by simp) (by simp) ?ext ?start (by simp)
  case start => intro i hi h; exact absurd h (by rw [Array.getD_eq_getD_getElem?, Array.getElem?_replicate]; split <;> simp)
  case ext => exact ⟨LS.grow HS2.out (Below.refl _ _).drew, (Below.refl _ _).drew⟩
  case hop =>
    intro i o t0 w' hil ho hx hdep K hK
    obtain ⟨hx, hxb⟩ := hx
    obtain rfl | rfl | rfl | rfl | rfl | rfl : i = 0 ∨ i = 1 ∨ i = 2 ∨ i = 3 ∨ i = 4 ∨ i = 5 := by omega
    all_goals (simp at ho; subst ho)
    · clear hdep
      obtain ⟨q0, q1, q2, q3⟩ := row4 hx.b0
      go_simp
      exact hK w' (.agg #[.slice a n cap, .slice a' n' cap', .int .i64 f, .bool d]) rfl ⟨hx, hxb⟩ (Below.refl _ _)
    · have d0 : t0 0 = _ := hdep ⟨0, .data⟩ (by simp) rfl
      clear hdep
      go_simp
      refine (HTOD.out w' hx.below).mono ?_
      rintro e w9 ⟨v9, rfl, D9, hb9⟩
      go_simp
      simpa [upd, d0] using hK w9 v9 ⟨_, _, D9⟩ ⟨hx.grow hb9, hxb.trans (hb9.mono hxb.size)⟩ hb9
    · clear hdep
      obtain ⟨q0, q1, q2⟩ := row3 hx.b1
      go_simp
      exact hK w' (.agg #[.slice y q cy, .int .i64 t, .int .i64 u]) rfl ⟨hx, hxb⟩ (Below.refl _ _)
    · have d2 : t0 2 = _ := hdep ⟨2, .data⟩ (by simp) rfl
      clear hdep
      go_simp
      refine (HTOC.out w' hx.below).mono ?_
      rintro e w9 ⟨v9, rfl, D9, hb9⟩
      go_simp
      simpa [upd, d2] using hK w9 v9 D9.at_ ⟨hx.grow hb9, hxb.trans (hb9.mono hxb.size)⟩ hb9
    · have d1 := hdep ⟨1, .data⟩ (by simp) rfl
      have d3 := hdep ⟨3, .data⟩ (by simp) rfl
      clear hdep
      obtain ⟨B, U, d1⟩ := d1
      have e := HSCR.out (t0 1) (t0 3) B U w' d1 d3
      clear d1 d3
      go_simp
      refine e.mono ?_
      rintro e w9 ⟨v9, rfl, D9, hb9⟩
      obtain ⟨dv, e9, O9⟩ := D9
      have D9' : DPl w9 w2.heap.size v9 R F := ⟨dv, e9, O9.mono hxb.size⟩
      clear e9 O9
      go_simp
      simpa [upd] using hK w9 v9 D9' ⟨hx.grow hb9, hxb.trans (hb9.mono hxb.size)⟩ hb9
    · clear hdep
      have hb9 := (Below.refl w'.heap.size w').alloc (Nat.le_refl _) (.cells #[.slice none 0 0, .slice none 0 0, .int .i64 0, .bool false] 69)
      have hK' := hK (w'.alloc (.cells #[.slice none 0 0, .slice none 0 0, .int .i64 0, .bool false] 69)) (.pointer (some ⟨w'.heap.size, 0, none⟩)) ⟨w'.heap.size, rfl, hxb.size, heap_alloc_new w' _⟩ ⟨hx.grow hb9, hxb.trans (hb9.mono hxb.size)⟩ hb9
      clear hK
      go_simp
      simpa [upd] using hK'
  case hend =>
    intro o t0 w' ho hx hg K hK
    simp at ho; subst ho
    obtain ⟨hx, hxb⟩ := hx
    obtain ⟨dv, h4, O4⟩ := hg 4 (by decide)
    obtain ⟨W, h5, hW, hbW⟩ := hg 5 (by decide)
    clear hg
    obtain ⟨wa, wc, rfl⟩ := OwnN.sl O4
    have hWl := (Array.getElem?_eq_some_iff.1 hbW).1
    refine wp_store_row 69 (.tmp 6) (.tmp 28) rfl W #[.slice wa R.length wc, .slice none 0 0, .int .i64 F, .bool false] h5 h4 69 _ hbW HSD.out rfl (all4e _ _ _ _ _ _ _ _) ?_
    apply hK
    have hwr := Wr.setRow W w' #[.slice wa R.length wc, .slice none 0 0, .int .i64 F, .bool false]
    have hrow : (w'.setRow W #[.slice wa R.length wc, .slice none 0 0, .int .i64 F, .bool false]).heap[W]? = some (.cells #[.slice wa R.length wc, .slice none 0 0, .int .i64 F, .bool false] 69 (0, 0)) := setRow_heap _ _ _ _ _ _ hbW
    have O5 : OwnN (w'.setRow W #[.slice wa R.length wc, .slice none 0 0, .int .i64 F, .bool false]) 0 (.slice wa R.length wc) R := (O4.keep (fun k e => hwr.block k (fun ek => by
      obtain ⟨_, _, cur, h3⟩ := O4.lt k e
      rw [ek, hbW] at h3; simp at h3))).mono (Nat.zero_le _)
    have hs2 := hx.sz
    have hsx := hxb.size
    have st3 : LW w (w'.setRow W #[.slice wa R.length wc, .slice none 0 0, .int .i64 F, .bool false]) #[.slice a n cap, .slice a' n' cap', .int .i64 f, .bool d] #[.slice y q cy, .int .i64 t, .int .i64 u] W w'.heap.size (.slice wa R.length wc) R F :=
      ⟨hx.keep hwr.os hwr.tape hwr.output (by rw [hwr.size]; exact Nat.le_refl _) (fun k hk => hwr.block k (by have := LS.sz HS2.out; omega)), hrow, O5, hWl, fun k e => (O4.lt k e).2.1, by rw [hwr.size]; exact Nat.le_refl _, hs2⟩
    clear hwr hrow O5 O4 hx hxb hbW h4 hK
    generalize (w'.setRow W #[.slice wa R.length wc, .slice none 0 0, .int .i64 F, .bool false]) = w3 at *
    generalize w'.heap.size = E at *
    clear HS2 hs2 hsx
    have HS3 : Hid (LW w w3 #[.slice a n cap, .slice a' n' cap', .int .i64 f, .bool d] #[.slice y q cy, .int .i64 t, .int .i64 u] W E (.slice wa R.length wc) R F) := st3
    obtain ⟨c0, c1, c2, c3⟩ := row4 st3.ls.b0
    clear st3 hW hWl
    go_wp2_with fail
    clear h5
    refine (HTOD.out w3 (LS.below (LW.ls HS3.out))).mono ?_
    rintro e w4 ⟨v4, rfl, D4, hb4⟩
    have st4 := LW.grow HS3.out hb4
    have hE3 := LW.hE HS3.out
    have s34 := hb4.size
    have D4' := D4
    obtain ⟨da, dc, ca, cc, B1, rfl, _⟩ := D4'
    have HS4 : Hid (LW w w4 #[.slice a n cap, .slice a' n' cap', .int .i64 f, .bool d] #[.slice y q cy, .int .i64 t, .int .i64 u] W E (.slice wa R.length wc) R F) := st4
    have HD4 : Hid (DMine w3.heap.size w4.heap.size w4 (.agg #[.slice da zs.length dc, .slice ca ps.length cc, .int .i64 f, .bool d]) zs ps f d) := D4
    clear st4 D4 hb4 HS3 c0 c1 c2 c3
    go_wp2_with (refine wpList_storeW rfl 69 (.tmp 7) (.tmp 30) rfl w4.heap.size #[.slice da zs.length dc, .slice ca ps.length cc, .int .i64 f, .bool d] rfl rfl 69 _ (heap_alloc_new w4 _) HSD.out rfl (all4e _ _ _ _ _ _ _ _) ?_)
    intro w5 hr5 hw5
    have hb5 : Below w4.heap.size w4 w5 := ((Below.refl _ _).alloc (Nat.le_refl _) _).trans (hw5.below (Nat.le_refl _))
    have st5 := LW.grow HS4.out hb5
    have D5 := DMine.below HD4.out hb5
    have hX0 : w4.heap.size < w5.heap.size := (Array.getElem?_eq_some_iff.1 hr5).1
    obtain ⟨k0, k1, k2⟩ := row3 st5.ls.b1
    have HS5 : Hid (LW w w5 #[.slice a n cap, .slice a' n' cap', .int .i64 f, .bool d] #[.slice y q cy, .int .i64 t, .int .i64 u] W E (.slice wa R.length wc) R F) := st5
    have HD5 : Hid (DMine w3.heap.size w4.heap.size w5 (.agg #[.slice da zs.length dc, .slice ca ps.length cc, .int .i64 f, .bool d]) zs ps f d) := D5
    have HX5 : Hid (w5.heap[w4.heap.size]? = some (.cells #[.slice da zs.length dc, .slice ca ps.length cc, .int .i64 f, .bool d] 69 (0, 0))) := hr5
    clear st5 D5 hr5 hw5 hb5 HS4 HD4
    generalize w4.heap.size = X0 at *
    generalize w3.heap.size = Bx at *
    go_wp2_with fail
    refine (HTOC.out w5 (LS.below (LW.ls HS5.out))).mono ?_
    rintro e w6 ⟨v6, rfl, C6, hb6⟩
    obtain ⟨xa, xc, rfl, M6⟩ := C6
    have st6 := LW.grow HS5.out hb6
    have D6 := DMine.below HD5.out hb6
    have s56 := hb6.size
    have hxa := M6.2.2
    have HXA : Hid (∀ ad, xa = some ad → w5.heap.size ≤ ad.block ∧ ad.block < w6.heap.size) := hxa
    have HS6 : Hid (LW w w6 #[.slice a n cap, .slice a' n' cap', .int .i64 f, .bool d] #[.slice y q cy, .int .i64 t, .int .i64 u] W E (.slice wa R.length wc) R F) := st6
    have HD6 : Hid (DMine Bx X0 w6 (.agg #[.slice da zs.length dc, .slice ca ps.length cc, .int .i64 f, .bool d]) zs ps f d) := D6
    have HX6 : Hid (w6.heap[X0]? = some (.cells #[.slice da zs.length dc, .slice ca ps.length cc, .int .i64 f, .bool d] 69 (0, 0))) := by unfold Hid; rw [hb6.block _ hX0]; exact HX5.out
    have HM6 : Hid (BMine w5.heap.size w6 xa bs) := M6
    clear st6 D6 M6 hb6 HS5 HD5 HX5 k0 k1 k2 hxa
    go_wp2_with (refine wpList_storeW rfl 72 (.tmp 8) (.tmp 32) rfl w6.heap.size #[.slice xa bs.length xc, .int .i64 t, .int .i64 u] rfl rfl 72 _ (heap_alloc_new w6 _) HSC.out rfl (all3c _ _ _ _ _) ?_)
    intro w7 hr7 hw7
    have hb7 : Below w6.heap.size w6 w7 := ((Below.refl _ _).alloc (Nat.le_refl _) _).trans (hw7.below (Nat.le_refl _))
    have st7 := LW.grow HS6.out hb7
    have D7 := DMine.below HD6.out hb7
    have M7 := BMine.below HM6.out hb7
    have hX1 : w6.heap.size < w7.heap.size := (Array.getElem?_eq_some_iff.1 hr7).1
    have x7 : w7.heap[X0]? = some (.cells #[.slice da zs.length dc, .slice ca ps.length cc, .int .i64 f, .bool d] 69 (0, 0)) := by rw [hb7.block _ (by omega)]; exact HX6.out
    obtain ⟨c0, c1, c2, c3⟩ := row4 x7
    obtain ⟨k0, k1, k2⟩ := row3 hr7
    have HS7 : Hid (LW w w7 #[.slice a n cap, .slice a' n' cap', .int .i64 f, .bool d] #[.slice y q cy, .int .i64 t, .int .i64 u] W E (.slice wa R.length wc) R F) := st7
    have HD7 : Hid (DMine Bx X0 w7 (.agg #[.slice da zs.length dc, .slice ca ps.length cc, .int .i64 f, .bool d]) zs ps f d) := D7
    have HX7 : Hid (w7.heap[X0]? = some (.cells #[.slice da zs.length dc, .slice ca ps.length cc, .int .i64 f, .bool d] 69 (0, 0))) := x7
    have HC7 : Hid (w7.heap[w6.heap.size]? = some (.cells #[.slice xa bs.length xc, .int .i64 t, .int .i64 u] 72 (0, 0))) := hr7
    have HM7 : Hid (BMine w5.heap.size w7 xa bs) := M7
    clear st7 D7 M7 hr7 hw7 hb7 HS6 HD6 HX6 HM6 x7
    generalize w6.heap.size = X1 at *
    generalize w5.heap.size = Bc at *
    go_wp2_with fail
    refine (HICR.out _ _ w7 (DMine.at_ HD7.out) ⟨xa, xc, rfl, (show BMine _ _ _ _ from HM7.out).1⟩).mono ?_
    rintro e w8 ⟨v8, rfl, G8', hb8⟩
    obtain ⟨gv, rfl, O8⟩ := G8'
    obtain ⟨ga, gc, rfl⟩ := OwnN.sl O8
    have s78 := hb8.size
    have st8 := LW.grow HS7.out hb8
    have hE7 := LW.hE HS7.out
    have HS8 : Hid (LW w w8 #[.slice a n cap, .slice a' n' cap', .int .i64 f, .bool d] #[.slice y q cy, .int .i64 t, .int .i64 u] W E (.slice wa R.length wc) R F) := st8
    have HD8 : Hid (DMine Bx X0 w8 (.agg #[.slice da zs.length dc, .slice ca ps.length cc, .int .i64 f, .bool d]) zs ps f d) := DMine.below HD7.out hb8
    have HX8 : Hid (w8.heap[X0]? = some (.cells #[.slice da zs.length dc, .slice ca ps.length cc, .int .i64 f, .bool d] 69 (0, 0))) := by unfold Hid; rw [hb8.block _ (by omega)]; exact HX7.out
    have HC8 : Hid (w8.heap[X1]? = some (.cells #[.slice xa bs.length xc, .int .i64 t, .int .i64 u] 72 (0, 0))) := by unfold Hid; rw [hb8.block _ hX1]; exact HC7.out
    have HM8 : Hid (BMine Bc w8 xa bs) := BMine.below HM7.out hb8
    have HO8 : Hid (OwnN w8 w7.heap.size (.slice ga R.length gc) R) := O8
    clear st8 O8 hb8 HS7 HD7 HX7 HC7 HM7 c0 c1 c2 c3 k0 k1 k2
    go_wp2_with (refine wpList_storeW rfl 69 (.tmp 9) (.tmp 35) rfl w8.heap.size #[.slice ga R.length gc, .slice none 0 0, .int .i64 F, .bool false] rfl rfl 69 _ (heap_alloc_new w8 _) HSD.out rfl (all4e _ _ _ _ _ _ _ _) ?_)
    intro w9 hr9 hw9
    have hb9 : Below w8.heap.size w8 w9 := ((Below.refl _ _).alloc (Nat.le_refl _) _).trans (hw9.below (Nat.le_refl _))
    have st9 : LG w w9 #[.slice a n cap, .slice a' n' cap', .int .i64 f, .bool d] #[.slice y q cy, .int .i64 t, .int .i64 u] W E w8.heap.size w7.heap.size X0 X1 Bx X0 Bc (.slice wa R.length wc) (.slice ga R.length gc) R F #[.slice da zs.length dc, .slice ca ps.length cc, .int .i64 f, .bool d] zs ps f d xa xc bs t u :=
      ⟨⟨LW.grow HS8.out hb9, hr9, OwnN.keep HO8.out (fun k e => hb9.block k (OwnN.lt HO8.out k e).2.1), ⟨s78, by omega⟩, fun k e => (OwnN.lt HO8.out k e).2.1⟩,
        by rw [hb9.block _ (by omega)]; exact HX8.out, DMine.below HD8.out hb9, by rw [hb9.block _ (by omega)]; exact HC8.out, BMine.below HM8.out hb9, by omega, HXA.out⟩
    clear hr9 hw9 hb9 HS8 HD8 HX8 HC8 HM8 HO8 HXA
    generalize w8.heap.size = G at *
    generalize w7.heap.size = S at *
    have hlen0 : ∀ i, (([] : List PD).getD i (0, [])).2.length ≤ 1048576 := fun i => by simp
    have HL0 : Hid _ := hlen0
    clear hlen0
    have hord := st9.hord
    have hGS := st9.lm.hG
    obtain ⟨c0, c1, c2, c3⟩ := row4 st9.lm.bg
    obtain ⟨k0, k1, k2, k3⟩ := row4 st9.lm.lw.bw
    have HS9 : Hid (LG w w9 #[.slice a n cap, .slice a' n' cap', .int .i64 f, .bool d] #[.slice y q cy, .int .i64 t, .int .i64 u] W E G S X0 X1 Bx X0 Bc (.slice wa R.length wc) (.slice ga R.length gc) R F #[.slice da zs.length dc, .slice ca ps.length cc, .int .i64 f, .bool d] zs ps f d xa xc bs t u) := st9
    clear st9
    go_wp2_with fail
    refine (eqD_any _ _ R [] F false w9 (LM.gat (LG.lm HS9.out)).at_ (LW.dat (LM.lw (LG.lm HS9.out))) hRl (by simp) HL0.out).mono ?_
    rintro e w10 ⟨rfl, hb10⟩
    have HS10 : Hid (LG w w10 #[.slice a n cap, .slice a' n' cap', .int .i64 f, .bool d] #[.slice y q cy, .int .i64 t, .int .i64 u] W E G S X0 X1 Bx X0 Bc (.slice wa R.length wc) (.slice ga R.length gc) R F #[.slice da zs.length dc, .slice ca ps.length cc, .int .i64 f, .bool d] zs ps f d xa xc bs t u) := LG.grow HS9.out hb10
    clear hb10 HS9 c0 c1 c2 c3 k0 k1 k2 k3
    go_wp2_with fail
    refine wp_region_any (by kernel_rfl) ?_
    refine wpAny_slotsM (fun w w' => Below w.heap.size w w') (frame := (fun (c0 c1 c2 c3 c4 c5 c6 c7 c8 c9 c10 c11 c12 c13 c14 c15 c16 c17 c18 c19 c20 c21 c22 c23 c24 c25 c26 c27 c28 c29 c30 c31 c32 c33 c34 c35 c36 c37 c38 c39 c45 c46 c47 c48 c49 c50 c51 c52 c53 c54 c55 c56 c57 c58 c59 c60 c61 c62 c63 c64 c65 c66 c67 c68 c69 c70 c71 c72 c73 c74 c75 c76 c77 c78 c79 c80 c81 c82 c83 : Value) => fun (t : Nat → Value) => ({ tmps := List.toArray (c0 :: c1 :: c2 :: c3 :: c4 :: c5 :: c6 :: c7 :: c8 :: c9 :: c10 :: c11 :: c12 :: c13 :: c14 :: c15 :: c16 :: c17 :: c18 :: c19 :: c20 :: c21 :: c22 :: c23 :: c24 :: c25 :: c26 :: c27 :: c28 :: c29 :: c30 :: c31 :: c32 :: c33 :: c34 :: c35 :: c36 :: c37 :: c38 :: c39 :: t 0 :: t 1 :: t 2 :: t 3 :: t 4 :: c45 :: c46 :: c47 :: c48 :: c49 :: c50 :: c51 :: c52 :: c53 :: c54 :: c55 :: c56 :: c57 :: c58 :: c59 :: c60 :: c61 :: c62 :: c63 :: c64 :: c65 :: c66 :: c67 :: c68 :: c69 :: c70 :: c71 :: c72 :: c73 :: c74 :: c75 :: c76 :: c77 :: c78 :: c79 :: c80 :: c81 :: c82 :: c83 :: []), defers := [] } : Act)) _ _ _ _ _ _ _ _ _ _ _ _ _ _ _ _ _ _ _ _ _ _ _ _ _ _ _ _ _ _ _ _ _ _ _ _ _ _ _ _ _ _ _ _ _ _ _ _ _ _ _ _ _ _ _ _ _ _ _ _ _ _ _ _ _ _ _ _ _ _ _ _ _ _ _ _ _ _ _)
      (Ext := fun w' => LG w w' #[.slice a n cap, .slice a' n' cap', .int .i64 f, .bool d] #[.slice y q cy, .int .i64 t, .int .i64 u] W E G S X0 X1 Bx X0 Bc (.slice wa R.length wc) (.slice ga R.length gc) R F #[.slice da zs.length dc, .slice ca ps.length cc, .int .i64 f, .bool d] zs ps f d xa xc bs t u) (Good := G10 zs ps f d (.agg #[.slice da zs.length dc, .slice ca ps.length cc, .int .i64 f, .bool d]) (.agg #[.slice a n cap, .slice a' n' cap', .int .i64 f, .bool d])) (G10_mono' _ _ _ _ _ _) (by kernel_rfl) (by kernel_rfl) ?hop ?hdone _ _ ((fun (x0 x1 x2 x3 x4 : Value) => fun (i : Nat) => if i = 0 then x0 else if i = 1 then x1 else if i = 2 then x2 else if i = 3 then x3 else if i = 4 then x4 else undef) _ _ _ _ _) _ (by simp) ?ext ?start (by simp)
    case start => intro i hi h; exact absurd h (by rw [Array.getD_eq_getD_getElem?, Array.getElem?_replicate]; split <;> simp)
    case ext => exact LG.grow HS10.out (Below.refl _ _).drew
    case hop =>
      intro i o t0 w' ho hx hdep K hK
      have hi : i < 5 := (Array.getElem?_eq_some_iff.1 ho).1
      obtain rfl | rfl | rfl | rfl | rfl : i = 0 ∨ i = 1 ∨ i = 2 ∨ i = 3 ∨ i = 4 := by omega
      all_goals (simp at ho; subst ho)
      · clear hdep
        obtain ⟨q0, q1, q2, q3⟩ := row4 hx.bx
        go_simp
        exact hK w' _ rfl hx (Below.refl _ _)
      · clear hdep
        obtain ⟨q0, q1, q2, q3⟩ := row4 hx.lm.lw.ls.b0
        go_simp
        exact hK w' _ rfl hx (Below.refl _ _)
      · have d1 : t0 1 = _ := hdep ⟨1, .data⟩ (by simp) rfl
        clear hdep
        go_simp
        refine (HTOD.out w' hx.lm.lw.ls.below).mono ?_
        rintro e w' ⟨v9, rfl, D9, hb9⟩
        have D9' := D9.at_
        go_simp
        simpa [upd, d1] using hK w' v9 D9' (hx.grow hb9) hb9
      · have d0 : t0 0 = _ := hdep ⟨0, .data⟩ (by simp) rfl
        have d2 : DAt w' (t0 2) zs ps f d := hdep ⟨2, .data⟩ (by simp) rfl
        clear hdep
        have e := eqD_any (.agg #[.slice da zs.length dc, .slice ca ps.length cc, .int .i64 f, .bool d]) (t0 2) zs ps f d w' hx.dx.at_ d2 hzb hpsb hpb
        clear d2
        go_simp
        refine e.mono ?_
        rintro e w' ⟨rfl, hb9⟩
        go_simp
        simpa [upd, d0] using hK w' (.bool true) rfl (hx.grow hb9) hb9
      · have d3 : t0 3 = _ := hdep ⟨3, .data⟩ (by simp) rfl
        clear hdep
        go_simp
        simpa [upd, d3] using hK w' (.bool false) rfl hx (Below.refl _ _)
    case hdone =>
    intro t0 w11 hx hg
    have h4 : t0 4 = _ := hg 4 (by decide)
    clear hg
    dsimp only
    rw [h4]
    clear h4
    generalize t0 0 = t00
    generalize t0 1 = t01
    generalize t0 2 = t02
    generalize t0 3 = t03
    have HS11 : Hid (LG w w11 #[.slice a n cap, .slice a' n' cap', .int .i64 f, .bool d] #[.slice y q cy, .int .i64 t, .int .i64 u] W E G S X0 X1 Bx X0 Bc (.slice wa R.length wc) (.slice ga R.length gc) R F #[.slice da zs.length dc, .slice ca ps.length cc, .int .i64 f, .bool d] zs ps f d xa xc bs t u) := hx
    clear hx HS10
    go_wp2_with fail
    refine wp_region_any (by kernel_rfl) ?_
    refine wpAny_slotsM (fun w w' => Below w.heap.size w w') (frame := (fun (c0 c1 c2 c3 c4 c5 c6 c7 c8 c9 c10 c11 c12 c13 c14 c15 c16 c17 c18 c19 c20 c21 c22 c23 c24 c25 c26 c27 c28 c29 c30 c31 c32 c33 c34 c35 c36 c37 c38 c39 c40 c41 c42 c43 c44 c50 c51 c52 c53 c54 c55 c56 c57 c58 c59 c60 c61 c62 c63 c64 c65 c66 c67 c68 c69 c70 c71 c72 c73 c74 c75 c76 c77 c78 c79 c80 c81 c82 c83 : Value) => fun (t : Nat → Value) => ({ tmps := List.toArray (c0 :: c1 :: c2 :: c3 :: c4 :: c5 :: c6 :: c7 :: c8 :: c9 :: c10 :: c11 :: c12 :: c13 :: c14 :: c15 :: c16 :: c17 :: c18 :: c19 :: c20 :: c21 :: c22 :: c23 :: c24 :: c25 :: c26 :: c27 :: c28 :: c29 :: c30 :: c31 :: c32 :: c33 :: c34 :: c35 :: c36 :: c37 :: c38 :: c39 :: c40 :: c41 :: c42 :: c43 :: c44 :: t 0 :: t 1 :: t 2 :: t 3 :: t 4 :: c50 :: c51 :: c52 :: c53 :: c54 :: c55 :: c56 :: c57 :: c58 :: c59 :: c60 :: c61 :: c62 :: c63 :: c64 :: c65 :: c66 :: c67 :: c68 :: c69 :: c70 :: c71 :: c72 :: c73 :: c74 :: c75 :: c76 :: c77 :: c78 :: c79 :: c80 :: c81 :: c82 :: c83 :: []), defers := [] } : Act)) _ _ _ _ _ _ _ _ _ _ _ _ _ _ _ _ _ _ _ _ _ _ _ _ _ _ _ _ _ _ _ _ _ _ _ _ _ _ _ _ _ _ _ _ _ _ _ _ _ _ _ _ _ _ _ _ _ _ _ _ _ _ _ _ _ _ _ _ _ _ _ _ _ _ _ _ _ _ _)
      (Ext := fun w' => LG w w' #[.slice a n cap, .slice a' n' cap', .int .i64 f, .bool d] #[.slice y q cy, .int .i64 t, .int .i64 u] W E G S X0 X1 Bx X0 Bc (.slice wa R.length wc) (.slice ga R.length gc) R F #[.slice da zs.length dc, .slice ca ps.length cc, .int .i64 f, .bool d] zs ps f d xa xc bs t u) (Good := G16 bs t u (.agg #[.slice xa bs.length xc, .int .i64 t, .int .i64 u]) (.agg #[.slice y q cy, .int .i64 t, .int .i64 u])) (G16_mono _ _ _ _ _) (by kernel_rfl) (by kernel_rfl) ?hop ?hdone _ _ ((fun (x0 x1 x2 x3 x4 : Value) => fun (i : Nat) => if i = 0 then x0 else if i = 1 then x1 else if i = 2 then x2 else if i = 3 then x3 else if i = 4 then x4 else undef) _ _ _ _ _) _ (by simp) ?ext ?start (by simp)
    case start => intro i hi h; exact absurd h (by rw [Array.getD_eq_getD_getElem?, Array.getElem?_replicate]; split <;> simp)
    case ext => exact LG.grow HS11.out (Below.refl _ _).drew
    case hop =>
      intro i o t0 w' ho hx hdep K hK
      have hi : i < 5 := (Array.getElem?_eq_some_iff.1 ho).1
      obtain rfl | rfl | rfl | rfl | rfl : i = 0 ∨ i = 1 ∨ i = 2 ∨ i = 3 ∨ i = 4 := by omega
      all_goals (simp at ho; subst ho)
      · clear hdep
        obtain ⟨q0, q1, q2⟩ := row3 hx.bc
        go_simp
        exact hK w' _ rfl hx (Below.refl _ _)
      · clear hdep
        obtain ⟨q0, q1, q2⟩ := row3 hx.lm.lw.ls.b1
        go_simp
        exact hK w' _ rfl hx (Below.refl _ _)
      · have d1 : t0 1 = _ := hdep ⟨1, .data⟩ (by simp) rfl
        clear hdep
        go_simp
        refine (HTOC.out w' hx.lm.lw.ls.below).mono ?_
        rintro e w' ⟨v9, rfl, D9, hb9⟩
        have D9' := D9.at_
        go_simp
        simpa [upd, d1] using hK w' v9 D9' (hx.grow hb9) hb9
      · have d0 : t0 0 = _ := hdep ⟨0, .data⟩ (by simp) rfl
        have d2 : CAt w' (t0 2) bs t u := hdep ⟨2, .data⟩ (by simp) rfl
        clear hdep
        have e := eqC_any (.agg #[.slice xa bs.length xc, .int .i64 t, .int .i64 u]) (t0 2) bs t u w' ⟨xa, xc, rfl, hx.dc.1⟩ d2 hbsb
        clear d2
        go_simp
        refine e.mono ?_
        rintro e w' ⟨rfl, hb9⟩
        go_simp
        simpa [upd, d0] using hK w' (.bool true) rfl (hx.grow hb9) hb9
      · have d3 : t0 3 = _ := hdep ⟨3, .data⟩ (by simp) rfl
        clear hdep
        go_simp
        simpa [upd, d3] using hK w' (.bool false) rfl hx (Below.refl _ _)
    case hdone =>
    intro t0 w12 hx hg
    have h4 : t0 4 = _ := hg 4 (by decide)
    clear hg
    dsimp only
    rw [h4]
    clear h4
    generalize t0 0 = t00
    generalize t0 1 = t01
    generalize t0 2 = t02
    generalize t0 3 = t03
    obtain ⟨c0, c1, c2, c3⟩ := row4 hx.bx
    have HS12 : Hid (LG w w12 #[.slice a n cap, .slice a' n' cap', .int .i64 f, .bool d] #[.slice y q cy, .int .i64 t, .int .i64 u] W E G S X0 X1 Bx X0 Bc (.slice wa R.length wc) (.slice ga R.length gc) R F #[.slice da zs.length dc, .slice ca ps.length cc, .int .i64 f, .bool d] zs ps f d xa xc bs t u) := hx
    clear hx HS11
    go_wp2_with fail
    refine (markD_any (.agg #[.slice da zs.length dc, .slice ca ps.length cc, .int .i64 f, .bool d]) zs ps f d 1 Bx X0 w12 (LG.dx HS12.out) (by decide) (by omega)).mono ?_
    rintro e w13 ⟨rfl, _, hc13⟩
    have hkk : (0 : Int) ≤ 1 + zs.length + ps.length + pSum ps := by omega
    have hkk2 : (1 + (zs.length : Int) + ps.length + pSum ps) + bs.length ≤ 1099511627776 := by omega
    generalize (1 + (zs.length : Int) + ps.length + pSum ps) = kk at *
    have lm13 := LM.ch (LG.lm HS12.out) hc13 (by omega) (by omega)
    have hX1l : X1 < w12.heap.size := (Array.getElem?_eq_some_iff.1 (LG.bc HS12.out)).1
    have bc13 : w13.heap[X1]? = some (.cells #[.slice xa bs.length xc, .int .i64 t, .int .i64 u] 72 (0, 0)) := by rw [hc13.block _ hX1l (.inr (by omega))]; exact LG.bc HS12.out
    have dc13 : BMine Bc w13 xa bs := BMine.keep (LG.dc HS12.out) (fun ad e => by have := LG.hxa HS12.out ad e; exact hc13.block _ (by omega) (.inr (by omega))) hc13.size
    obtain ⟨k0, k1, k2⟩ := row3 bc13
    have HM13 : Hid (LM w w13 #[.slice a n cap, .slice a' n' cap', .int .i64 f, .bool d] #[.slice y q cy, .int .i64 t, .int .i64 u] W E G S (.slice wa R.length wc) (.slice ga R.length gc) R F) := lm13
    have HB13 : Hid (BMine Bc w13 xa bs) := dc13
    have HXA : Hid (∀ ad, xa = some ad → Bc ≤ ad.block ∧ ad.block < X1) := LG.hxa HS12.out
    clear lm13 bc13 dc13 hc13 HS12 c0 c1 c2 c3
    go_wp2_with fail
    refine (markC_any xa xc bs t u kk Bc w13 HB13.out hkk (by omega)).mono ?_
    rintro e w14 ⟨rfl, ho14, ht14, hu14, hs14, hk14⟩
    have lm14 : LM w w14 #[.slice a n cap, .slice a' n' cap', .int .i64 f, .bool d] #[.slice y q cy, .int .i64 t, .int .i64 u] W E G S (.slice wa R.length wc) (.slice ga R.length gc) R F := LM.keep HM13.out ho14 ht14 hu14 hs14 (fun k hk hor => hk14 k hk (fun ad e => by have := HXA.out ad e; omega))
    have hkn : ¬ (kk + (bs.length : Int)) < 0 := by omega
    have hkn' : decide (kk + (bs.length : Int) < 0) = false := by simpa using hkn
    obtain ⟨c0, c1, c2, c3⟩ := row4 lm14.bg
    obtain ⟨g0, g1, g2, g3⟩ := row4 lm14.lw.bw
    have HM14 : Hid (LM w w14 #[.slice a n cap, .slice a' n' cap', .int .i64 f, .bool d] #[.slice y q cy, .int .i64 t, .int .i64 u] W E G S (.slice wa R.length wc) (.slice ga R.length gc) R F) := lm14
    clear lm14 ho14 ht14 hu14 hs14 hk14 HM13 HB13 HXA k0 k1 k2
    generalize kk + (bs.length : Int) = k9 at *
    go_wp2_with fail
    refine (eqD_any _ _ R [] F false w14 (LM.gat HM14.out).at_ (LW.dat (LM.lw HM14.out)) hRl (by simp) HL0.out).mono ?_
    rintro e w15 ⟨rfl, hb15⟩
    have lm15 := LM.grow HM14.out hb15
    obtain ⟨h0, h1, h2, h3⟩ := row4 lm15.bg
    have HM15 : Hid (LM w w15 #[.slice a n cap, .slice a' n' cap', .int .i64 f, .bool d] #[.slice y q cy, .int .i64 t, .int .i64 u] W E G S (.slice wa R.length wc) (.slice ga R.length gc) R F) := lm15
    clear lm15 hb15 HM14 c0 c1 c2 c3 g0 g1 g2 g3
    go_wp2_with fail
    refine (markD_any _ R [] F false 1 S G w15 (LM.gat HM15.out) (by decide) (by simp [pSum]; omega)).mono ?_
    rintro e w16 ⟨rfl, D16, hc16⟩
    have lw16 : LW w w16 #[.slice a n cap, .slice a' n' cap', .int .i64 f, .bool d] #[.slice y q cy, .int .i64 t, .int .i64 u] W E (.slice wa R.length wc) R F := LW.keep (LM.lw HM15.out) hc16.os hc16.tape hc16.output hc16.size (fun k hk => hc16.block k (by have := (LM.lw HM15.out).hE; omega) (.inl (by omega)))
    have bg16 : w16.heap[G]? = some (.cells #[.slice ga R.length gc, .slice none 0 0, .int .i64 F, .bool false] 69 (0, 0)) := by rw [hc16.block _ (Array.getElem?_eq_some_iff.1 (LM.bg HM15.out)).1 (.inr (Nat.le_refl _))]; exact LM.bg HM15.out
    obtain ⟨c0, c1, c2, c3⟩ := row4 bg16
    have HW16 : Hid (LW w w16 #[.slice a n cap, .slice a' n' cap', .int .i64 f, .bool d] #[.slice y q cy, .int .i64 t, .int .i64 u] W E (.slice wa R.length wc) R F) := lw16
    have HD16 : Hid (DAt w16 (.agg #[.slice ga R.length gc, .slice none 0 0, .int .i64 F, .bool false]) (marks 1 R.length) (pmarks (1 + R.length) []) F false) := D16
    clear lw16 bg16 D16 hc16 HM15 h0 h1 h2 h3
    have hm0 : (0 : Int) ≤ 1 + R.length + ([] : List PD).length + pSum [] := by simp [pSum]; omega
    have HHELD := heldD_any (.agg #[.slice ga R.length gc, .slice none 0 0, .int .i64 F, .bool false]) R [] F false 1 w16 HD16.out (by decide) (by simp [pSum]; omega)
    generalize (1 + (R.length : Int) + (([] : List PD).length : Int) + (pSum [] : Int)) = mm at *
    have HHELD' : Hid (Calls Try.prog 31 #[.agg #[.slice ga R.length gc, .slice none 0 0, .int .i64 F, .bool false], .int .i64 1] w16 fun e w' => e = .returned (.int .i64 mm) ∧ Below w16.heap.size w16 w') := HHELD
    clear HHELD
    go_wp2_with fail
    refine (HHELD'.out).mono ?_
    rintro e w17 ⟨rfl, hb17⟩
    have hneg3 : ¬ mm < 0 := by omega
    have heq3 : (mm != mm) = false := by simp
    have HW17 : Hid (LW w w17 #[.slice a n cap, .slice a' n' cap', .int .i64 f, .bool d] #[.slice y q cy, .int .i64 t, .int .i64 u] W E (.slice wa R.length wc) R F) := LW.grow HW16.out hb17
    clear hb17 HW16 HD16 HHELD' c0 c1 c2 c3 hm0
    go_wp2_with fail
    refine wp_region_any (by kernel_rfl) ?_
    refine wpAny_slotsL 6 (fun w w' => Below w.heap.size w w') (frame := (fun (c0 c1 c2 c3 c4 c5 c6 c7 c8 c9 c10 c11 c12 c14 c15 c16 c17 c18 c19 c20 c21 c22 c23 c24 c25 c26 c27 c28 c29 c30 c31 c32 c33 c34 c35 c36 c37 c38 c39 c40 c41 c42 c43 c44 c45 c46 c47 c48 c49 c50 c51 c52 c53 c54 c55 c56 c57 c58 c59 c60 c61 c62 c63 c64 c65 c66 c67 c68 c69 c70 c71 c72 c73 c74 c80 c81 c82 c83 : Value) => fun (t : Nat → Value) => ({ tmps := List.toArray (c0 :: c1 :: c2 :: c3 :: c4 :: c5 :: c6 :: c7 :: c8 :: c9 :: c10 :: c11 :: c12 :: t 5 :: c14 :: c15 :: c16 :: c17 :: c18 :: c19 :: c20 :: c21 :: c22 :: c23 :: c24 :: c25 :: c26 :: c27 :: c28 :: c29 :: c30 :: c31 :: c32 :: c33 :: c34 :: c35 :: c36 :: c37 :: c38 :: c39 :: c40 :: c41 :: c42 :: c43 :: c44 :: c45 :: c46 :: c47 :: c48 :: c49 :: c50 :: c51 :: c52 :: c53 :: c54 :: c55 :: c56 :: c57 :: c58 :: c59 :: c60 :: c61 :: c62 :: c63 :: c64 :: c65 :: c66 :: c67 :: c68 :: c69 :: c70 :: c71 :: c72 :: c73 :: c74 :: t 0 :: t 1 :: t 2 :: t 3 :: t 4 :: c80 :: c81 :: c82 :: c83 :: []), defers := [] } : Act)) _ _ _ _ _ _ _ _ _ _ _ _ _ _ _ _ _ _ _ _ _ _ _ _ _ _ _ _ _ _ _ _ _ _ _ _ _ _ _ _ _ _ _ _ _ _ _ _ _ _ _ _ _ _ _ _ _ _ _ _ _ _ _ _ _ _ _ _ _ _ _ _ _ _ _ _ _ _)
      (Ext := fun w' => LW w w' #[.slice a n cap, .slice a' n' cap', .int .i64 f, .bool d] #[.slice y q cy, .int .i64 t, .int .i64 u] W E (.slice wa R.length wc) R F ∧ Below w17.heap.size w17 w') (Good := G8 w17.heap.size (.agg #[.slice a n cap, .slice a' n' cap', .int .i64 f, .bool d]) (.agg #[.slice y q cy, .int .i64 t, .int .i64 u]) zs ps f d bs t u R F) (by rfl) (by kernel_rfl) (G8_mono _ _ _ _ _ _ _ _ _ _ _ _) (by kernel_rfl) (by kernel_rfl) ?hop ?hend _ _ ((fun (x0 x1 x2 x3 x4 x5 : Value) => fun (i : Nat) => if i = 0 then x0 else if i = 1 then x1 else if i = 2 then x2 else if i = 3 then x3 else if i = 4 then x4 else if i = 5 then x5 else undef) _ _ _ _ _ _) _ (by simp) (by simp) ?ext ?start (by simp)
    case start => intro i hi h; exact absurd h (by rw [Array.getD_eq_getD_getElem?, Array.getElem?_replicate]; split <;> simp)
    case ext => exact ⟨LW.grow HW17.out (Below.refl _ _).drew, (Below.refl _ _).drew⟩
    case hop =>
      intro i o t0 w' hil ho hx hdep K hK
      obtain ⟨hx, hxb⟩ := hx
      obtain rfl | rfl | rfl | rfl | rfl | rfl : i = 0 ∨ i = 1 ∨ i = 2 ∨ i = 3 ∨ i = 4 ∨ i = 5 := by omega
      all_goals (simp at ho; subst ho)
      · clear hdep
        obtain ⟨q0, q1, q2, q3⟩ := row4 hx.ls.b0
        go_simp
        exact hK w' (.agg #[.slice a n cap, .slice a' n' cap', .int .i64 f, .bool d]) rfl ⟨hx, hxb⟩ (Below.refl _ _)
      · have d0 : t0 0 = _ := hdep ⟨0, .data⟩ (by simp) rfl
        clear hdep
        go_simp
        refine (HTOD.out w' hx.ls.below).mono ?_
        rintro e w9 ⟨v9, rfl, D9, hb9⟩
        go_simp
        simpa [upd, d0] using hK w9 v9 ⟨_, _, D9⟩ ⟨hx.grow hb9, hxb.trans (hb9.mono hxb.size)⟩ hb9
      · clear hdep
        obtain ⟨q0, q1, q2⟩ := row3 hx.ls.b1
        go_simp
        exact hK w' (.agg #[.slice y q cy, .int .i64 t, .int .i64 u]) rfl ⟨hx, hxb⟩ (Below.refl _ _)
      · have d2 : t0 2 = _ := hdep ⟨2, .data⟩ (by simp) rfl
        clear hdep
        go_simp
        refine (HTOC.out w' hx.ls.below).mono ?_
        rintro e w9 ⟨v9, rfl, D9, hb9⟩
        go_simp
        simpa [upd, d2] using hK w9 v9 D9.at_ ⟨hx.grow hb9, hxb.trans (hb9.mono hxb.size)⟩ hb9
      · have d1 := hdep ⟨1, .data⟩ (by simp) rfl
        have d3 := hdep ⟨3, .data⟩ (by simp) rfl
        clear hdep
        obtain ⟨B, U, d1⟩ := d1
        have e := HICR.out (t0 1) (t0 3) w' d1.at_ d3
        clear d1 d3
        go_simp
        refine e.mono ?_
        rintro e w9 ⟨v9, rfl, D9, hb9⟩
        obtain ⟨dv, e9, O9⟩ := D9
        have D9' : DPl w9 w17.heap.size v9 R F := ⟨dv, e9, O9.mono hxb.size⟩
        clear e9 O9
        go_simp
        simpa [upd] using hK w9 v9 D9' ⟨hx.grow hb9, hxb.trans (hb9.mono hxb.size)⟩ hb9
      · clear hdep
        have hb9 := (Below.refl w'.heap.size w').alloc (Nat.le_refl _) (.cells #[.slice none 0 0, .slice none 0 0, .int .i64 0, .bool false] 69)
        have hK' := hK (w'.alloc (.cells #[.slice none 0 0, .slice none 0 0, .int .i64 0, .bool false] 69)) (.pointer (some ⟨w'.heap.size, 0, none⟩)) ⟨w'.heap.size, rfl, hxb.size, heap_alloc_new w' _⟩ ⟨hx.grow hb9, hxb.trans (hb9.mono hxb.size)⟩ hb9
        clear hK
        go_simp
        simpa [upd] using hK'
    case hend =>
      intro o t0 w' ho hx hg K hK
      simp at ho; subst ho
      obtain ⟨hx, hxb⟩ := hx
      obtain ⟨hv, h4, O4⟩ := hg 4 (by decide)
      obtain ⟨V, h5, hV, hbV⟩ := hg 5 (by decide)
      clear hg
      obtain ⟨ha, hc, rfl⟩ := OwnN.sl O4
      have hVl := (Array.getElem?_eq_some_iff.1 hbV).1
      refine wp_store_row 69 (.tmp 13) (.tmp 79) rfl V #[.slice ha R.length hc, .slice none 0 0, .int .i64 F, .bool false] h5 h4 69 _ hbV HSD.out rfl (all4e _ _ _ _ _ _ _ _) ?_
      apply hK
      have hwr := Wr.setRow V w' #[.slice ha R.length hc, .slice none 0 0, .int .i64 F, .bool false]
      have hrow : (w'.setRow V #[.slice ha R.length hc, .slice none 0 0, .int .i64 F, .bool false]).heap[V]? = some (.cells #[.slice ha R.length hc, .slice none 0 0, .int .i64 F, .bool false] 69 (0, 0)) := setRow_heap _ _ _ _ _ _ hbV
      have O5 : OwnN (w'.setRow V #[.slice ha R.length hc, .slice none 0 0, .int .i64 F, .bool false]) 0 (.slice ha R.length hc) R := (O4.keep (fun k e => hwr.block k (fun ek => by
        obtain ⟨_, _, cur, h3⟩ := O4.lt k e
        rw [ek, hbV] at h3; simp at h3))).mono (Nat.zero_le _)
      have hE17 := LW.hE HW17.out
      have st18 : LW w (w'.setRow V #[.slice ha R.length hc, .slice none 0 0, .int .i64 F, .bool false]) #[.slice a n cap, .slice a' n' cap', .int .i64 f, .bool d] #[.slice y q cy, .int .i64 t, .int .i64 u] W E (.slice wa R.length wc) R F :=
        hx.keep hwr.os hwr.tape hwr.output (by rw [hwr.size]; exact Nat.le_refl _) (fun k hk => hwr.block k (by omega))
      clear hwr O4 hx hxb hbV h4 hK
      generalize (w'.setRow V #[.slice ha R.length hc, .slice none 0 0, .int .i64 F, .bool false]) = w18 at *
      have hD18 : DAt w18 (.agg #[.slice ha R.length hc, .slice none 0 0, .int .i64 F, .bool false]) R [] F false := (DPl.mine (B := 0) ⟨_, rfl, O5⟩ (Nat.zero_le _)).at_
      obtain ⟨c0, c1, c2, c3⟩ := row4 hrow
      obtain ⟨k0, k1, k2, k3⟩ := row4 st18.bw
      have HS18 : Hid (LW w w18 #[.slice a n cap, .slice a' n' cap', .int .i64 f, .bool d] #[.slice y q cy, .int .i64 t, .int .i64 u] W E (.slice wa R.length wc) R F) := st18
      have HD18 : Hid (DAt w18 (.agg #[.slice ha R.length hc, .slice none 0 0, .int .i64 F, .bool false]) R [] F false) := hD18
      clear st18 hD18 O5 hrow hV hVl HW17 hE17
      go_wp2_with fail
      clear h5
      refine (eqD_any _ _ R [] F false w18 HD18.out (LW.dat HS18.out) hRl (by simp) HL0.out).mono ?_
      rintro e w19 ⟨rfl, hb19⟩
      have HB19 : Hid (Below w.heap.size w w19) := (LS.below (LW.ls HS18.out)).trans (hb19.mono (by have := LW.hE HS18.out; have := LW.hw HS18.out; omega))
      clear hb19 HS18 HD18 c0 c1 c2 c3 k0 k1 k2 k3
      go_wp2
      go_ret
      exact ⟨rfl, HB19.out⟩

set_option maxRecDepth 100000 in
theorem lifted (os : Os) (started : os.Started) (H : Type) (enc : TypeId × Value → H) :
    ReturnsInHanded {} Try.checked os 5 .any (Rows.fnExactDevCrashSpec.pre6 enc Try.prog Try.f5 Rows.fnExactDevCrashRow.domain false) (Rows.fnExactDevCrashSpec.post enc Try.prog Try.f5 false true false false) := by
  refine returnsInHanded_of_change (C := Try.checked) own started (by kernel_rfl) Try.func5
    (ChangeSpec.witness6 (enc := enc) (C := Try.checked) false ⟨#[], #[.agg #[.slice none 0 0, .slice none 0 0, .int .i64 0, .bool false], .agg #[.slice none 0 0, .int .i64 0, .int .i64 0]], []⟩ 8 (by kernel_rfl) (by kernel_rfl) (by kernel_rfl) (by kernel_rfl)) ?_
  intro W base args ds gs before hval0 hW hcnd _
  have hval : ∀ (j : Nat) t v, Try.f5.params[j]? = some t → args[j]? = some v → Value.okWide Try.prog W .any base t v := hval0
  have hW' := hW
  obtain ⟨p, q, hA0, hV, rfl, hfz, hnd⟩ := hW
  have hA : DataW.TrodAll enc Try.prog W 0 (fun _ => true) true Try.f5.params.toList args.toList ds p := hA0
  rw [Try.params5] at hA hval
  obtain ⟨v0, vs0, d0, ds0, p0, q0, hargs, rfl, rfl, h0, r0⟩ := trodAll_cons hA
  obtain ⟨v1, vs1, d1, ds1, p1, q1, hargs1, rfl, rfl, h1, r1⟩ := trodAll_cons r0
  obtain ⟨rfl, rfl, rfl⟩ := trodAll_nil r1
  obtain rfl : args = #[v0, v1] := by cases args; simp_all
  obtain ⟨rfl, rfl⟩ := trodVars_none hV
  have k0 := h0
  have k1 := h1
  have lt0 : ∀ x ∈ p0, x.block < W.heap.size := by obtain ⟨m, hm⟩ := k0; exact DataW.trod_lt m _ _ _ hm
  have lt1 : ∀ x ∈ p1, x.block < W.heap.size := by obtain ⟨m, hm⟩ := k1; exact DataW.trod_lt m _ _ _ hm
  obtain ⟨a, n, cap, a', n', cap', zs, ps, f, d, rfl, hn, hn', hm, hm', ha, ha', hps, _, _, _⟩ := dev_of (hval 0 61 v0 rfl rfl) h0
  obtain ⟨y, q, cy, bs, t, u, rfl, hq, hq', hy, _, _⟩ := crash_of (hval 1 64 v1 rfl rfl) h1
  clear hA0 hval0
  refine (walk a n cap a' n' cap' zs ps f d y q cy bs t u W hn hn' hm hm' ha ha' hps hq hq' hy).mono fun e W' ⟨he, bel⟩ => ?_
  subst he
  exact ⟨_, rfl, _, _, _, [], _, [], hW', trodAll_mk1 (shut_bool Try.underlying4 _), (trodAll_cons_mk (Below.trod laidOut (by kernel_rfl) (of_decide_eq_true (by kernel_rfl)) k0 bel lt0) (trodAll_cons_mk (Below.trod laidOut (by kernel_rfl) (of_decide_eq_true (by kernel_rfl)) k1 bel lt1) trodAll_mk0)), rfl, bel.frame _, fun h => by cases h⟩

theorem over : Rows.fnExactDevCrashRow.holds Try.pinned (OpenSpec.ofChange Rows.fnExactDevCrashSpec) :=
  OpenClaim.holds_of_wide 5 Try.f5 rfl rfl rfl rfl rfl rfl rfl ⟨rfl, rfl, rfl, rfl, rfl⟩ rfl rfl rfl rfl rfl (by kernel_rfl) Try.func5 (by kernel_rfl)
    (of_decide_eq_true (by kernel_rfl)) (by unfold Func.isWrapper; first | (rw [if_pos (by decide +kernel)]; kernel_rfl) | (rw [if_neg (by decide +kernel)]; exact ⟨rfl, rfl⟩))
    (fun os started H enc _ => lifted os started H enc)
end Go.Proofs.Ythghkfncpdnpoad.lcr
namespace Go.Proofs.Ythghkfncpdnpoad
theorem devCrash_holds : Rows.FnExactDevCrashSaid := lcr.over
#print axioms devCrash_holds
end Go.Proofs.Ythghkfncpdnpoad
