/-
  Own work: the law on DevWrite.
-/
import Derived.Test.YtiignammhieidaaIWr
import Derived.Test.YtiignammhieidaaDevHeld
import Derived.Test.YtiignammhieidaaDevLaw
namespace Go.Proofs.Ytiignammhieidaa.lwr
open Go.ChangeShapes Go.WideShapes Go.ChangeAt Go.RowKit
set_option linter.unusedVariables false

theorem own : ownKnob Try.prog.godebug = none := by kernel_rfl
theorem laidOut : laidOutB Try.prog = true := by kernel_rfl

theorem LV.keep {w w' w'' : World} {C : Array Value} (h : LV w w' C) (ho : w''.os = w'.os) (ht : w''.tape = w'.tape) (hu : w''.output = w'.output) (hs : w'.heap.size ≤ w''.heap.size) (hk : ∀ k, k < w.heap.size + 1 → w''.heap[k]? = w'.heap[k]?) : LV w w'' C :=
  ⟨h.below.trans ⟨ho, ht, hu, hs, fun k hk' => hk k (by omega)⟩, by rw [hk _ (by omega)]; exact h.box⟩

/-- The model's answer stands, below block E. -/
structure LY (w w' : World) (C0 : Array Value) (W E Bw Uw : Nat) (wv : Array Value) (Z : List Int) (P : List PD) (F : Int) (D : Bool) : Prop where
  ls : LV w w' C0
  bw : w'.heap[W]? = some (.cells wv 29 (0, 0))
  dw : DMine Bw Uw w' (.agg wv) Z P F D
  hW : W < E ∧ Uw ≤ E ∧ w.heap.size + 1 ≤ E ∧ E ≤ w'.heap.size
theorem LY.keep {w w' w'' : World} {C0 : Array Value} {W E Bw Uw : Nat} {wv : Array Value} {Z : List Int} {P : List PD} {F : Int} {D : Bool} (h : LY w w' C0 W E Bw Uw wv Z P F D) (ho : w''.os = w'.os) (ht : w''.tape = w'.tape) (hu : w''.output = w'.output) (hs : w'.heap.size ≤ w''.heap.size) (hk : ∀ k, k < E → w''.heap[k]? = w'.heap[k]?) : LY w w'' C0 W E Bw Uw wv Z P F D := by
  have hW := h.hW
  exact ⟨LV.keep h.ls ho ht hu hs (fun k hk' => hk k (by omega)), by rw [hk _ (by omega)]; exact h.bw, h.dw.keep (fun k _ hk' => hk k (by omega)) hs, by omega⟩
theorem LY.grow {w w' w'' : World} {C0 : Array Value} {W E Bw Uw : Nat} {wv : Array Value} {Z : List Int} {P : List PD} {F : Int} {D : Bool} (h : LY w w' C0 W E Bw Uw wv Z P F D) (hb : Below w'.heap.size w' w'') : LY w w'' C0 W E Bw Uw wv Z P F D :=
  h.keep hb.os hb.tape hb.output hb.size (fun k hk => hb.block k (by have := h.hW; omega))
/-- The model's and the program's answer stand: below block E, from block S on. -/
structure LZ (w w' : World) (C0 : Array Value) (W E Bw Uw G S Ug : Nat) (wv gv : Array Value) (Z : List Int) (P : List PD) (F : Int) (D : Bool) : Prop where
  lw : LY w w' C0 W E Bw Uw wv Z P F D
  bg : w'.heap[G]? = some (.cells gv 29 (0, 0))
  dg : DMine S Ug w' (.agg gv) Z P F D
  hG : Ug ≤ G ∧ E ≤ S ∧ S ≤ G
theorem LZ.keep {w w' w'' : World} {C0 : Array Value} {W E Bw Uw G S Ug : Nat} {wv gv : Array Value} {Z : List Int} {P : List PD} {F : Int} {D : Bool} (h : LZ w w' C0 W E Bw Uw G S Ug wv gv Z P F D) (ho : w''.os = w'.os) (ht : w''.tape = w'.tape) (hu : w''.output = w'.output) (hs : w'.heap.size ≤ w''.heap.size) (hk : ∀ k, k < w'.heap.size → k < E ∨ S ≤ k → w''.heap[k]? = w'.heap[k]?) : LZ w w'' C0 W E Bw Uw G S Ug wv gv Z P F D := by
  have hGl := (Array.getElem?_eq_some_iff.1 h.bg).1
  have hG := h.hG
  have hW := h.lw.hW
  exact ⟨h.lw.keep ho ht hu hs (fun k hk' => hk k (by omega) (.inl hk')), by rw [hk _ hGl (.inr (by omega))]; exact h.bg, h.dg.keep (fun k hk1 hk2 => hk k (by omega) (.inr hk1)) hs, hG⟩
theorem LZ.grow {w w' w'' : World} {C0 : Array Value} {W E Bw Uw G S Ug : Nat} {wv gv : Array Value} {Z : List Int} {P : List PD} {F : Int} {D : Bool} (h : LZ w w' C0 W E Bw Uw G S Ug wv gv Z P F D) (hb : Below w'.heap.size w' w'') : LZ w w'' C0 W E Bw Uw G S Ug wv gv Z P F D :=
  h.keep hb.os hb.tape hb.output hb.size (fun k hk _ => hb.block k hk)
theorem LZ.ch {w w' w'' : World} {C0 : Array Value} {W E Bw Uw G S Ug B U : Nat} {wv gv : Array Value} {Z : List Int} {P : List PD} {F : Int} {D : Bool} (h : LZ w w' C0 W E Bw Uw G S Ug wv gv Z P F D) (hc : Ch B U w' w'') (hB : E ≤ B) (hU : U ≤ S) : LZ w w'' C0 W E Bw Uw G S Ug wv gv Z P F D :=
  h.keep hc.os hc.tape hc.output hc.size (fun k hk hor => hc.block k hk (by omega))
/-- The copy handed in stands too. -/
structure LX (w w' : World) (C0 : Array Value) (W E Bw Uw G S Ug X0 Bx Ux : Nat) (wv gv xv : Array Value) (Z : List Int) (P : List PD) (F : Int) (D : Bool) (zs : List Int) (ps : List PD) (f : Int) (d : Bool) : Prop where
  lm : LZ w w' C0 W E Bw Uw G S Ug wv gv Z P F D
  bx : w'.heap[X0]? = some (.cells xv 29 (0, 0))
  dx : DMine Bx Ux w' (.agg xv) zs ps f d
  hord : E ≤ Bx ∧ Ux ≤ X0 ∧ X0 < S
theorem LX.grow {w w' w'' : World} {C0 : Array Value} {W E Bw Uw G S Ug X0 Bx Ux : Nat} {wv gv xv : Array Value} {Z : List Int} {P : List PD} {F : Int} {D : Bool} {zs : List Int} {ps : List PD} {f : Int} {d : Bool} (h : LX w w' C0 W E Bw Uw G S Ug X0 Bx Ux wv gv xv Z P F D zs ps f d) (hb : Below w'.heap.size w' w'') : LX w w'' C0 W E Bw Uw G S Ug X0 Bx Ux wv gv xv Z P F D zs ps f d :=
  ⟨h.lm.grow hb, by rw [hb.block _ (Array.getElem?_eq_some_iff.1 h.bx).1]; exact h.bx, h.dx.below hb, h.hord⟩
theorem G10_mono' (zs : List Int) (ps : List PD) (f : Int) (d : Bool) (x arg : Value) (i : Nat) (w w' : World) (v : Value) (hm : Below w.heap.size w w') (h : G10 zs ps f d x arg i w v) : G10 zs ps f d x arg i w' v := by
  unfold G10 at *
  split at h <;> first | exact h | exact DAt.below h hm

set_option maxHeartbeats 4000000 in
set_option maxRecDepth 100000 in
theorem walk (a : Option Addr) (n cap : Nat) (a' : Option Addr) (n' cap' : Nat) (zs : List Int) (ps : List PD) (f : Int) (d : Bool) (w : World) (hn : zs.length = n) (hn' : ps.length = n') (hm : n ≤ 9223372036854775807) (hm' : n' ≤ 9223372036854775807) (ha : At .u8 w a zs) (ha' : PAt w a' ps) (hps : ∀ i, (ps.getD i (0, [])).2.length ≤ 9223372036854775807) (hf : f ≤ 9223372036854775807) (s : Int) (ya : Option Addr) (yn yc : Nat) (z : List Int) (hyn : z.length = yn) (hym : yn ≤ 9223372036854775807) (hy : At .u8 w ya z) :
    Calls Try.prog 3 #[.agg #[.slice a n cap, .slice a' n' cap', .int .i64 f, .bool d], .int .i64 s, .slice ya yn yc] w fun e w' => e = .returned (.bool true) ∧ Below w.heap.size w w' := by
  have HZ : Hid (∀ left n, szR left n = if left < n then -1 else left - n) := fun _ _ => rfl
  have HSD : Hid _ := Try.sizeDv
  have HS0 : Hid (LV w _ #[.slice a n cap, .slice a' n' cap', .int .i64 f, .bool d]) := ⟨(Below.refl _ _).alloc (Nat.le_refl _) _, heap_alloc_new w _⟩
  by_cases hyb : (1048576 : Int) < (yn : Int)
  · have HB0 : Hid _ := LV.below HS0.out
    clear HS0
    go_enter Try.func3, Try.ntmps3
    go_wp2
    go_ret
    exact ⟨rfl, HB0.out⟩
  have hyl : yn ≤ 1048576 := by omega
  go_enter Try.func3, Try.ntmps3
  go_wp2_with fail
  refine (szD_any a n cap a' n' cap' ps f d 1048576 _ hn' (by decide) (by decide) hm hm' (ha'.below HS0.out.below) hps).mono ?_
  rintro e w1 ⟨rfl, hb1⟩
  have st1 := LV.grow HS0.out hb1
  clear HS0 hb1
  by_cases hbig : (1048576 : Int) < ((n + (n' + pSum ps) : Nat) : Int)
  · have hr : szR 1048576 (n + (n' + pSum ps)) = -1 := by rw [HZ.out, if_pos hbig]
    rw [hr]
    have HB1 : Hid _ := st1.below
    clear st1
    go_wp2
    go_ret
    exact ⟨rfl, HB1.out⟩
  have hr : szR 1048576 (n + (n' + pSum ps)) = 1048576 - ((n + (n' + pSum ps) : Nat) : Int) := by rw [HZ.out, if_neg hbig]
  have hnb : n ≤ 1048576 := by omega
  have hnb' : n' ≤ 1048576 := by omega
  have hsum : n + n' + pSum ps ≤ 1048576 := by omega
  have hpb : ∀ i, (ps.getD i (0, [])).2.length ≤ 1048576 := fun i => by
    by_cases hi : i < ps.length
    · have h1 := pSum_snoc ps i hi
      have h2 := pSum_take ps (i + 1)
      omega
    · rw [List.getD_eq_getElem?_getD, List.getElem?_eq_none (by omega)]; simp
  have hneg : ¬ (szR 1048576 (n + (n' + pSum ps)) < 0) := by rw [hr]; omega
  generalize szR 1048576 (n + (n' + pSum ps)) = left at *
  clear hr hbig hm hm' hps HZ
  obtain ⟨c0, c1, c2, c3⟩ := st1.cells
  have HS1 : Hid (LV w w1 #[.slice a n cap, .slice a' n' cap', .int .i64 f, .bool d]) := st1
  clear st1
  have HZP : Hid (zs.length ≤ 1048576 ∧ (wrP zs.length ps f d s z).length ≤ 1048576 ∧ (∀ i, ((wrP zs.length ps f d s z).getD i (0, [])).2.length ≤ 1048576) ∧ pSum (wrP zs.length ps f d s z) ≤ 2097152) := by
    refine ⟨by omega, ?_, ?_, ?_⟩
    · unfold wrP; split
      · rename_i h
        have hv : validB zs.length ps f = true := by unfold wrOn at h; simp at h; exact h.1.1.1.1.1
        have := (validB_of hv).1.2.2.2.1
        simp; omega
      · omega
    · intro i; unfold wrP; split
      · by_cases hi : i < ps.length
        · rw [List.getD_eq_getElem?_getD, List.getElem?_append_left hi, ← List.getD_eq_getElem?_getD]; exact hpb i
        · by_cases hi' : i = ps.length
          · subst hi'; simp [List.getD]; omega
          · rw [List.getD_eq_getElem?_getD, List.getElem?_eq_none (by simp; omega)]; simp
      · exact hpb i
    · unfold wrP; split
      · unfold pSum at *; rw [List.map_append, List.sum_append]; simp; omega
      · omega
  have HSSY : Hid (∀ (v : Value) (xa : Option Addr) (xc : Nat) (ww : World), DAt ww v zs ps f d → At .u8 ww xa z → Calls Try.prog 6 #[v, .int .i64 s, .slice xa yn xc] ww fun e w' => ∃ r, e = .returned r ∧ DMine ww.heap.size w'.heap.size w' r zs (wrP zs.length ps f d s z) (wrF zs.length ps f d s z.length) (wrD zs.length ps f d s z.length) ∧ Below ww.heap.size ww w') := fun v xa xc ww h1 h2 => swr_any v zs ps f d s xa yn xc z ww h1 h2 hyn (by omega) (by omega) hpb hyl hf
  have HISY : Hid (∀ (v : Value) (xa : Option Addr) (xc : Nat) (ww : World), DAt ww v zs ps f d → At .u8 ww xa z → Calls Try.prog 9 #[v, .int .i64 s, .slice xa yn xc] ww fun e w' => ∃ r, e = .returned r ∧ DMine ww.heap.size w'.heap.size w' r zs (wrP zs.length ps f d s z) (wrF zs.length ps f d s z.length) (wrD zs.length ps f d s z.length) ∧ Below ww.heap.size ww w') := fun v xa xc ww h1 h2 => iwr_any v zs ps f d s xa yn xc z ww h1 h2 hyn (by omega) (by omega) hpb hyl
  have HTOB : Hid (∀ ww : World, Below w.heap.size w ww → Calls Try.prog 8 #[.slice ya yn yc] ww fun e w' => e = .returned (.slice (some ⟨ww.heap.size, 0, none⟩) yn yn) ∧ Row w' ww.heap.size 5 z ∧ Below ww.heap.size ww w') := fun ww hb => (toB_any ya yn yc z ww hyn hyl (hy.below hb)).mono (fun e w' hh => ⟨hh.1, owns_row hh.2.1, hh.2.2⟩)
  have HYN : Hid (z.length = yn) := hyn
  obtain ⟨Z, hZ⟩ : ∃ Z, zs = Z := ⟨_, rfl⟩
  obtain ⟨P, hP⟩ : ∃ P, wrP zs.length ps f d s z = P := ⟨_, rfl⟩
  obtain ⟨F, hF⟩ : ∃ F, wrF zs.length ps f d s z.length = F := ⟨_, rfl⟩
  obtain ⟨D, hD⟩ : ∃ D, wrD zs.length ps f d s z.length = D := ⟨_, rfl⟩
  have HSSY' : Hid (∀ (v : Value) (xa : Option Addr) (xc : Nat) (ww : World), DAt ww v zs ps f d → At .u8 ww xa z → Calls Try.prog 6 #[v, .int .i64 s, .slice xa yn xc] ww fun e w' => ∃ r, e = .returned r ∧ DMine ww.heap.size w'.heap.size w' r Z P F D ∧ Below ww.heap.size ww w') := by
    rw [← hZ, ← hP, ← hF, ← hD]; exact HSSY.out
  have HISY' : Hid (∀ (v : Value) (xa : Option Addr) (xc : Nat) (ww : World), DAt ww v zs ps f d → At .u8 ww xa z → Calls Try.prog 9 #[v, .int .i64 s, .slice xa yn xc] ww fun e w' => ∃ r, e = .returned r ∧ DMine ww.heap.size w'.heap.size w' r Z P F D ∧ Below ww.heap.size ww w') := by
    rw [← hZ, ← hP, ← hF, ← hD]; exact HISY.out
  have HZP' : Hid (Z.length ≤ 1048576 ∧ P.length ≤ 1048576 ∧ (∀ i, (P.getD i (0, [])).2.length ≤ 1048576) ∧ pSum P ≤ 2097152) := by
    rw [← hZ, ← hP]; exact HZP.out
  clear hZ hP hF hD HSSY HISY HZP
  obtain ⟨hZl, hPl, hPb, hPs⟩ := HZP'.out
  have HPB : Hid _ := hPb
  clear HZP' hPb
  have HTOD : Hid (∀ ww : World, Below w.heap.size w ww → Calls Try.prog 7 #[.agg #[.slice a n cap, .slice a' n' cap', .int .i64 f, .bool d]] ww fun e w' => ∃ v, e = .returned v ∧ DMine ww.heap.size w'.heap.size w' v zs ps f d ∧ Below ww.heap.size ww w') := fun ww hb => toD_any a n cap a' n' cap' zs ps f d ww hn hn' hnb hnb' (ha.below hb) (ha'.below hb) hpb
  have hzb : zs.length ≤ 1048576 := by omega
  have hpsb : ps.length ≤ 1048576 := by omega
  have hsumb : zs.length + ps.length + pSum ps ≤ 1048576 := by omega
  clear ha ha' hn hn' hy hyn hyb hym
  go_wp2_with fail
  refine (HTOD.out w1 (LV.below HS1.out)).mono ?_
  rintro e w2 ⟨v2, rfl, D2, hb2⟩
  have st2 := LV.grow HS1.out hb2
  have D2' := D2.at_
  have HS2 : Hid (LV w w2 #[.slice a n cap, .slice a' n' cap', .int .i64 f, .bool d]) := st2
  clear st2 D2 hb2 HS1 c0 c1 c2 c3
  go_wp2_with fail
  refine (HTOB.out w2 (LV.below HS2.out)).mono ?_
  rintro e w2' ⟨rfl, hrb, hbb⟩
  have HS2' : Hid (LV w w2' #[.slice a n cap, .slice a' n' cap', .int .i64 f, .bool d]) := LV.grow HS2.out hbb
  have D2'' := D2'.below hbb
  clear HS2 D2' hbb
  go_wp2_with fail
  refine (HSSY'.out v2 _ _ w2' D2'' hrb.at_).mono ?_
  rintro e w3 ⟨r3, rfl, D3, hb3⟩
  have st3 := LV.grow HS2'.out hb3
  have s23 := hb3.size
  have hw2 : w.heap.size + 1 ≤ w2'.heap.size := (Array.getElem?_eq_some_iff.1 (LV.box HS2'.out)).1
  have D3' := D3
  obtain ⟨wa, wc, wx, wy, _, rfl, _⟩ := D3'
  have HS3 : Hid (LV w w3 #[.slice a n cap, .slice a' n' cap', .int .i64 f, .bool d]) := st3
  have HD3 : Hid (DMine w2'.heap.size w3.heap.size w3 (.agg #[.slice wa Z.length wc, .slice wx P.length wy, .int .i64 F, .bool D]) Z P F D) := D3
  clear st3 D3 hb3 HS2' D2'' hrb
  go_wp2_with (refine wpList_storeW rfl 29 (.tmp 8) (.tmp 29) rfl w3.heap.size #[.slice wa Z.length wc, .slice wx P.length wy, .int .i64 F, .bool D] rfl rfl 29 _ (heap_alloc_new w3 _) HSD.out rfl (all4e _ _ _ _ _ _ _ _) ?_)
  intro w4 hr4 hw4
  have hb4 : Below w3.heap.size w3 w4 := ((Below.refl _ _).alloc (Nat.le_refl _) _).trans (hw4.below (Nat.le_refl _))
  have hW4 : w3.heap.size < w4.heap.size := (Array.getElem?_eq_some_iff.1 hr4).1
  have st4 : LY w w4 #[.slice a n cap, .slice a' n' cap', .int .i64 f, .bool d] w3.heap.size w4.heap.size w2'.heap.size w3.heap.size #[.slice wa Z.length wc, .slice wx P.length wy, .int .i64 F, .bool D] Z P F D := ⟨LV.grow HS3.out hb4, hr4, DMine.below HD3.out hb4, by omega⟩
  obtain ⟨c0, c1, c2, c3⟩ := st4.ls.cells
  have HS4 : Hid (LY w w4 #[.slice a n cap, .slice a' n' cap', .int .i64 f, .bool d] w3.heap.size w4.heap.size w2'.heap.size w3.heap.size #[.slice wa Z.length wc, .slice wx P.length wy, .int .i64 F, .bool D] Z P F D) := st4
  clear st4 hr4 hw4 hb4 HS3 HD3
  generalize w3.heap.size = W at *
  generalize w2'.heap.size = Bw at *
  go_wp2_with fail
  refine (HTOD.out w4 (LV.below (LY.ls HS4.out))).mono ?_
  rintro e w5 ⟨v5, rfl, D5, hb5⟩
  have st5 := LY.grow HS4.out hb5
  have s45 := hb5.size
  have D5' := D5
  obtain ⟨da, dc, ca, cc, _, rfl, _⟩ := D5'
  have HS5 : Hid (LY w w5 #[.slice a n cap, .slice a' n' cap', .int .i64 f, .bool d] W w4.heap.size Bw W #[.slice wa Z.length wc, .slice wx P.length wy, .int .i64 F, .bool D] Z P F D) := st5
  have HD5 : Hid (DMine w4.heap.size w5.heap.size w5 (.agg #[.slice da zs.length dc, .slice ca ps.length cc, .int .i64 f, .bool d]) zs ps f d) := D5
  clear st5 D5 hb5 HS4 c0 c1 c2 c3
  go_wp2_with (refine wpList_storeW rfl 29 (.tmp 9) (.tmp 31) rfl w5.heap.size #[.slice da zs.length dc, .slice ca ps.length cc, .int .i64 f, .bool d] rfl rfl 29 _ (heap_alloc_new w5 _) HSD.out rfl (all4e _ _ _ _ _ _ _ _) ?_)
  intro w6 hr6 hw6
  have hb6 : Below w5.heap.size w5 w6 := ((Below.refl _ _).alloc (Nat.le_refl _) _).trans (hw6.below (Nat.le_refl _))
  have hX6 : w5.heap.size < w6.heap.size := (Array.getElem?_eq_some_iff.1 hr6).1
  obtain ⟨c0, c1, c2, c3⟩ := row4 hr6
  have HS6 : Hid (LY w w6 #[.slice a n cap, .slice a' n' cap', .int .i64 f, .bool d] W w4.heap.size Bw W #[.slice wa Z.length wc, .slice wx P.length wy, .int .i64 F, .bool D] Z P F D) := LY.grow HS5.out hb6
  have HD6 : Hid (DMine w4.heap.size w5.heap.size w6 (.agg #[.slice da zs.length dc, .slice ca ps.length cc, .int .i64 f, .bool d]) zs ps f d) := DMine.below HD5.out hb6
  have HX6 : Hid (w6.heap[w5.heap.size]? = some (.cells #[.slice da zs.length dc, .slice ca ps.length cc, .int .i64 f, .bool d] 29 (0, 0))) := hr6
  clear hr6 hw6 hb6 HS5 HD5
  generalize w5.heap.size = X0 at *
  clear c0 c1 c2 c3
  go_wp2_with fail
  refine (HTOB.out w6 (LV.below (LY.ls HS6.out))).mono ?_
  rintro e w6' ⟨rfl, hrb, hbb⟩
  have s66 := hbb.size
  have hXBl := hrb.lt
  have HS6' : Hid (LY w w6' #[.slice a n cap, .slice a' n' cap', .int .i64 f, .bool d] W w4.heap.size Bw W #[.slice wa Z.length wc, .slice wx P.length wy, .int .i64 F, .bool D] Z P F D) := LY.grow HS6.out hbb
  have HD6' : Hid (DMine w4.heap.size X0 w6' (.agg #[.slice da zs.length dc, .slice ca ps.length cc, .int .i64 f, .bool d]) zs ps f d) := DMine.below HD6.out hbb
  have hx6' : w6'.heap[X0]? = some (.cells #[.slice da zs.length dc, .slice ca ps.length cc, .int .i64 f, .bool d] 29 (0, 0)) := by rw [hbb.block _ hX6]; exact HX6.out
  have HX6' : Hid (w6'.heap[X0]? = some (.cells #[.slice da zs.length dc, .slice ca ps.length cc, .int .i64 f, .bool d] 29 (0, 0))) := hx6'
  have HRB6 : Hid (Row w6' w6.heap.size 5 z) := hrb
  obtain ⟨c0, c1, c2, c3⟩ := row4 hx6'
  clear hbb HS6 HD6 HX6 hrb hx6'
  generalize hXBB : w6.heap.size = XB at *
  have HXBB : Hid _ := hXBB
  clear hXBB
  go_wp2_with fail
  refine (HISY'.out _ _ _ w6' (DMine.at_ HD6'.out) (Row.at_ HRB6.out)).mono ?_
  rintro e w7 ⟨r7, rfl, D7, hb7⟩
  have s67 := hb7.size
  have D7' := D7
  obtain ⟨ga, gc, gx, gy, _, rfl, _⟩ := D7'
  have HS7 : Hid (LY w w7 #[.slice a n cap, .slice a' n' cap', .int .i64 f, .bool d] W w4.heap.size Bw W #[.slice wa Z.length wc, .slice wx P.length wy, .int .i64 F, .bool D] Z P F D) := LY.grow HS6'.out hb7
  have HD7 : Hid (DMine w4.heap.size X0 w7 (.agg #[.slice da zs.length dc, .slice ca ps.length cc, .int .i64 f, .bool d]) zs ps f d) := DMine.below HD6'.out hb7
  have HX7 : Hid (w7.heap[X0]? = some (.cells #[.slice da zs.length dc, .slice ca ps.length cc, .int .i64 f, .bool d] 29 (0, 0))) := by unfold Hid; rw [hb7.block _ (by omega)]; exact HX6'.out
  have HG7 : Hid (DMine w6'.heap.size w7.heap.size w7 (.agg #[.slice ga Z.length gc, .slice gx P.length gy, .int .i64 F, .bool D]) Z P F D) := D7
  have HRB7 : Hid (Row w7 XB 5 z) := by unfold Hid Row; rw [hb7.block _ hXBl]; exact HRB6.out
  clear D7 hb7 HS6' HD6' HX6' HRB6 c0 c1 c2 c3
  go_wp2_with (refine wpList_storeW rfl 29 (.tmp 11) (.tmp 37) rfl w7.heap.size #[.slice ga Z.length gc, .slice gx P.length gy, .int .i64 F, .bool D] rfl rfl 29 _ (heap_alloc_new w7 _) HSD.out rfl (all4e _ _ _ _ _ _ _ _) ?_)
  intro w8 hr8 hw8
  have hb8 : Below w7.heap.size w7 w8 := ((Below.refl _ _).alloc (Nat.le_refl _) _).trans (hw8.below (Nat.le_refl _))
  have hord4 := (LY.hW HS7.out)
  have st8 : LX w w8 #[.slice a n cap, .slice a' n' cap', .int .i64 f, .bool d] W w4.heap.size Bw W w7.heap.size w6'.heap.size w7.heap.size X0 w4.heap.size X0 #[.slice wa Z.length wc, .slice wx P.length wy, .int .i64 F, .bool D] #[.slice ga Z.length gc, .slice gx P.length gy, .int .i64 F, .bool D] #[.slice da zs.length dc, .slice ca ps.length cc, .int .i64 f, .bool d] Z P F D zs ps f d :=
    ⟨⟨LY.grow HS7.out hb8, hr8, DMine.below HG7.out hb8, by omega⟩, by rw [hb8.block _ (by omega)]; exact HX7.out, DMine.below HD7.out hb8, by omega⟩
  have HRB8 : Hid (Row w8 XB 5 z) := by unfold Hid Row; rw [hb8.block _ (by omega)]; exact HRB7.out
  clear hr8 hw8 hb8 HS7 HD7 HX7 HG7 hord4 HRB7
  generalize w7.heap.size = G at *
  generalize w6'.heap.size = S at *
  generalize w4.heap.size = E at *
  have hord := st8.hord
  have hGS := st8.lm.hG
  obtain ⟨c0, c1, c2, c3⟩ := row4 st8.lm.bg
  obtain ⟨k0, k1, k2, k3⟩ := row4 st8.lm.lw.bw
  have HS8 : Hid (LX w w8 #[.slice a n cap, .slice a' n' cap', .int .i64 f, .bool d] W E Bw W G S G X0 E X0 #[.slice wa Z.length wc, .slice wx P.length wy, .int .i64 F, .bool D] #[.slice ga Z.length gc, .slice gx P.length gy, .int .i64 F, .bool D] #[.slice da zs.length dc, .slice ca ps.length cc, .int .i64 f, .bool d] Z P F D zs ps f d) := st8
  clear st8
  go_wp2_with fail
  refine (eqD_any _ _ Z P F D w8 (LZ.dg (LX.lm HS8.out)).at_ (LY.dw (LZ.lw (LX.lm HS8.out))).at_ hZl hPl HPB.out).mono ?_
  rintro e w10 ⟨rfl, hb10⟩
  have HS10 : Hid (LX w w10 #[.slice a n cap, .slice a' n' cap', .int .i64 f, .bool d] W E Bw W G S G X0 E X0 #[.slice wa Z.length wc, .slice wx P.length wy, .int .i64 F, .bool D] #[.slice ga Z.length gc, .slice gx P.length gy, .int .i64 F, .bool D] #[.slice da zs.length dc, .slice ca ps.length cc, .int .i64 f, .bool d] Z P F D zs ps f d) := LX.grow HS8.out hb10
  have HRB10 : Hid (Row w10 XB 5 z) := by unfold Hid Row; rw [hb10.block _ (Row.lt HRB8.out)]; exact HRB8.out
  clear hb10 HS8 HRB8 c0 c1 c2 c3 k0 k1 k2 k3
  go_wp2_with fail
  refine wp_region_any (by kernel_rfl) ?_
  refine wpAny_slotsM (fun w w' => Below w.heap.size w w') (frame := (fun (c0 c1 c2 c3 c4 c5 c6 c7 c8 c9 c10 c11 c12 c13 c14 c15 c16 c17 c18 c19 c20 c21 c22 c23 c24 c25 c26 c27 c28 c29 c30 c31 c32 c33 c34 c35 c36 c37 c38 c39 c40 c41 c47 c48 c49 c50 c51 c52 c53 c54 c55 c56 c57 c58 c59 c60 c61 c62 c63 c64 c65 c66 c67 c68 c69 c70 c71 c72 c73 c74 c75 c76 c77 c78 c79 c80 c81 c82 c83 c84 c85 c86 : Value) => fun (t : Nat → Value) => ({ tmps := List.toArray (c0 :: c1 :: c2 :: c3 :: c4 :: c5 :: c6 :: c7 :: c8 :: c9 :: c10 :: c11 :: c12 :: c13 :: c14 :: c15 :: c16 :: c17 :: c18 :: c19 :: c20 :: c21 :: c22 :: c23 :: c24 :: c25 :: c26 :: c27 :: c28 :: c29 :: c30 :: c31 :: c32 :: c33 :: c34 :: c35 :: c36 :: c37 :: c38 :: c39 :: c40 :: c41 :: t 0 :: t 1 :: t 2 :: t 3 :: t 4 :: c47 :: c48 :: c49 :: c50 :: c51 :: c52 :: c53 :: c54 :: c55 :: c56 :: c57 :: c58 :: c59 :: c60 :: c61 :: c62 :: c63 :: c64 :: c65 :: c66 :: c67 :: c68 :: c69 :: c70 :: c71 :: c72 :: c73 :: c74 :: c75 :: c76 :: c77 :: c78 :: c79 :: c80 :: c81 :: c82 :: c83 :: c84 :: c85 :: c86 :: []), defers := [] } : Act)) _ _ _ _ _ _ _ _ _ _ _ _ _ _ _ _ _ _ _ _ _ _ _ _ _ _ _ _ _ _ _ _ _ _ _ _ _ _ _ _ _ _ _ _ _ _ _ _ _ _ _ _ _ _ _ _ _ _ _ _ _ _ _ _ _ _ _ _ _ _ _ _ _ _ _ _ _ _ _ _ _ _)
    (Ext := fun w' => (LX w w' #[.slice a n cap, .slice a' n' cap', .int .i64 f, .bool d] W E Bw W G S G X0 E X0 #[.slice wa Z.length wc, .slice wx P.length wy, .int .i64 F, .bool D] #[.slice ga Z.length gc, .slice gx P.length gy, .int .i64 F, .bool D] #[.slice da zs.length dc, .slice ca ps.length cc, .int .i64 f, .bool d] Z P F D zs ps f d) ∧ Row w' XB 5 z) (Good := G10 zs ps f d (.agg #[.slice da zs.length dc, .slice ca ps.length cc, .int .i64 f, .bool d]) (.agg #[.slice a n cap, .slice a' n' cap', .int .i64 f, .bool d])) (G10_mono' _ _ _ _ _ _) (by kernel_rfl) (by kernel_rfl) ?hop ?hdone _ _ ((fun (x0 x1 x2 x3 x4 : Value) => fun (i : Nat) => if i = 0 then x0 else if i = 1 then x1 else if i = 2 then x2 else if i = 3 then x3 else if i = 4 then x4 else undef) _ _ _ _ _) _ (by simp) ?ext ?start (by simp)
  case start => intro i hi h; exact absurd h (by rw [Array.getD_eq_getD_getElem?, Array.getElem?_replicate]; split <;> simp)
  case ext => exact ⟨LX.grow HS10.out (Below.refl _ _).drew, HRB10.out⟩
  case hop =>
    intro i o t0 w' ho hx hdep K hK
    obtain ⟨hx, hrb⟩ := hx
    have hrg : ∀ ww : World, Below w'.heap.size w' ww → Row ww XB 5 z := fun ww hb => by unfold Row; rw [hb.block _ hrb.lt]; exact hrb
    have HRG : Hid _ := hrg
    have HRB : Hid _ := hrb
    clear hrg hrb
    have hi : i < 5 := (Array.getElem?_eq_some_iff.1 ho).1
    obtain rfl | rfl | rfl | rfl | rfl : i = 0 ∨ i = 1 ∨ i = 2 ∨ i = 3 ∨ i = 4 := by omega
    all_goals (simp at ho; subst ho)
    · clear hdep
      obtain ⟨q0, q1, q2, q3⟩ := row4 hx.bx
      go_simp
      exact hK w' _ rfl ⟨hx, HRB.out⟩ (Below.refl _ _)
    · clear hdep
      obtain ⟨q0, q1, q2, q3⟩ := hx.lm.lw.ls.cells
      go_simp
      exact hK w' _ rfl ⟨hx, HRB.out⟩ (Below.refl _ _)
    · have d1 : t0 1 = _ := hdep ⟨1, .data⟩ (by simp) rfl
      clear hdep
      go_simp
      refine (HTOD.out w' hx.lm.lw.ls.below).mono ?_
      rintro e w' ⟨v9, rfl, D9, hb9⟩
      have D9' := D9.at_
      go_simp
      simpa [upd, d1] using hK w' v9 D9' ⟨hx.grow hb9, HRG.out _ hb9⟩ hb9
    · have d0 : t0 0 = _ := hdep ⟨0, .data⟩ (by simp) rfl
      have d2 : DAt w' (t0 2) zs ps f d := hdep ⟨2, .data⟩ (by simp) rfl
      clear hdep
      have e := eqD_any (.agg #[.slice da zs.length dc, .slice ca ps.length cc, .int .i64 f, .bool d]) (t0 2) zs ps f d w' hx.dx.at_ d2 hzb hpsb hpb
      clear d2
      go_simp
      refine e.mono ?_
      rintro e w' ⟨rfl, hb9⟩
      go_simp
      simpa [upd, d0] using hK w' (.bool true) rfl ⟨hx.grow hb9, HRG.out _ hb9⟩ hb9
    · have d3 : t0 3 = _ := hdep ⟨3, .data⟩ (by simp) rfl
      clear hdep
      go_simp
      simpa [upd, d3] using hK w' (.bool false) rfl ⟨hx, HRB.out⟩ (Below.refl _ _)
  case hdone =>
  intro t0 w11 hx hg
  obtain ⟨hx, hrb⟩ := hx
  have h4 : t0 4 = _ := hg 4 (by decide)
  clear hg
  dsimp only
  rw [h4]
  clear h4
  generalize t0 0 = t00
  generalize t0 1 = t01
  generalize t0 2 = t02
  generalize t0 3 = t03
  have HS11 : Hid (LX w w11 #[.slice a n cap, .slice a' n' cap', .int .i64 f, .bool d] W E Bw W G S G X0 E X0 #[.slice wa Z.length wc, .slice wx P.length wy, .int .i64 F, .bool D] #[.slice ga Z.length gc, .slice gx P.length gy, .int .i64 F, .bool D] #[.slice da zs.length dc, .slice ca ps.length cc, .int .i64 f, .bool d] Z P F D zs ps f d) := hx
  have HRB11 : Hid (Row w11 XB 5 z) := hrb
  clear hx HS10 hrb HRB10
  go_wp2_with fail
  refine (HTOB.out w11 (LV.below (LY.ls (LZ.lw (LX.lm HS11.out))))).mono ?_
  rintro e w11' ⟨rfl, hrb, hbb⟩
  have HS11' : Hid (LX w w11' #[.slice a n cap, .slice a' n' cap', .int .i64 f, .bool d] W E Bw W G S G X0 E X0 #[.slice wa Z.length wc, .slice wx P.length wy, .int .i64 F, .bool D] #[.slice ga Z.length gc, .slice gx P.length gy, .int .i64 F, .bool D] #[.slice da zs.length dc, .slice ca ps.length cc, .int .i64 f, .bool d] Z P F D zs ps f d) := LX.grow HS11.out hbb
  have HRB11' : Hid (Row w11' XB 5 z) := by unfold Hid Row; rw [hbb.block _ (Row.lt HRB11.out)]; exact HRB11.out
  clear hbb HS11 HRB11
  go_wp2_with fail
  refine (eqB_any _ _ yn yn yn z w11' HYN.out hyl (Row.at_ HRB11'.out) hrb.at_).mono ?_
  rintro e w12 ⟨rfl, q12, hw12⟩
  have hb12 : Below w11'.heap.size w11' w12 := by rw [hw12]; exact below_drawn (Below.refl _ _) _
  have st12 := LX.grow HS11'.out hb12
  obtain ⟨c0, c1, c2, c3⟩ := row4 st12.bx
  have HS12 : Hid (LX w w12 #[.slice a n cap, .slice a' n' cap', .int .i64 f, .bool d] W E Bw W G S G X0 E X0 #[.slice wa Z.length wc, .slice wx P.length wy, .int .i64 F, .bool D] #[.slice ga Z.length gc, .slice gx P.length gy, .int .i64 F, .bool D] #[.slice da zs.length dc, .slice ca ps.length cc, .int .i64 f, .bool d] Z P F D zs ps f d) := st12
  have HRB12 : Hid (Row w12 XB 5 z) := by unfold Hid Row; rw [hb12.block _ (Row.lt HRB11'.out)]; exact HRB11'.out
  clear st12 hb12 hw12 HS11' HRB11' hrb
  go_wp2_with fail
  refine (markD_any (.agg #[.slice da zs.length dc, .slice ca ps.length cc, .int .i64 f, .bool d]) zs ps f d 1 E X0 w12 (LX.dx HS12.out) (by decide) (by omega)).mono ?_
  rintro e w13 ⟨rfl, _, hc13⟩
  have hkk : (0 : Int) ≤ 1 + zs.length + ps.length + pSum ps := by omega
  have hkk2 : (1 + (zs.length : Int) + ps.length + pSum ps) + yn ≤ 1099511627776 := by omega
  generalize (1 + (zs.length : Int) + ps.length + pSum ps) = kk at *
  have lm13 := LZ.ch (LX.lm HS12.out) hc13 (by omega) (by omega)
  have hXl12 := Row.lt HRB12.out
  have rb13 : Row w13 XB 5 z := by unfold Row; rw [hc13.block _ hXl12 (.inr (by omega))]; exact HRB12.out
  have op13 : Open w13 (some ⟨XB, 0, none⟩) yn := by have h := rb13.open_; rw [HYN.out] at h; exact h
  have HM13 : Hid (LZ w w13 #[.slice a n cap, .slice a' n' cap', .int .i64 f, .bool d] W E Bw W G S G #[.slice wa Z.length wc, .slice wx P.length wy, .int .i64 F, .bool D] #[.slice ga Z.length gc, .slice gx P.length gy, .int .i64 F, .bool D] Z P F D) := lm13
  clear lm13 rb13 hc13 HS12 HRB12 c0 c1 c2 c3
  go_wp2_with fail
  refine (markB_any (some ⟨XB, 0, none⟩) yn yn kk w13 op13 hkk hkk2).mono ?_
  rintro e w14 ⟨rfl, _, hwr14⟩
  have lm14 := LZ.keep HM13.out hwr14.os hwr14.tape hwr14.output (by rw [hwr14.size]; exact Nat.le_refl _) (fun k hk hor => hwr14.block k (fun ad e => by cases e; show k ≠ XB; omega))
  have hkn0 : (0 : Int) ≤ kk + (yn : Int) := by omega
  clear hwr14 HM13 op13
  generalize kk + (yn : Int) = k9 at *
  have hkn : ¬ k9 < 0 := by omega
  have hkn' : decide (k9 < 0) = false := by simpa using hkn
  obtain ⟨c0, c1, c2, c3⟩ := row4 lm14.bg
  obtain ⟨g0, g1, g2, g3⟩ := row4 lm14.lw.bw
  have HM14 : Hid (LZ w w14 #[.slice a n cap, .slice a' n' cap', .int .i64 f, .bool d] W E Bw W G S G #[.slice wa Z.length wc, .slice wx P.length wy, .int .i64 F, .bool D] #[.slice ga Z.length gc, .slice gx P.length gy, .int .i64 F, .bool D] Z P F D) := lm14
  clear lm14
  go_wp2_with fail
  refine (eqD_any _ _ Z P F D w14 (LZ.dg HM14.out).at_ (LY.dw (LZ.lw HM14.out)).at_ hZl hPl HPB.out).mono ?_
  rintro e w15 ⟨rfl, hb15⟩
  have lm15 := LZ.grow HM14.out hb15
  obtain ⟨h0, h1, h2, h3⟩ := row4 lm15.bg
  have HM15 : Hid (LZ w w15 #[.slice a n cap, .slice a' n' cap', .int .i64 f, .bool d] W E Bw W G S G #[.slice wa Z.length wc, .slice wx P.length wy, .int .i64 F, .bool D] #[.slice ga Z.length gc, .slice gx P.length gy, .int .i64 F, .bool D] Z P F D) := lm15
  clear lm15 hb15 HM14 c0 c1 c2 c3 g0 g1 g2 g3
  go_wp2_with fail
  refine (markD_any _ Z P F D 1 S G w15 (LZ.dg HM15.out) (by decide) (by omega)).mono ?_
  rintro e w16 ⟨rfl, D16, hc16⟩
  have lw16 : LY w w16 #[.slice a n cap, .slice a' n' cap', .int .i64 f, .bool d] W E Bw W #[.slice wa Z.length wc, .slice wx P.length wy, .int .i64 F, .bool D] Z P F D := LY.keep (LZ.lw HM15.out) hc16.os hc16.tape hc16.output hc16.size (fun k hk => hc16.block k (by have := (LZ.lw HM15.out).hW; omega) (.inl (by omega)))
  have bg16 : w16.heap[G]? = some (.cells #[.slice ga Z.length gc, .slice gx P.length gy, .int .i64 F, .bool D] 29 (0, 0)) := by rw [hc16.block _ (Array.getElem?_eq_some_iff.1 (LZ.bg HM15.out)).1 (.inr (Nat.le_refl _))]; exact LZ.bg HM15.out
  obtain ⟨c0, c1, c2, c3⟩ := row4 bg16
  have HW16 : Hid (LY w w16 #[.slice a n cap, .slice a' n' cap', .int .i64 f, .bool d] W E Bw W #[.slice wa Z.length wc, .slice wx P.length wy, .int .i64 F, .bool D] Z P F D) := lw16
  have HD16 : Hid (DAt w16 (.agg #[.slice ga Z.length gc, .slice gx P.length gy, .int .i64 F, .bool D]) (marks 1 Z.length) (pmarks (1 + Z.length) P) F D) := D16
  clear lw16 bg16 D16 hc16 HM15 h0 h1 h2 h3
  have hm0 : (0 : Int) ≤ 1 + Z.length + P.length + pSum P := by omega
  have HHELD := heldD_any (.agg #[.slice ga Z.length gc, .slice gx P.length gy, .int .i64 F, .bool D]) Z P F D 1 w16 HD16.out (by decide) (by omega)
  generalize (1 + (Z.length : Int) + (P.length : Int) + (pSum P : Int)) = mm at *
  have HHELD' : Hid (Calls Try.prog 14 #[.agg #[.slice ga Z.length gc, .slice gx P.length gy, .int .i64 F, .bool D], .int .i64 1] w16 fun e w' => e = .returned (.int .i64 mm) ∧ Below w16.heap.size w16 w') := HHELD
  clear HHELD
  go_wp2_with fail
  refine (HHELD'.out).mono ?_
  rintro e w17 ⟨rfl, hb17⟩
  have hneg3 : ¬ mm < 0 := by omega
  have heq3 : (mm != mm) = false := by simp
  have lw17 := LY.grow HW16.out hb17
  clear c0 c1 c2 c3
  obtain ⟨c0, c1, c2, c3⟩ := lw17.ls.cells
  have HW17 : Hid (LY w w17 #[.slice a n cap, .slice a' n' cap', .int .i64 f, .bool d] W E Bw W #[.slice wa Z.length wc, .slice wx P.length wy, .int .i64 F, .bool D] Z P F D) := lw17
  clear hb17 HW16 HD16 HHELD' hm0 lw17
  go_wp2_with fail
  refine (HTOD.out w17 (LV.below (LY.ls HW17.out))).mono ?_
  rintro e w18 ⟨v18, rfl, D18, hb18⟩
  have HW18 : Hid (LY w w18 #[.slice a n cap, .slice a' n' cap', .int .i64 f, .bool d] W E Bw W #[.slice wa Z.length wc, .slice wx P.length wy, .int .i64 F, .bool D] Z P F D) := LY.grow HW17.out hb18
  have D18' := D18.at_
  clear D18 hb18 HW17 c0 c1 c2 c3
  go_wp2_with fail
  refine (HTOB.out w18 (LV.below (LY.ls HW18.out))).mono ?_
  rintro e w18' ⟨rfl, hrb, hbb⟩
  have HW18' : Hid (LY w w18' #[.slice a n cap, .slice a' n' cap', .int .i64 f, .bool d] W E Bw W #[.slice wa Z.length wc, .slice wx P.length wy, .int .i64 F, .bool D] Z P F D) := LY.grow HW18.out hbb
  have D18'' := D18'.below hbb
  clear hbb HW18 D18'
  go_wp2_with fail
  refine (HISY'.out v18 _ _ w18' D18'' hrb.at_).mono ?_
  rintro e w19 ⟨r19, rfl, D19, hb19⟩
  have HW19 : Hid (LY w w19 #[.slice a n cap, .slice a' n' cap', .int .i64 f, .bool d] W E Bw W #[.slice wa Z.length wc, .slice wx P.length wy, .int .i64 F, .bool D] Z P F D) := LY.grow HW18'.out hb19
  have D19' := D19
  obtain ⟨ha, hc, hx, hy, _, rfl, _⟩ := D19'
  have HH19 : Hid (DAt w19 (.agg #[.slice ha Z.length hc, .slice hx P.length hy, .int .i64 F, .bool D]) Z P F D) := D19.at_
  clear D19 hb19 HW18' D18'' hrb
  go_wp2_with (refine wpList_storeW rfl 29 (.tmp 15) (.tmp 82) rfl w19.heap.size #[.slice ha Z.length hc, .slice hx P.length hy, .int .i64 F, .bool D] rfl rfl 29 _ (heap_alloc_new w19 _) HSD.out rfl (all4e _ _ _ _ _ _ _ _) ?_)
  intro w20 hr20 hw20
  have hb20 : Below w19.heap.size w19 w20 := ((Below.refl _ _).alloc (Nat.le_refl _) _).trans (hw20.below (Nat.le_refl _))
  have lw20 := LY.grow HW19.out hb20
  obtain ⟨c0, c1, c2, c3⟩ := row4 hr20
  obtain ⟨k0, k1, k2, k3⟩ := row4 lw20.bw
  have HS20 : Hid (LY w w20 #[.slice a n cap, .slice a' n' cap', .int .i64 f, .bool d] W E Bw W #[.slice wa Z.length wc, .slice wx P.length wy, .int .i64 F, .bool D] Z P F D) := lw20
  have HD20 : Hid (DAt w20 (.agg #[.slice ha Z.length hc, .slice hx P.length hy, .int .i64 F, .bool D]) Z P F D) := DAt.below HH19.out hb20
  clear lw20 hr20 hw20 hb20 HW19 HH19
  go_wp2_with fail
  refine (eqD_any _ _ Z P F D w20 HD20.out (LY.dw HS20.out).at_ hZl hPl HPB.out).mono ?_
  rintro e w21 ⟨rfl, hb21⟩
  have HB21 : Hid (Below w.heap.size w w21) := (LV.below (LY.ls HS20.out)).trans (hb21.mono (by have := LY.hW HS20.out; omega))
  clear hb21 HS20 HD20 c0 c1 c2 c3 k0 k1 k2 k3
  go_wp2
  go_ret
  exact ⟨rfl, HB21.out⟩

set_option maxRecDepth 100000 in
theorem lifted (os : Os) (started : os.Started) (H : Type) (enc : TypeId × Value → H) :
    ReturnsInHanded {} Try.checked os 3 .any (Rows.fnExactDevWriteSpec.pre6 enc Try.prog Try.f3 Rows.fnExactDevWriteRow.domain false) (Rows.fnExactDevWriteSpec.post enc Try.prog Try.f3 false true false false) := by
  refine returnsInHanded_of_change (C := Try.checked) own started (by kernel_rfl) Try.func3
    (ChangeSpec.witness6 (enc := enc) (C := Try.checked) false ⟨#[], #[.agg #[.slice none 0 0, .slice none 0 0, .int .i64 0, .bool false], .int .i64 0, .slice none 0 0], []⟩ 8 (by kernel_rfl) (by kernel_rfl) (by kernel_rfl) (by kernel_rfl)) ?_
  intro W base args ds gs before hval0 hW hcnd _
  have hval : ∀ (j : Nat) t v, Try.f3.params[j]? = some t → args[j]? = some v → Value.okWide Try.prog W .any base t v := hval0
  have hW' := hW
  obtain ⟨p, q, hA0, hV, rfl, hfz, hnd⟩ := hW
  have hA : DataW.TrodAll enc Try.prog W 0 (fun _ => true) true Try.f3.params.toList args.toList ds p := hA0
  rw [Try.params3] at hA hval
  obtain ⟨v0, vs0, d0, ds0, p0, q0, hargs, rfl, rfl, h0, r0⟩ := trodAll_cons hA
  obtain ⟨v1, vs1, d1, ds1, p1, q1, hargs1, rfl, rfl, h1, r1⟩ := trodAll_cons r0
  obtain ⟨v2, vs2, d2, ds2, p2, q2, hargs2, rfl, rfl, h2, r2⟩ := trodAll_cons r1
  obtain ⟨rfl, rfl, rfl⟩ := trodAll_nil r2
  obtain rfl : args = #[v0, v1, v2] := by cases args; simp_all
  obtain ⟨rfl, rfl⟩ := trodVars_none hV
  have k0 := h0
  have k1 := h1
  have k2 := h2
  have lt0 : ∀ x ∈ p0, x.block < W.heap.size := by obtain ⟨m, hm⟩ := k0; exact DataW.trod_lt m _ _ _ hm
  have lt1 : ∀ x ∈ p1, x.block < W.heap.size := by obtain ⟨m, hm⟩ := k1; exact DataW.trod_lt m _ _ _ hm
  have lt2 : ∀ x ∈ p2, x.block < W.heap.size := by obtain ⟨m, hm⟩ := k2; exact DataW.trod_lt m _ _ _ hm
  obtain ⟨a, n, cap, a', n', cap', zs, ps, f, d, rfl, hn, hn', hm, hm', ha, ha', hps, _, _, hf⟩ := dev_of (hval 0 25 v0 rfl rfl) h0
  obtain ⟨s, rfl, rfl, rfl, w1⟩ := open_int Try.underlying2 (hval 1 2 v1 rfl rfl) h1
  obtain ⟨ya0, yn0, yc0, hv2⟩ := okWide_slice Try.underlying22 (hval 2 22 v2 rfl rfl)
  have hcs : ∃ ya yn yc z, v2 = .slice ya yn yc ∧ z.length = yn ∧ yn ≤ 9223372036854775807 ∧ At .u8 W ya z := by
    obtain ⟨fuel, h2'⟩ := h2
    rw [hv2] at h2'
    obtain ⟨ya, yn, yc, z, e, g1, g2, _, g3⟩ := bytes_of (v := .slice ya0 yn0 yc0) h2'
    exact ⟨ya, yn, yc, z, hv2.trans e, g1, g2, g3⟩
  obtain ⟨ya, yn, yc, z, rfl, hyn, hym, hy⟩ := hcs
  clear hA0 hval0
  refine (walk a n cap a' n' cap' zs ps f d W hn hn' hm hm' ha ha' hps hf.2 s ya yn yc z hyn hym hy).mono fun e W' ⟨he, bel⟩ => ?_
  subst he
  exact ⟨_, rfl, _, _, _, [], _, [], hW', trodAll_mk1 (shut_bool Try.underlying4 _), (trodAll_cons_mk (Below.trod laidOut (by kernel_rfl) (of_decide_eq_true (by kernel_rfl)) k0 bel lt0) (trodAll_cons_mk (Below.trod laidOut (by kernel_rfl) (of_decide_eq_true (by kernel_rfl)) k1 bel lt1) (trodAll_cons_mk (Below.trod laidOut (by kernel_rfl) (of_decide_eq_true (by kernel_rfl)) k2 bel lt2) trodAll_mk0))), rfl, bel.frame _, fun h => by cases h⟩

theorem over : Rows.fnExactDevWriteRow.holds Try.pinned (OpenSpec.ofChange Rows.fnExactDevWriteSpec) :=
  OpenClaim.holds_of_wide 3 Try.f3 rfl rfl rfl rfl rfl rfl rfl ⟨rfl, rfl, rfl, rfl, rfl⟩ rfl rfl rfl rfl rfl (by kernel_rfl) Try.func3 (by kernel_rfl)
    (of_decide_eq_true (by kernel_rfl)) (by unfold Func.isWrapper; first | (rw [if_pos (by decide +kernel)]; kernel_rfl) | (rw [if_neg (by decide +kernel)]; exact ⟨rfl, rfl⟩))
    (fun os started H enc _ => lifted os started H enc)
end Go.Proofs.Ytiignammhieidaa.lwr
namespace Go.Proofs.Ytiignammhieidaa
theorem devWrite_holds : Rows.FnExactDevWriteSaid := lwr.over
#print axioms devWrite_holds
end Go.Proofs.Ytiignammhieidaa
