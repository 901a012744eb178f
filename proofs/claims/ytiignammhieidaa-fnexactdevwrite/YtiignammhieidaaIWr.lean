/-
  Own work: the program's DevWrite.
-/
import Derived.Test.YtiignammhieidaaClo
import Derived.Test.YtiignammhieidaaSWr
namespace Go.Proofs.Ytiignammhieidaa
open Go.ChangeShapes Go.WideShapes Go.ChangeAt Go.RowKit
set_option linter.unusedVariables false

set_option maxHeartbeats 400000 in
set_option maxRecDepth 100000 in
theorem upl_clo (caps : Array Value) (c0 c1 c2 : Value) (w : World) (R : World → Prop) (h : Calls Try.prog 28 #[c0, c1, c2] w fun e w' => (e = .returned (.tuple #[]) ∨ e = .panicked [{ v := lossV, recovered := false }]) ∧ R w') :
    Calls Try.prog 27 #[.func (Fn.func 28) #[] #[c0, c1, c2]] w fun e w' => e = .returned (.tuple #[]) ∧ ∃ w1, R w1 ∧ Below w1.heap.size w1 w' := by
  have hmf : ∀ (fn : Fn) (first cap : Array Value) (w : World), (Instr.makeFunc fn first cap).run Try.prog w = .ok (.func fn first cap) w := fun _ _ _ _ => rfl
  go_enter_defers Try.func27, Try.ntmps27
  go_wp2_with fail
  refine h.mono ?_
  clear h
  rintro e w1 ⟨rfl | rfl, hR⟩
  · have HR : Hid _ := hR
    clear hR
    go_wp2
    refine leaves_cons (f := 40) (args := #[]) (by simp) (by simp [go_sem]) ?_
    refine (catch_idle _).mono ?_
    rintro e u' w'' ⟨rfl, rfl, hb⟩
    have hfin : ∃ w1, R w1 ∧ Below w1.heap.size w1 w'' := ⟨w1, HR.out, hb⟩
    simp [Leaves, settle, results, Try.results27, go_sem]
    exact hfin
  · have HR : Hid _ := hR
    clear hR
    refine leaves_cons (f := 40) (args := #[]) (by simp) (by simp [go_sem]) ?_
    refine (catch_loss _).mono ?_
    rintro e u' w'' ⟨rfl, rfl, hb⟩
    have hfin : ∃ w1, R w1 ∧ Below w1.heap.size w1 w'' := ⟨w1, HR.out, hb⟩
    simp [Leaves, settle, results, Try.results27, go_sem]
    exact hfin

/-- The boxes of the parameters and of the result. -/
structure B4 (w wr : World) (C1 : Array Value) (v1 v2 : Value) : Prop where
  below : Below w.heap.size w wr
  b0 : wr.heap[w.heap.size]? = some (.cells C1 29 (0, 0))
  b1 : wr.heap[w.heap.size + 1]? = some (.cells #[v1] 2 (0, 0))
  b2 : wr.heap[w.heap.size + 1 + 1]? = some (.cells #[v2] 22 (0, 0))
  b3 : wr.heap[w.heap.size + 1 + 1 + 1]? = some (.cells #[.slice none 0 0, .slice none 0 0, .int .i64 0, .bool false] 29 (0, 0))
theorem B4.sz {w wr : World} {C1 : Array Value} {v1 v2 : Value} (h : B4 w wr C1 v1 v2) : w.heap.size + 3 < wr.heap.size := (Array.getElem?_eq_some_iff.1 h.b3).1
theorem B4.grow {w wr w' : World} {C1 : Array Value} {v1 v2 : Value} (h : B4 w wr C1 v1 v2) (hb : Below wr.heap.size wr w') : B4 w w' C1 v1 v2 := by
  have := h.sz
  exact ⟨h.below.trans (hb.mono h.below.size), by rw [hb.block _ (by omega)]; exact h.b0, by rw [hb.block _ (by omega)]; exact h.b1, by rw [hb.block _ (by omega)]; exact h.b2, by rw [hb.block _ (by omega)]; exact h.b3⟩
theorem B4.start (w : World) (C1 : Array Value) (v1 v2 : Value) : B4 w ((((w.alloc (.cells C1 29)).alloc (.cells #[v1] 2)).alloc (.cells #[v2] 22)).alloc (.cells #[.slice none 0 0, .slice none 0 0, .int .i64 0, .bool false] 29)) C1 v1 v2 := by
  have n0 := heap_alloc_new w (.cells C1 29)
  have n1 := heap_alloc_new (w.alloc (.cells C1 29)) (.cells #[v1] 2)
  have n2 := heap_alloc_new ((w.alloc (.cells C1 29)).alloc (.cells #[v1] 2)) (.cells #[v2] 22)
  have n3 := heap_alloc_new (((w.alloc (.cells C1 29)).alloc (.cells #[v1] 2)).alloc (.cells #[v2] 22)) (.cells #[.slice none 0 0, .slice none 0 0, .int .i64 0, .bool false] 29)
  have h1 := (Below.refl _ (w.alloc (.cells C1 29))).alloc (Nat.le_refl _) (.cells #[v1] 2)
  have h2 := (Below.refl _ ((w.alloc (.cells C1 29)).alloc (.cells #[v1] 2))).alloc (Nat.le_refl _) (.cells #[v2] 22)
  have h3 := (Below.refl _ (((w.alloc (.cells C1 29)).alloc (.cells #[v1] 2)).alloc (.cells #[v2] 22))).alloc (Nat.le_refl _) (.cells #[.slice none 0 0, .slice none 0 0, .int .i64 0, .bool false] 29)
  refine ⟨((((Below.refl w.heap.size w).alloc (Nat.le_refl _) _).alloc (by simp) _).alloc (by simp <;> omega) _).alloc (by simp <;> omega) _, ?_, ?_, ?_, ?_⟩
  · rw [h3.block _ (by simp <;> omega), h2.block _ (by simp <;> omega), h1.block _ (by simp)]; exact n0
  · rw [h3.block _ (by simp <;> omega), h2.block _ (by simp)]; simpa using n1
  · rw [h3.block _ (by simp)]; simpa using n2
  · simpa using n3

set_option maxHeartbeats 2000000 in
set_option maxRecDepth 100000 in
theorem iwr_any (v : Value) (zs : List Int) (ps : List PD) (f : Int) (d : Bool) (s : Int) (xa : Option Addr) (xn xc : Nat) (z : List Int) (w : World) (h : DAt w v zs ps f d) (hx : At .u8 w xa z) (hxn : z.length = xn) (hz : zs.length ≤ 1048576) (hn : ps.length ≤ 1048576) (hps : ∀ i, (ps.getD i (0, [])).2.length ≤ 1048576) (hzn : xn ≤ 1048576) :
    Calls Try.prog 9 #[v, .int .i64 s, .slice xa xn xc] w fun e w' => ∃ r, e = .returned r ∧ DMine w.heap.size w'.heap.size w' r zs (wrP zs.length ps f d s z) (wrF zs.length ps f d s z.length) (wrD zs.length ps f d s z.length) ∧ Below w.heap.size w w' := by
  have HSD : Hid _ := Try.sizeDv
  have hmf : ∀ (fn : Fn) (first cap : Array Value) (w : World), (Instr.makeFunc fn first cap).run Try.prog w = .ok (.func fn first cap) w := fun _ _ _ _ => rfl
  have hD := h
  obtain ⟨a, cap, x, cx, rfl, hA, hP, hcap⟩ := h
  have HV : Hid (∀ ww : World, Below w.heap.size w ww → Calls Try.prog 25 #[.agg #[.slice a zs.length cap, .slice x ps.length cx, .int .i64 f, .bool d]] ww fun e w' => e = .returned (.bool (validB zs.length ps f)) ∧ Below ww.heap.size ww w') := fun ww hb => ival_any _ zs ps f d ww (hD.below hb) hz hn hps
  have HCP : Hid (∀ ww : World, Below w.heap.size w ww → Calls Try.prog 24 #[.agg #[.slice a zs.length cap, .slice x ps.length cx, .int .i64 f, .bool d]] ww fun e w' => ∃ r, e = .returned r ∧ DvOwn w' ww.heap.size r zs ps f d ∧ Below ww.heap.size ww w') := fun ww hb => icp_any _ zs ps f d ww (hD.below hb) hz hn hps
  have HX : Hid (At .u8 w xa z) := hx
  have HEQ : Hid (∀ P F D, wrP zs.length ps f d s z = P → wrF zs.length ps f d s z.length = F → wrD zs.length ps f d s z.length = D → ∀ (w' : World) (r : Value), DMine w.heap.size w'.heap.size w' r zs P F D → DMine w.heap.size w'.heap.size w' r zs (wrP zs.length ps f d s z) (wrF zs.length ps f d s z.length) (wrD zs.length ps f d s z.length)) := by
    intro P F D h2 h3 h4 w' r hd; rw [h2, h3, h4]; exact hd
  have HOFF : Hid (wrOn zs.length ps f d s z.length = false → wrP zs.length ps f d s z = ps ∧ wrF zs.length ps f d s z.length = f ∧ wrD zs.length ps f d s z.length = d) := by
    intro h; unfold wrP wrF wrD; rw [h]; simp
  have HON : Hid (wrOn zs.length ps f d s z.length = true → (f = 0 → wrP zs.length ps f d s z = ps) ∧ (f ≠ 0 → wrP zs.length ps f d s z = ps ++ [(s, z)]) ∧ wrF zs.length ps f d s z.length = stF f ∧ wrD zs.length ps f d s z.length = stD f d) := by
    intro h; unfold wrP wrF wrD; rw [h]; refine ⟨fun hf => by simp [hf], fun hf => by simp [hf], rfl, rfl⟩
  have hwon : wrOn zs.length ps f d s z.length = (validB zs.length ps f && !d && hasS zs.length s && decide (z.length = 64) && decide (ps.length ≠ 1000)) := rfl
  have HVO : Hid (validB zs.length ps f = true → vBase zs.length ps.length f ∧ PsOk zs.length ps) := validB_of
  rw [hxn] at HEQ HOFF HON hwon ⊢
  obtain ⟨L, hL⟩ : ∃ L, zs.length = L := ⟨_, rfl⟩
  obtain ⟨m, hm⟩ : ∃ m, ps.length = m := ⟨_, rfl⟩
  have HHL : Hid (zs.length = L ∧ ps.length = m ∧ z.length = xn) := ⟨hL, hm, hxn⟩
  rw [hL] at hz HV HCP HEQ HOFF HON hwon HVO ⊢
  rw [hm] at hn HV HCP hwon HVO ⊢
  obtain ⟨W0, hW0⟩ : ∃ W0, wrOn L ps f d s xn = W0 := ⟨_, rfl⟩
  rw [hW0] at HOFF HON hwon
  clear hL hm hA hP hcap hps hD hx hxn hW0
  have HS0 : Hid (B4 w _ #[.slice a L cap, .slice x m cx, .int .i64 f, .bool d] (.int .i64 s) (.slice xa xn xc)) := B4.start w #[.slice a L cap, .slice x m cx, .int .i64 f, .bool d] (.int .i64 s) (.slice xa xn xc)
  go_enter Try.func9, Try.ntmps9
  go_wp2_with fail
  have st1 := HS0.out
  clear HS0
  generalize ((((w.alloc (.cells #[.slice a L cap, .slice x m cx, .int .i64 f, .bool d] 29)).alloc (.cells #[.int .i64 s] 2)).alloc (.cells #[.slice xa xn xc] 22)).alloc (.cells #[.slice none 0 0, .slice none 0 0, .int .i64 0, .bool false] 29)) = w1 at *
  refine (HCP.out w1 st1.below).mono ?_
  rintro e w2 ⟨r, rfl, D2, hb2⟩
  have st2 := st1.grow hb2
  have hs1 := st1.sz
  have hs2 := hb2.size
  obtain ⟨dv, cv, qs, E, rfl, O2, P2, hq2, hBE, hEw, hdv⟩ := D2
  obtain ⟨da, dc, e1⟩ := O2.sl'
  obtain ⟨ca, cc, e2, _⟩ := P2.mine
  have hql : qs.length = m := by
    have h1 : (qps qs).length = ps.length := by rw [hq2]
    have h2 := HHL.out.2.1
    simp [qps] at h1; omega
  rw [HHL.out.1] at e1
  rw [hql] at e2
  subst e1 e2
  have HO2 : Hid (OwnN w2 w1.heap.size (.slice da L dc) zs) := O2
  have HP2 : Hid (POwn w2 E (.slice ca m cc) qs) := P2
  have HDV : Hid (∀ k, (Value.slice da L dc).ownBlock = some k → k < E) := hdv
  have HQ2 : Hid (qps qs = ps) := hq2
  have HS2 : Hid (B4 w w2 #[.slice a L cap, .slice x m cx, .int .i64 f, .bool d] (.int .i64 s) (.slice xa xn xc)) := st2
  clear st1 st2 hb2 O2 P2 hdv hq2 HCP
  go_wp2_with (refine wpList_storeW rfl 29 (.tmp 7) (.tmp 9) rfl w2.heap.size #[.slice da L dc, .slice ca m cc, .int .i64 f, .bool d] rfl rfl 29 _ (heap_alloc_new w2 _) HSD.out rfl (all4e _ _ _ _ _ _ _ _) ?_)
  intro w3 hr3 hw3
  have hb3 : Below w2.heap.size w2 w3 := ((Below.refl _ _).alloc (Nat.le_refl _) _).trans (hw3.below (Nat.le_refl _))
  have st3 := B4.grow HS2.out hb3
  have hA3 : w2.heap.size < w3.heap.size := (Array.getElem?_eq_some_iff.1 hr3).1
  obtain ⟨c0, c1, c2, c3⟩ := row4 st3.b0
  have HO3 : Hid (OwnN w3 w1.heap.size (.slice da L dc) zs) := OwnN.grow HO2.out hb3
  have HP3 : Hid (POwn w3 E (.slice ca m cc) qs) := POwn.below HP2.out hb3
  have HR3 : Hid (w3.heap[w2.heap.size]? = some (.cells #[.slice da L dc, .slice ca m cc, .int .i64 f, .bool d] 29 (0, 0))) := hr3
  have HS3 : Hid (B4 w w3 #[.slice a L cap, .slice x m cx, .int .i64 f, .bool d] (.int .i64 s) (.slice xa xn xc)) := st3
  clear st3 hr3 hw3 hb3 HO2 HP2 HS2
  generalize w2.heap.size = A at *
  go_wp2_with fail
  refine (HV.out w3 (B4.below HS3.out)).mono ?_
  rintro e w4 ⟨rfl, hb4⟩
  have st4 := B4.grow HS3.out hb4
  have hs4 := hb4.size
  have HR4 : Hid (w4.heap[A]? = some (.cells #[.slice da L dc, .slice ca m cc, .int .i64 f, .bool d] 29 (0, 0))) := by unfold Hid; rw [hb4.block _ hA3]; exact HR3.out
  have HO4 : Hid (OwnN w4 w1.heap.size (.slice da L dc) zs) := OwnN.grow HO3.out hb4
  have HP4 : Hid (POwn w4 E (.slice ca m cc) qs) := POwn.below HP3.out hb4
  have HS4 : Hid (B4 w w4 #[.slice a L cap, .slice x m cx, .int .i64 f, .bool d] (.int .i64 s) (.slice xa xn xc)) := st4
  obtain ⟨y0, y1, y2, y3⟩ := row4 st4.b0
  have s0 : w4.cell? ⟨w.heap.size + 1, 0, none⟩ = some (.int .i64 s) := cell_of_row _ _ _ _ _ _ st4.b1
  have d0 : w4.cell? ⟨w.heap.size + 1 + 1, 0, none⟩ = some (.slice xa xn xc) := cell_of_row _ _ _ _ _ _ st4.b2
  have HHAS : Hid (Calls Try.prog 26 #[.pointer (some ⟨w.heap.size, 0, none⟩), .int .i64 s] w4 fun e w' => e = .returned (.bool (hasS L s)) ∧ w' = w4) := has_any w.heap.size a x L cap m cx f s d w4 st4.b0 hz
  clear st4 hb4 HV HS3 HO3 HP3 HR3 c0 c1 c2 c3
  have FIN : Hid (∀ (w6 : World) (C : Array Value) (P : List PD) (F : Int) (D : Bool), wrP L ps f d s z = P → wrF L ps f d s xn = F → wrD L ps f d s xn = D → DvOwn w6 w1.heap.size (.agg C) zs P F D → w6.heap[w.heap.size + 1 + 1 + 1]? = some (.cells #[.slice none 0 0, .slice none 0 0, .int .i64 0, .bool false] 29 (0, 0)) → Below w.heap.size w w6 →
      DMine w.heap.size (w6.setRow (w.heap.size + 1 + 1 + 1) C).heap.size (w6.setRow (w.heap.size + 1 + 1 + 1) C) (.agg C) zs (wrP L ps f d s z) (wrF L ps f d s xn) (wrD L ps f d s xn) ∧ Below w.heap.size w (w6.setRow (w.heap.size + 1 + 1 + 1) C)) := by
    intro w6 C P F D e1 e2 e3 D6 hb1 hbw
    refine ⟨HEQ.out _ _ _ e1 e2 e3 _ _ ?_, hbw.trans ((Wr.setRow _ _ _).below (by omega))⟩
    have h5 := (D6.keep (w' := w6.setRow (w.heap.size + 1 + 1 + 1) C) (fun j cur t hj _ _ => (Wr.setRow _ _ _).block j (by omega)) (by rw [size_setRow]; exact Nat.le_refl _)).mine
    exact h5.mono (by omega)
  have OFFK : Hid (W0 = false → DMine w.heap.size (w4.setRow (w.heap.size + 1 + 1 + 1) #[.slice da L dc, .slice ca m cc, .int .i64 f, .bool d]).heap.size (w4.setRow (w.heap.size + 1 + 1 + 1) #[.slice da L dc, .slice ca m cc, .int .i64 f, .bool d]) (.agg #[.slice da L dc, .slice ca m cc, .int .i64 f, .bool d]) zs (wrP L ps f d s z) (wrF L ps f d s xn) (wrD L ps f d s xn) ∧ Below w.heap.size w (w4.setRow (w.heap.size + 1 + 1 + 1) #[.slice da L dc, .slice ca m cc, .int .i64 f, .bool d])) := by
    intro hw0
    obtain ⟨e1, e2, e3⟩ := HOFF.out hw0
    exact FIN.out w4 _ ps f d e1 e2 e3 ⟨_, _, qs, E, rfl, HO4.out, HP4.out, HQ2.out, hBE, by omega, HDV.out⟩ (B4.b3 HS4.out) (B4.below HS4.out)
  have K1 : Hid (w4.heap[w.heap.size + 1 + 1 + 1]? = some (.cells #[.slice none 0 0, .slice none 0 0, .int .i64 0, .bool false] 29 (0, 0))) := B4.b3 HS4.out
  obtain ⟨z0, z1, z2, z3⟩ := row4 HR4.out
  cases hval : validB L ps f with
  | false =>
    have K2 : Hid _ := OFFK.out (by rw [hwon, hval]; simp)
    clear OFFK FIN HHAS
    go_wp2_with (refine wpList_store_row rfl 29 (.tmp 6) (.tmp 33) rfl (w.heap.size + 1 + 1 + 1) #[.slice da L dc, .slice ca m cc, .int .i64 f, .bool d] rfl rfl 29 _ K1.out HSD.out rfl (all4e _ _ _ _ _ _ _ _) ?_)
    (try simp only [Exit.inBlock, Exit.then])
    exact bodyPost_ret (v := .agg #[.slice da L dc, .slice ca m cc, .int .i64 f, .bool d]) (results_cell_row rfl _ _ (w.heap.size + 1 + 1 + 1) 29 _ (0, 0) _ rfl (setRow_heap _ _ _ _ _ _ K1.out) Try.underlying29 rfl HSD.out) rfl ⟨_, rfl, K2.out.1, K2.out.2⟩
  | true =>
    cases hdd : d with
    | true =>
      subst hdd
      have K2 : Hid _ := OFFK.out (by rw [hwon]; simp)
      clear OFFK FIN HHAS
      go_wp2_with (refine wpList_store_row rfl 29 (.tmp 6) (.tmp 33) rfl (w.heap.size + 1 + 1 + 1) #[.slice da L dc, .slice ca m cc, .int .i64 f, .bool true] rfl rfl 29 _ K1.out HSD.out rfl (all4e _ _ _ _ _ _ _ _) ?_)
      (try simp only [Exit.inBlock, Exit.then])
      exact bodyPost_ret (v := .agg #[.slice da L dc, .slice ca m cc, .int .i64 f, .bool true]) (results_cell_row rfl _ _ (w.heap.size + 1 + 1 + 1) 29 _ (0, 0) _ rfl (setRow_heap _ _ _ _ _ _ K1.out) Try.underlying29 rfl HSD.out) rfl ⟨_, rfl, K2.out.1, K2.out.2⟩
    | false =>
      subst hdd
      go_wp2_with fail
      refine HHAS.out.mono ?_
      rintro e w9 ⟨rfl, rfl⟩
      cases hh : hasS L s with
      | false =>
        have K2 : Hid _ := OFFK.out (by rw [hwon, hh]; simp)
        clear OFFK FIN HHAS
        go_wp2_with (refine wpList_store_row rfl 29 (.tmp 6) (.tmp 33) rfl (w.heap.size + 1 + 1 + 1) #[.slice da L dc, .slice ca m cc, .int .i64 f, .bool false] rfl rfl 29 _ K1.out HSD.out rfl (all4e _ _ _ _ _ _ _ _) ?_)
        (try simp only [Exit.inBlock, Exit.then])
        exact bodyPost_ret (v := .agg #[.slice da L dc, .slice ca m cc, .int .i64 f, .bool false]) (results_cell_row rfl _ _ (w.heap.size + 1 + 1 + 1) 29 _ (0, 0) _ rfl (setRow_heap _ _ _ _ _ _ K1.out) Try.underlying29 rfl HSD.out) rfl ⟨_, rfl, K2.out.1, K2.out.2⟩
      | true =>
        by_cases hx64 : xn = 64
        · have hx64' : ((xn : Int) != 64) = false := by simp; omega
          by_cases hm1 : m = 1000
          · have K2 : Hid _ := OFFK.out (by rw [hwon, hm1]; simp)
            have hm1' : ((m : Int) == 1000) = true := by simp; omega
            clear hm1 hx64 hwon
            clear OFFK FIN HHAS
            go_wp2_with (refine wpList_store_row rfl 29 (.tmp 6) (.tmp 33) rfl (w.heap.size + 1 + 1 + 1) #[.slice da L dc, .slice ca m cc, .int .i64 f, .bool false] rfl rfl 29 _ K1.out HSD.out rfl (all4e _ _ _ _ _ _ _ _) ?_)
            (try simp only [Exit.inBlock, Exit.then])
            exact bodyPost_ret (v := .agg #[.slice da L dc, .slice ca m cc, .int .i64 f, .bool false]) (results_cell_row rfl _ _ (w.heap.size + 1 + 1 + 1) 29 _ (0, 0) _ rfl (setRow_heap _ _ _ _ _ _ K1.out) Try.underlying29 rfl HSD.out) rfl ⟨_, rfl, K2.out.1, K2.out.2⟩
          · have hw1 : W0 = true := by rw [hwon, hval, hh]; simp [hx64, hm1]
            obtain ⟨p0, p1, p2, p3⟩ := HON.out hw1
            obtain ⟨⟨v1, v2, v3, v4, v5, v6⟩, _⟩ := HVO.out hval
            have hm1' : ((m : Int) == 1000) = false := by simp; omega
            have HPP : Hid ((f = 0 → wrP L ps f false s z = ps) ∧ (f ≠ 0 → wrP L ps f false s z = ps ++ [(s, z)]) ∧ wrF L ps f false s xn = stF f ∧ wrD L ps f false s xn = stD f false) := ⟨p0, p1, p2, p3⟩
            have hz64 : z.length = 64 := by rw [HHL.out.2.2]; exact hx64
            have HZ64 : Hid (z.length = 64 ∧ xn = 64) := ⟨hz64, hx64⟩
            clear hx64 hm1 hwon hw1 p0 p1 p2 p3 HOFF HON OFFK HHAS HEQ HVO K1 hz64
            have hsz4 := B4.sz HS4.out
            have HD4 : Hid (DvOwn w9 w1.heap.size (.agg #[.slice da L dc, .slice ca m cc, .int .i64 f, .bool false]) zs ps f false) := ⟨_, _, qs, E, rfl, HO4.out, HP4.out, HQ2.out, hBE, by omega, HDV.out⟩
            have hA4 : A < w9.heap.size := by omega
            by_cases hf0 : f = 0
            · have hc := clo_any A (w.heap.size + 1) (w.heap.size + 1 + 1) s xa xn xc z w9 s0 d0 (by omega) (by omega) (At.below HX.out (B4.below HS4.out)) HHL.out.2.2 HZ64.out.2 []
                (fun w' => w'.heap[A]? = some (.cells #[.slice da L dc, .slice ca m cc, .int .i64 0, .bool true] 29 (0, 0)) ∧ WR A none w9 w')
                (fun ww => ww.heap[A]? = some (.cells #[.slice da L dc, .slice ca m cc, .int .i64 0, .bool false] 29 (0, 0)) ∧ Below w9.heap.size w9 ww)
                ⟨by rw [← hf0]; exact HR4.out, Below.refl _ _⟩
                (fun u1 u2 ht hb => ⟨by rw [hb.block _ (Array.getElem?_eq_some_iff.1 ht.1).1]; exact ht.1, ht.2.trans (hb.mono ht.2.size)⟩)
                (fun u1 ht => (write_no A _ _ s z u1 ht.1).mono (fun e w' hh => ⟨.inr hh.1, hh.2.1, (WR.of_below ht.2).trans hh.2.2⟩))
              have hu := upl_clo #[] _ _ _ w9 _ hc
              clear hc
              go_wp2_with fail
              refine hu.mono ?_
              clear hu
              rintro e w6 ⟨rfl, w5, ⟨hr5, hw5⟩, hb6⟩
              have hs5 := hw5.size
              have hr6 : w6.heap[A]? = some (.cells #[.slice da L dc, .slice ca m cc, .int .i64 0, .bool true] 29 (0, 0)) := by rw [hb6.block _ (by omega)]; exact hr5
              have hoth : ∀ j, j < w9.heap.size → j ≠ A → w6.heap[j]? = w9.heap[j]? := fun j hj hjA => (hb6.block j (by omega)).trans (hw5.block j hj hjA (by simp))
              have D6 : DvOwn w6 w1.heap.size (.agg #[.slice da L dc, .slice ca m cc, .int .i64 0, .bool true]) zs ps 0 true :=
                ((DvOwn.keep HD4.out (fun k cur t _ hh ht => hoth k (Array.getElem?_eq_some_iff.1 hh).1 (fun e => by rw [e, HR4.out] at hh; simp at hh; exact ht hh.2.symm)) (by have := hb6.size; omega)).refit 0 true)
              have hb1 : w6.heap[w.heap.size + 1 + 1 + 1]? = some (.cells #[.slice none 0 0, .slice none 0 0, .int .i64 0, .bool false] 29 (0, 0)) := by rw [hoth _ (by omega) (by omega)]; exact B4.b3 HS4.out
              have hbw : Below w.heap.size w w6 := (B4.below HS4.out).trans ⟨hb6.os.trans hw5.os, hb6.tape.trans hw5.tape, hb6.output.trans hw5.output, by have := hb6.size; omega, fun k hk => hoth k (by omega) (by omega)⟩
              obtain ⟨k2, k3⟩ := FIN.out w6 _ ps 0 true (HPP.out.1 hf0) (by rw [HPP.out.2.2.1, hf0]; rfl) (by rw [HPP.out.2.2.2, hf0]; rfl) D6 hb1 hbw
              have K1 : Hid (w6.heap[w.heap.size + 1 + 1 + 1]? = some (.cells #[.slice none 0 0, .slice none 0 0, .int .i64 0, .bool false] 29 (0, 0))) := hb1
              have K2 : Hid _ := And.intro k2 k3
              clear z0 z1 z2 z3
              obtain ⟨z0, z1, z2, z3⟩ := row4 hr6
              clear hr5 hw5 hb6 hr6 hoth D6 hb1 hbw k2 k3 y0 y1 y2 y3 s0 d0 HR4 HD4 HP4 HO4 HS4 FIN hf0 HPP
              go_wp2_with (refine wpList_store_row rfl 29 (.tmp 6) (.tmp 36) rfl (w.heap.size + 1 + 1 + 1) #[.slice da L dc, .slice ca m cc, .int .i64 0, .bool true] rfl rfl 29 _ K1.out HSD.out rfl (all4e _ _ _ _ _ _ _ _) ?_)
              (try simp only [Exit.inBlock, Exit.then])
              exact bodyPost_ret (v := .agg #[.slice da L dc, .slice ca m cc, .int .i64 0, .bool true]) (results_cell_row rfl _ _ (w.heap.size + 1 + 1 + 1) 29 _ (0, 0) _ rfl (setRow_heap _ _ _ _ _ _ K1.out) Try.underlying29 rfl HSD.out) rfl ⟨_, rfl, K2.out.1, K2.out.2⟩
            · have hc := clo_any A (w.heap.size + 1) (w.heap.size + 1 + 1) s xa xn xc z w9 s0 d0 (by omega) (by omega) (At.below HX.out (B4.below HS4.out)) HHL.out.2.2 HZ64.out.2 []
                (fun w' => ∃ cv' q, q.s = s ∧ q.z = z ∧ w'.heap[A]? = some (.cells #[.slice da L dc, cv', .int .i64 (stF f), .bool false] 29 (0, 0)) ∧ POwn w' E cv' (qs ++ [q]) ∧ WR A (Value.slice ca m cc).ownBlock w9 w')
                (fun ww => ww.heap[A]? = some (.cells #[.slice da L dc, .slice ca m cc, .int .i64 f, .bool false] 29 (0, 0)) ∧ POwn ww E (.slice ca m cc) qs ∧ Below w9.heap.size w9 ww)
                ⟨HR4.out, HP4.out, Below.refl _ _⟩
                (fun u1 u2 ht hb => ⟨by rw [hb.block _ (Array.getElem?_eq_some_iff.1 ht.1).1]; exact ht.1, ht.2.1.below hb, ht.2.2.trans (hb.mono ht.2.2.size)⟩)
                (fun u1 ht => (write_yes A E _ _ qs f s z u1 ht.1 ht.2.1 (by have := ht.2.2.size; omega) HZ64.out.1 (by omega) (by omega) (by omega)).mono (fun e w' hh => ⟨.inl hh.1, by
                  obtain ⟨cv', q, g1, g2, g3, g4, g5⟩ := hh.2
                  exact ⟨cv', q, g1, g2, g3, g4, (WR.of_below ht.2.2).trans g5⟩⟩))
              have hu := upl_clo #[] _ _ _ w9 _ hc
              clear hc
              go_wp2_with fail
              refine hu.mono ?_
              clear hu
              rintro e w6 ⟨rfl, w5, ⟨cv', q', hq1, hq2, hr5, hP5, hw5⟩, hb6⟩
              have hs5 := hw5.size
              obtain ⟨na, nc, e9, _⟩ := hP5.mine
              obtain ⟨n9, hn9⟩ : ∃ n9, (qs ++ [q']).length = n9 := ⟨_, rfl⟩
              rw [hn9] at e9
              clear hn9
              subst e9
              have hr6 : w6.heap[A]? = some (.cells #[.slice da L dc, .slice na n9 nc, .int .i64 (stF f), .bool false] 29 (0, 0)) := by rw [hb6.block _ (by omega)]; exact hr5
              have hcb : ∀ j, (Value.slice ca m cc).ownBlock = some j → E ≤ j := fun j e => (ownsRow_lt (POwn.row HP4.out) j e).1
              have O5 : OwnN w5 w1.heap.size (.slice da L dc) zs := OwnN.keep HO4.out (fun k e => by
                obtain ⟨_, h2, cur, h3⟩ := OwnN.lt HO4.out k e
                refine hw5.block k h2 (fun ek => ?_) (fun ek => ?_)
                · rw [ek, HR4.out] at h3; simp at h3
                · have := hcb k ek.symm; have := HDV.out k e; omega)
              have D5 : DvOwn w5 w1.heap.size (.agg #[.slice da L dc, .slice na n9 nc, .int .i64 (stF f), .bool false]) zs (ps ++ [(s, z)]) (stF f) false :=
                ⟨_, _, qs ++ [q'], E, rfl, O5, hP5, by rw [← HQ2.out]; simp [qps, hq1, hq2], hBE, by omega, HDV.out⟩
              have D6 := D5.grow hb6
              have hoth : ∀ j, j < w1.heap.size → w6.heap[j]? = w9.heap[j]? := fun j hj => (hb6.block j (by omega)).trans (hw5.block j (by omega) (by omega) (fun e => by have := hcb j e.symm; omega))
              have hb1 : w6.heap[w.heap.size + 1 + 1 + 1]? = some (.cells #[.slice none 0 0, .slice none 0 0, .int .i64 0, .bool false] 29 (0, 0)) := by rw [hoth _ (by omega)]; exact B4.b3 HS4.out
              have hbw : Below w.heap.size w w6 := (B4.below HS4.out).trans ⟨hb6.os.trans hw5.os, hb6.tape.trans hw5.tape, hb6.output.trans hw5.output, by have := hb6.size; omega, fun k hk => hoth k (by omega)⟩
              have hsD : stD f false = false := by unfold stD; rw [if_neg hf0]
              obtain ⟨k2, k3⟩ := FIN.out w6 _ (ps ++ [(s, z)]) (stF f) false (HPP.out.2.1 hf0) HPP.out.2.2.1 (by rw [HPP.out.2.2.2, hsD]) D6 hb1 hbw
              have K1 : Hid (w6.heap[w.heap.size + 1 + 1 + 1]? = some (.cells #[.slice none 0 0, .slice none 0 0, .int .i64 0, .bool false] 29 (0, 0))) := hb1
              have K2 : Hid _ := And.intro k2 k3
              clear z0 z1 z2 z3
              obtain ⟨z0, z1, z2, z3⟩ := row4 hr6
              clear hr5 hw5 hb6 hr6 hoth D6 D5 O5 hcb hb1 hbw k2 k3 y0 y1 y2 y3 s0 d0 HR4 HD4 HP4 HO4 HS4 FIN hf0 HPP hsD hq1 hq2 hP5
              go_wp2_with (refine wpList_store_row rfl 29 (.tmp 6) (.tmp 36) rfl (w.heap.size + 1 + 1 + 1) #[.slice da L dc, .slice na n9 nc, .int .i64 (stF f), .bool false] rfl rfl 29 _ K1.out HSD.out rfl (all4e _ _ _ _ _ _ _ _) ?_)
              (try simp only [Exit.inBlock, Exit.then])
              exact bodyPost_ret (v := .agg #[.slice da L dc, .slice na n9 nc, .int .i64 (stF f), .bool false]) (results_cell_row rfl _ _ (w.heap.size + 1 + 1 + 1) 29 _ (0, 0) _ rfl (setRow_heap _ _ _ _ _ _ K1.out) Try.underlying29 rfl HSD.out) rfl ⟨_, rfl, K2.out.1, K2.out.2⟩
        · have K2 : Hid _ := OFFK.out (by rw [hwon]; simp [hx64])
          have hx64' : ((xn : Int) != 64) = true := by simp; omega
          clear hx64 hwon
          clear OFFK FIN HHAS
          go_wp2_with (refine wpList_store_row rfl 29 (.tmp 6) (.tmp 33) rfl (w.heap.size + 1 + 1 + 1) #[.slice da L dc, .slice ca m cc, .int .i64 f, .bool false] rfl rfl 29 _ K1.out HSD.out rfl (all4e _ _ _ _ _ _ _ _) ?_)
          (try simp only [Exit.inBlock, Exit.then])
          exact bodyPost_ret (v := .agg #[.slice da L dc, .slice ca m cc, .int .i64 f, .bool false]) (results_cell_row rfl _ _ (w.heap.size + 1 + 1 + 1) 29 _ (0, 0) _ rfl (setRow_heap _ _ _ _ _ _ K1.out) Try.underlying29 rfl HSD.out) rfl ⟨_, rfl, K2.out.1, K2.out.2⟩
end Go.Proofs.Ytiignammhieidaa
