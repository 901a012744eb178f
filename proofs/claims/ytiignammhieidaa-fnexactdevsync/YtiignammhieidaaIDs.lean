/-
  Own work: the program's DevSync.
-/
import Derived.Test.YtiignammhieidaaISy
namespace Go.Proofs.Ytiignammhieidaa
open Go.ChangeShapes Go.WideShapes Go.ChangeAt Go.RowKit
set_option linter.unusedVariables false

/-- The bound of the memory may grow. -/
theorem DMine.wide {B U U' : Nat} {w : World} {v : Value} {zs : List Int} {ps : List PD} {f : Int} {d : Bool} (h : DMine B U w v zs ps f d) (hU : U ≤ U') (hw : U' ≤ w.heap.size) : DMine B U' w v zs ps f d := by
  obtain ⟨da, dc, ca, cc, B1, hv, p1, p2, p3, p4, p5, p5', p6, p7⟩ := h
  refine ⟨da, dc, ca, cc, B1, hv, p1, p2, p3, p4, by omega, hw, ?_, p7⟩
  rcases p6 with h | ⟨g, o, X, C, h1, h2, h3, h4, h5, h6⟩
  · exact .inl h
  · exact .inr ⟨g, o, X, C, h1, h2, by omega, hw, fun i hi => by obtain ⟨s1, s2, s3, s4, s5, s6, s7⟩ := h5 i hi; exact ⟨s1, s2, s3, s4, s5, fun ad e => by have := s6 ad e; exact ⟨this.1, by omega, this.2.2⟩, s7⟩, h6⟩

set_option maxHeartbeats 2000000 in
set_option maxRecDepth 100000 in
theorem isy_any (v : Value) (zs : List Int) (ps : List PD) (f : Int) (d : Bool) (w : World) (h : DAt w v zs ps f d) (hz : zs.length ≤ 1048576) (hn : ps.length ≤ 1048576) (hps : ∀ i, (ps.getD i (0, [])).2.length ≤ 1048576) :
    Calls Try.prog 16 #[v] w fun e w' => ∃ r, e = .returned r ∧ DMine w.heap.size w'.heap.size w' r (syZ zs ps f d) (syP zs.length ps f d) (syF zs.length ps f d) (syD zs.length ps f d) ∧ Below w.heap.size w w' := by
  have HSD : Hid _ := Try.sizeDv
  have hmf : ∀ (fn : Fn) (first cap : Array Value) (w : World), (Instr.makeFunc fn first cap).run Try.prog w = .ok (.func fn first cap) w := fun _ _ _ _ => rfl
  have hD := h
  obtain ⟨a, cap, x, cx, rfl, hA, hP, hcap⟩ := h
  have HV : Hid (∀ ww : World, Below w.heap.size w ww → Calls Try.prog 25 #[.agg #[.slice a zs.length cap, .slice x ps.length cx, .int .i64 f, .bool d]] ww fun e w' => e = .returned (.bool (validB zs.length ps f)) ∧ Below ww.heap.size ww w') := fun ww hb => ival_any _ zs ps f d ww (hD.below hb) hz hn hps
  have HCP : Hid (∀ ww : World, Below w.heap.size w ww → Calls Try.prog 24 #[.agg #[.slice a zs.length cap, .slice x ps.length cx, .int .i64 f, .bool d]] ww fun e w' => ∃ r, e = .returned r ∧ DMine ww.heap.size w'.heap.size w' r zs ps f d ∧ DvOwn w' ww.heap.size r zs ps f d ∧ Below ww.heap.size ww w') := fun ww hb => (icp_any _ zs ps f d ww (hD.below hb) hz hn hps).mono (fun e w' hh => by obtain ⟨r, h1, h2, h3⟩ := hh; exact ⟨r, h1, h2.mine, h2, h3⟩)
  have HEQ : Hid (∀ Z P F D, syZ zs ps f d = Z → syP zs.length ps f d = P → syF zs.length ps f d = F → syD zs.length ps f d = D → ∀ (w' : World) (r : Value), DMine w.heap.size w'.heap.size w' r Z P F D → DMine w.heap.size w'.heap.size w' r (syZ zs ps f d) (syP zs.length ps f d) (syF zs.length ps f d) (syD zs.length ps f d)) := by
    intro Z P F D h1 h2 h3 h4 w' r hd; rw [h1, h2, h3, h4]; exact hd
  have HVO : Hid (validB zs.length ps f = true → vBase zs.length ps.length f ∧ PsOk zs.length ps) := validB_of
  have HOFF : Hid (validB zs.length ps f = false ∨ d = true → syZ zs ps f d = zs ∧ syP zs.length ps f d = ps ∧ syF zs.length ps f d = f ∧ syD zs.length ps f d = d) := by
    rintro (hv | hv)
    · unfold syZ syP syF syD syOn; rw [hv]; simp
    · unfold syZ syP syF syD syOn; rw [hv]; simp
  have HNOF : Hid (validB zs.length ps f = true → d = false → f = 0 → syZ zs ps f d = zs ∧ syP zs.length ps f d = ps ∧ syF zs.length ps f d = 0 ∧ syD zs.length ps f d = true) := by
    intro h1 h2 h3; unfold syZ syP syF syD syOn; rw [h1, h2, h3]; simp [stF, stD]
  have HON : Hid (validB zs.length ps f = true → d = false → f ≠ 0 → syZ zs ps f d = syL zs ps ps.length ∧ syP zs.length ps f d = [] ∧ syF zs.length ps f d = stF f ∧ syD zs.length ps f d = false) := by
    intro h1 h2 h3; unfold syZ syP syF syD syOn stD; rw [h1, h2]; simp [h3]
  obtain ⟨L, hL⟩ : ∃ L, zs.length = L := ⟨_, rfl⟩
  obtain ⟨m, hm⟩ : ∃ m, ps.length = m := ⟨_, rfl⟩
  have HHL : Hid (zs.length = L ∧ ps.length = m) := ⟨hL, hm⟩
  rw [hL] at hz HV HCP HEQ HVO HOFF HNOF HON ⊢
  rw [hm] at hn HV HCP HVO HON ⊢
  clear hL hm hA hP hcap hps hD
  have HS0 : Hid (B2 w _ #[.slice a L cap, .slice x m cx, .int .i64 f, .bool d]) := B2.start w #[.slice a L cap, .slice x m cx, .int .i64 f, .bool d]
  go_enter Try.func16, Try.ntmps16
  go_wp2_with fail
  have st1 := HS0.out
  clear HS0
  generalize ((w.alloc (.cells #[.slice a L cap, .slice x m cx, .int .i64 f, .bool d] 29)).alloc (.cells #[.slice none 0 0, .slice none 0 0, .int .i64 0, .bool false] 29)) = w1 at *
  refine (HCP.out w1 st1.below).mono ?_
  rintro e w2 ⟨r, rfl, D2, O2, hb2⟩
  have st2 := st1.grow hb2
  have hs1 : w.heap.size + 1 < w1.heap.size := (Array.getElem?_eq_some_iff.1 st1.b1).1
  have hs2 := hb2.size
  obtain ⟨dv, cv, _, _, rfl, O2, _⟩ := O2
  obtain ⟨da, dc, ca, cc, B1, hv, q1, q2, q3, q4, q5, q6, q7, q8⟩ := D2
  rw [HHL.out.1, HHL.out.2] at hv
  simp at hv
  obtain ⟨rfl, rfl⟩ := hv
  have D2 : DMine w1.heap.size w2.heap.size w2 (.agg #[.slice da L dc, .slice ca m cc, .int .i64 f, .bool d]) zs ps f d := ⟨da, dc, ca, cc, B1, by rw [HHL.out.1, HHL.out.2], q1, q2, q3, q4, q5, q6, q7, q8⟩
  have HD2 : Hid (DMine w1.heap.size w2.heap.size w2 (.agg #[.slice da L dc, .slice ca m cc, .int .i64 f, .bool d]) zs ps f d) := D2
  have HQ : Hid ((∀ ad, da = some ad → w1.heap.size ≤ ad.block ∧ ad.block < B1) ∧ PMine B1 w2.heap.size w2 ca ps) := ⟨q3, q7⟩
  have HO2 : Hid (OwnN w2 w1.heap.size (.slice da L dc) zs) := O2
  have HS2 : Hid (B2 w w2 #[.slice a L cap, .slice x m cx, .int .i64 f, .bool d]) := st2
  clear st1 st2 D2 O2 hb2 HCP q1 q2 q3 q4 q6 q7 q8
  go_wp2_with (refine wpList_storeW rfl 29 (.tmp 3) (.tmp 5) rfl w2.heap.size #[.slice da L dc, .slice ca m cc, .int .i64 f, .bool d] rfl rfl 29 _ (heap_alloc_new w2 _) HSD.out rfl (all4e _ _ _ _ _ _ _ _) ?_)
  intro w3 hr3 hw3
  have hb3 : Below w2.heap.size w2 w3 := ((Below.refl _ _).alloc (Nat.le_refl _) _).trans (hw3.below (Nat.le_refl _))
  have st3 := B2.grow HS2.out hb3
  have hA3 : w2.heap.size < w3.heap.size := (Array.getElem?_eq_some_iff.1 hr3).1
  obtain ⟨c0, c1, c2, c3⟩ := row4 st3.b0
  have HD3 : Hid (DMine w1.heap.size w2.heap.size w3 (.agg #[.slice da L dc, .slice ca m cc, .int .i64 f, .bool d]) zs ps f d) := DMine.below HD2.out hb3
  have HP3 : Hid (PMine B1 w2.heap.size w3 ca ps) := PMine.below HQ.out.2 hb3
  have HO3 : Hid (OwnN w3 w1.heap.size (.slice da L dc) zs) := OwnN.grow HO2.out hb3
  have HAB : Hid (∀ ad, da = some ad → w1.heap.size ≤ ad.block ∧ ad.block < B1) := HQ.out.1
  have HR3 : Hid (w3.heap[w2.heap.size]? = some (.cells #[.slice da L dc, .slice ca m cc, .int .i64 f, .bool d] 29 (0, 0))) := hr3
  have HS3 : Hid (B2 w w3 #[.slice a L cap, .slice x m cx, .int .i64 f, .bool d]) := st3
  clear st3 hr3 hw3 hb3 HD2 HQ HO2 HS2
  generalize w2.heap.size = A at *
  go_wp2_with fail
  refine (HV.out w3 (B2.below HS3.out)).mono ?_
  rintro e w4 ⟨rfl, hb4⟩
  have st4 := B2.grow HS3.out hb4
  have hs4 := hb4.size
  have HR4 : Hid (w4.heap[A]? = some (.cells #[.slice da L dc, .slice ca m cc, .int .i64 f, .bool d] 29 (0, 0))) := by unfold Hid; rw [hb4.block _ hA3]; exact HR3.out
  have HD4 : Hid (DMine w1.heap.size A w4 (.agg #[.slice da L dc, .slice ca m cc, .int .i64 f, .bool d]) zs ps f d) := DMine.below HD3.out hb4
  have HP4 : Hid (PMine B1 A w4 ca ps) := PMine.below HP3.out hb4
  have HO4 : Hid (OwnN w4 w1.heap.size (.slice da L dc) zs) := OwnN.grow HO3.out hb4
  have HS4 : Hid (B2 w w4 #[.slice a L cap, .slice x m cx, .int .i64 f, .bool d]) := st4
  obtain ⟨y0, y1, y2, y3⟩ := row4 st4.b0
  clear st4 hb4 HV HS3 HD3 HP3 HO3 HR3 c0 c1 c2 c3
  /- What stands behind the steps, and the return. -/
  have FIN : Hid (∀ (w5 : World) (C : Array Value) (Z : List Int) (P : List PD) (F : Int) (D : Bool), w5.heap[w.heap.size + 1]? = some (.cells #[.slice none 0 0, .slice none 0 0, .int .i64 0, .bool false] 29 (0, 0)) → DMine w1.heap.size w5.heap.size w5 (.agg C) Z P F D → Below w.heap.size w w5 →
      DMine w.heap.size (w5.setRow (w.heap.size + 1) C).heap.size (w5.setRow (w.heap.size + 1) C) (.agg C) Z P F D ∧ Below w.heap.size w (w5.setRow (w.heap.size + 1) C)) := by
    intro w5 C Z P F D h1 h2 h3
    refine ⟨?_, h3.trans ((Wr.setRow _ _ _).below (by omega))⟩
    rw [size_setRow]
    exact (h2.keep (fun j hj _ => (Wr.setRow _ _ _).block j (by omega)) (by rw [size_setRow]; exact Nat.le_refl _)).mono (by omega)
  by_cases hon : validB L ps f = true ∧ d = false
  · obtain ⟨hval, rfl⟩ := hon
    rw [hval]
    obtain ⟨⟨v1, v2, v3, v4, v5, v6⟩, hok⟩ := HVO.out hval
    have HOK : Hid (PsOk L ps) := hok
    clear hok HVO HOFF
    by_cases hf0 : f = 0
    · obtain ⟨e1, e2, e3, e4⟩ := HNOF.out hval (by trivial) hf0
      have HEND : Hid (∀ (w' : World) (r : Value), DMine w.heap.size w'.heap.size w' r zs ps 0 true → DMine w.heap.size w'.heap.size w' r (syZ zs ps f false) (syP L ps f false) (syF L ps f false) (syD L ps f false)) := fun w' r hd => HEQ.out _ _ _ _ e1 e2 e3 e4 w' r hd
      clear e1 e2 e3 e4 HNOF HON HEQ
      have hs := sync_no A (.slice da L dc) (.slice ca m cc) w4 (by rw [← hf0]; exact HR4.out)
      have hu := upl_any 0 A w4 (fun w' => w'.heap[A]? = some (.cells #[.slice da L dc, .slice ca m cc, .int .i64 0, .bool true] 29 (0, 0)) ∧ Wr A w4 w') (hs.mono (fun e w' hh => ⟨.inr hh.1, hh.2⟩))
      clear hs
      go_wp2_with fail
      refine hu.mono ?_
      clear hu
      rintro e w6 ⟨rfl, w5, ⟨hr5, hw5⟩, hb6⟩
      have hA4 : A < w4.heap.size := by omega
      have hr6 : w6.heap[A]? = some (.cells #[.slice da L dc, .slice ca m cc, .int .i64 0, .bool true] 29 (0, 0)) := by rw [hb6.block _ (by rw [hw5.size]; exact hA4)]; exact hr5
      have hoth : ∀ j, j < w4.heap.size → j ≠ A → w6.heap[j]? = w4.heap[j]? := fun j hj hjA => (hb6.block j (by rw [hw5.size]; exact hj)).trans (hw5.block j hjA)
      have hsz : w4.heap.size ≤ w6.heap.size := by have := hb6.size; rw [hw5.size] at this; exact this
      have D6 : DMine w1.heap.size w6.heap.size w6 (.agg #[.slice da L dc, .slice ca m cc, .int .i64 0, .bool true]) zs ps 0 true :=
        ((DMine.keep HD4.out (fun j hj hj' => hoth j (by omega) (by omega)) hsz).refit 0 true).wide (by omega) (Nat.le_refl _)
      have hb1 : w6.heap[w.heap.size + 1]? = some (.cells #[.slice none 0 0, .slice none 0 0, .int .i64 0, .bool false] 29 (0, 0)) := by rw [hoth _ (by omega) (by omega)]; exact B2.b1 HS4.out
      have hbw : Below w.heap.size w w6 := (B2.below HS4.out).trans ⟨hb6.os.trans hw5.os, hb6.tape.trans hw5.tape, hb6.output.trans hw5.output, hsz, fun k hk => hoth k (by omega) (by omega)⟩
      obtain ⟨k2, k3⟩ := FIN.out w6 _ zs ps 0 true hb1 D6 hbw
      have K1 : Hid (w6.heap[w.heap.size + 1]? = some (.cells #[.slice none 0 0, .slice none 0 0, .int .i64 0, .bool false] 29 (0, 0))) := hb1
      have K2 : Hid _ := And.intro (HEND.out _ _ k2) k3
      obtain ⟨z0, z1, z2, z3⟩ := row4 hr6
      clear hr5 hw5 hb6 hr6 hoth hsz D6 hb1 hbw k2 k3 y0 y1 y2 y3 HR4 HD4 HP4 HO4 HS4 FIN HEND hf0
      go_wp2_with (refine wpList_store_row rfl 29 (.tmp 2) (.tmp 16) rfl (w.heap.size + 1) #[.slice da L dc, .slice ca m cc, .int .i64 0, .bool true] rfl rfl 29 _ K1.out HSD.out rfl (all4e _ _ _ _ _ _ _ _) ?_)
      (try simp only [Exit.inBlock, Exit.then])
      exact bodyPost_ret (v := .agg #[.slice da L dc, .slice ca m cc, .int .i64 0, .bool true]) (results_cell_row rfl _ _ (w.heap.size + 1) 29 _ (0, 0) _ rfl (setRow_heap _ _ _ _ _ _ K1.out) Try.underlying29 rfl HSD.out) rfl ⟨_, rfl, K2.out.1, K2.out.2⟩
    · obtain ⟨e1, e2, e3, e4⟩ := HON.out hval (by trivial) hf0
      have HEND : Hid (∀ (w' : World) (r : Value), DMine w.heap.size w'.heap.size w' r (syL zs ps m) [] (stF f) false → DMine w.heap.size w'.heap.size w' r (syZ zs ps f false) (syP L ps f false) (syF L ps f false) (syD L ps f false)) := fun w' r hd => HEQ.out _ _ _ _ e1 e2 e3 e4 w' r hd
      clear e1 e2 e3 e4 HNOF HON HEQ
      have hO : Own w4 w1.heap.size (.slice da L dc) zs := by
        rcases HO4.out with ⟨h1, h2⟩ | h
        · have := HHL.out.1; rw [h2] at this; simp at this; omega
        · exact h
      obtain ⟨g, gc, eg, hg1, hg2, hg3⟩ := hO.base
      simp at eg
      obtain ⟨rfl, hLz, rfl⟩ := eg
      clear hLz hg3
      have hgB := HAB.out _ rfl
      have hs := sync_yes A g L dc w1.heap.size ca m cc f zs ps B1 A w4 HR4.out hO HP4.out hgB.2 (Nat.le_refl _) HHL.out.1 HHL.out.2 hz hn v1 HOK.out (by omega) (by omega)
      have hu := upl_any 0 A w4 (fun w' => w'.heap[A]? = some (.cells #[.slice (some ⟨g, 0, none⟩) L dc, .slice none 0 0, .int .i64 (stF f), .bool false] 29 (0, 0)) ∧ Own w' w1.heap.size (.slice (some ⟨g, 0, none⟩) L dc) (syL zs ps m) ∧ YR A g w4 w') (hs.mono (fun e w' hh => ⟨.inl hh.1, hh.2⟩))
      clear hs hO
      generalize stF f = F at *
      go_wp2_with fail
      refine hu.mono ?_
      clear hu
      rintro e w6 ⟨rfl, w5, ⟨hr5, hO5, hy5⟩, hb6⟩
      have hA4 : A < w4.heap.size := by omega
      have hs5 := hy5.size
      have hr6 : w6.heap[A]? = some (.cells #[.slice (some ⟨g, 0, none⟩) L dc, .slice none 0 0, .int .i64 F, .bool false] 29 (0, 0)) := by rw [hb6.block _ (by omega)]; exact hr5
      have hsz : w4.heap.size ≤ w6.heap.size := by have := hb6.size; omega
      have hgw : w1.heap.size ≤ g := hgB.1
      have hoth : ∀ j, j < w1.heap.size → w6.heap[j]? = w4.heap[j]? := fun j hj => (hb6.block j (by omega)).trans (hy5.block j (by omega) (by omega) (by omega))
      have D6 : DMine w1.heap.size w6.heap.size w6 (.agg #[.slice (some ⟨g, 0, none⟩) L dc, .slice none 0 0, .int .i64 F, .bool false]) (syL zs ps m) [] F false := DMine.plain F false (hO5.grow hb6) rfl
      have hb1 : w6.heap[w.heap.size + 1]? = some (.cells #[.slice none 0 0, .slice none 0 0, .int .i64 0, .bool false] 29 (0, 0)) := by rw [hoth _ (by omega)]; exact B2.b1 HS4.out
      have hbw : Below w.heap.size w w6 := (B2.below HS4.out).trans ⟨hb6.os.trans hy5.os, hb6.tape.trans hy5.tape, hb6.output.trans hy5.output, hsz, fun k hk => hoth k (by omega)⟩
      obtain ⟨k2, k3⟩ := FIN.out w6 _ (syL zs ps m) [] F false hb1 D6 hbw
      have K1 : Hid (w6.heap[w.heap.size + 1]? = some (.cells #[.slice none 0 0, .slice none 0 0, .int .i64 0, .bool false] 29 (0, 0))) := hb1
      have K2 : Hid _ := And.intro (HEND.out _ _ k2) k3
      obtain ⟨z0, z1, z2, z3⟩ := row4 hr6
      clear hr5 hO5 hy5 hb6 hr6 hoth hsz D6 hb1 hbw k2 k3 y0 y1 y2 y3 HR4 HD4 HP4 HO4 HS4 FIN HEND hf0
      go_wp2_with (refine wpList_store_row rfl 29 (.tmp 2) (.tmp 16) rfl (w.heap.size + 1) #[.slice (some ⟨g, 0, none⟩) L dc, .slice none 0 0, .int .i64 F, .bool false] rfl rfl 29 _ K1.out HSD.out rfl (all4e _ _ _ _ _ _ _ _) ?_)
      (try simp only [Exit.inBlock, Exit.then])
      exact bodyPost_ret (v := .agg #[.slice (some ⟨g, 0, none⟩) L dc, .slice none 0 0, .int .i64 F, .bool false]) (results_cell_row rfl _ _ (w.heap.size + 1) 29 _ (0, 0) _ rfl (setRow_heap _ _ _ _ _ _ K1.out) Try.underlying29 rfl HSD.out) rfl ⟨_, rfl, K2.out.1, K2.out.2⟩
  · have hoff : validB L ps f = false ∨ d = true := by
      cases hv : validB L ps f with
      | false => exact .inl rfl
      | true =>
        right
        cases hd : d with
        | true => rfl
        | false => exact absurd ⟨hv, hd⟩ hon
    obtain ⟨e1, e2, e3, e4⟩ := HOFF.out hoff
    have HEND : Hid (∀ (w' : World) (r : Value), DMine w.heap.size w'.heap.size w' r zs ps f d → DMine w.heap.size w'.heap.size w' r (syZ zs ps f d) (syP L ps f d) (syF L ps f d) (syD L ps f d)) := fun w' r hd => HEQ.out _ _ _ _ e1 e2 e3 e4 w' r hd
    clear hon e1 e2 e3 e4 HOFF HNOF HON HEQ HVO
    obtain ⟨k2, k3⟩ := FIN.out w4 _ zs ps f d (B2.b1 HS4.out) (DMine.wide HD4.out (by omega) (Nat.le_refl _)) (B2.below HS4.out)
    have K1 : Hid (w4.heap[w.heap.size + 1]? = some (.cells #[.slice none 0 0, .slice none 0 0, .int .i64 0, .bool false] 29 (0, 0))) := B2.b1 HS4.out
    have K2 : Hid _ := And.intro (HEND.out _ _ k2) k3
    obtain ⟨z0, z1, z2, z3⟩ := row4 HR4.out
    clear k2 k3 HD4 HP4 HO4 HS4 FIN HEND HR4
    rcases hoff with hv | rfl
    · rw [hv]
      go_wp2_with (refine wpList_store_row rfl 29 (.tmp 2) (.tmp 13) rfl (w.heap.size + 1) #[.slice da L dc, .slice ca m cc, .int .i64 f, .bool d] rfl rfl 29 _ K1.out HSD.out rfl (all4e _ _ _ _ _ _ _ _) ?_)
      (try simp only [Exit.inBlock, Exit.then])
      exact bodyPost_ret (v := .agg #[.slice da L dc, .slice ca m cc, .int .i64 f, .bool d]) (results_cell_row rfl _ _ (w.heap.size + 1) 29 _ (0, 0) _ rfl (setRow_heap _ _ _ _ _ _ K1.out) Try.underlying29 rfl HSD.out) rfl ⟨_, rfl, K2.out.1, K2.out.2⟩
    · cases hv : validB L ps f with
      | false =>
        go_wp2_with (refine wpList_store_row rfl 29 (.tmp 2) (.tmp 13) rfl (w.heap.size + 1) #[.slice da L dc, .slice ca m cc, .int .i64 f, .bool true] rfl rfl 29 _ K1.out HSD.out rfl (all4e _ _ _ _ _ _ _ _) ?_)
        (try simp only [Exit.inBlock, Exit.then])
        exact bodyPost_ret (v := .agg #[.slice da L dc, .slice ca m cc, .int .i64 f, .bool true]) (results_cell_row rfl _ _ (w.heap.size + 1) 29 _ (0, 0) _ rfl (setRow_heap _ _ _ _ _ _ K1.out) Try.underlying29 rfl HSD.out) rfl ⟨_, rfl, K2.out.1, K2.out.2⟩
      | true =>
        go_wp2_with (refine wpList_store_row rfl 29 (.tmp 2) (.tmp 13) rfl (w.heap.size + 1) #[.slice da L dc, .slice ca m cc, .int .i64 f, .bool true] rfl rfl 29 _ K1.out HSD.out rfl (all4e _ _ _ _ _ _ _ _) ?_)
        (try simp only [Exit.inBlock, Exit.then])
        exact bodyPost_ret (v := .agg #[.slice da L dc, .slice ca m cc, .int .i64 f, .bool true]) (results_cell_row rfl _ _ (w.heap.size + 1) 29 _ (0, 0) _ rfl (setRow_heap _ _ _ _ _ _ K1.out) Try.underlying29 rfl HSD.out) rfl ⟨_, rfl, K2.out.1, K2.out.2⟩
end Go.Proofs.Ytiignammhieidaa
