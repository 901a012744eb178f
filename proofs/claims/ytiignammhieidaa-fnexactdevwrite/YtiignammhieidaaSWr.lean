/-
  Own work: the model's write.
-/
import Derived.Test.YtiignammhieidaaStp
import Derived.Test.YtiignammhieidaaDevValI
namespace Go.Proofs.Ytiignammhieidaa
open Go.ChangeShapes Go.WideShapes Go.ChangeAt Go.RowKit
set_option linter.unusedVariables false

def wrOn (L : Nat) (ps : List PD) (f : Int) (d : Bool) (s : Int) (n : Nat) : Bool := validB L ps f && !d && hasS L s && decide (n = 64) && decide (ps.length ≠ 1000)
def wrP (L : Nat) (ps : List PD) (f : Int) (d : Bool) (s : Int) (z : List Int) : List PD := if wrOn L ps f d s z.length && decide (f ≠ 0) then ps ++ [(s, z)] else ps
def wrF (L : Nat) (ps : List PD) (f : Int) (d : Bool) (s : Int) (n : Nat) : Int := if wrOn L ps f d s n then stF f else f
def wrD (L : Nat) (ps : List PD) (f : Int) (d : Bool) (s : Int) (n : Nat) : Bool := if wrOn L ps f d s n then stD f d else d

set_option maxHeartbeats 400000 in
theorem lsec_any (a : Option Addr) (L cap : Nat) (b : Value) (f : Int) (d : Bool) (w : World) (hL : L ≤ 1048576) (hb : ∃ x m c, b = .slice x m c) :
    Calls Try.prog 20 #[.agg #[.slice a L cap, b, .int .i64 f, .bool d]] w fun e w' => e = .returned (.int .i64 ((L : Int) / 64)) ∧ Below w.heap.size w w' := by
  obtain ⟨x, m, c, rfl⟩ := hb
  have HB : Hid _ := (Below.refl w.heap.size w).alloc (Nat.le_refl _) (.cells #[.slice a L cap, .slice x m c, .int .i64 f, .bool d] 29)
  go_enter Try.func20, Try.ntmps20
  go_wp2
  go_ret
  exact ⟨rfl, HB.out⟩

def GW5 (A S E : Nat) (cv : Value) (qs : List Q1) (s : Int) (xa : Option Addr) (c : Nat) (z : List Int) : Nat → (Nat → Bool) → World → Value → Prop
  | 0, _, _, v => v = .pointer (some ⟨A, 1, none⟩)
  | 1, _, _, v => v = cv
  | 2, _, _, v => v = .int .i64 s
  | 3, _, w, v => ∃ B, v = .slice (some ⟨B, 0, none⟩) 0 0 ∧ Own w S (.slice (some ⟨B, 0, none⟩) 0 0) []
  | 4, _, _, v => v = .slice xa z.length c
  | 5, _, w, v => OwnN w S v z
  | 6, _, w, v => ∃ a c', v = .agg #[.int .i64 s, .slice a z.length c'] ∧ OwnN w S (.slice a z.length c') z
  | 7, _, w, v => ∃ K a c', v = .slice (some ⟨K, 0, none⟩) 1 1 ∧ S ≤ K ∧ w.heap[K]? = some (.cells #[.int .i64 s, .slice a z.length c'] 44 (0, 0)) ∧ OwnN w S (.slice a z.length c') z
  | 8, _, w, v => ∃ q : Q1, q.s = s ∧ q.z = z ∧ POwn w E v (qs ++ [q])
  | _, _, _, v => v = .pointer (some ⟨A, 1, none⟩)
theorem GW5_stab (A S E : Nat) (cv : Value) (qs : List Q1) (s : Int) (xa : Option Addr) (c : Nat) (z : List Int) (hr : ∀ k, cv.ownBlock = some k → k < S) (j : Nat) (L : Nat → Bool) (w w' : World) (i : Nat) (v : Value)
    (hM : (i ≠ 8 → Below w.heap.size w w') ∧ w.grownBy w' cv.ownBlock) (hij : i ≠ j) (hL : L i = false) (h : GW5 A S E cv qs s xa c z j L w v) : GW5 A S E cv qs s xa c z j (updK L i) w' v := by
  have hg := hM.2
  unfold GW5 at *
  split at h
  all_goals first
    | exact h
    | exact OwnN.grown h hg hr
    | (obtain ⟨B, e, h⟩ := h; exact ⟨B, e, Own.grown h hg hr⟩)
    | (obtain ⟨a, c', e, h⟩ := h; exact ⟨a, c', e, OwnN.grown h hg hr⟩)
    | (obtain ⟨K, a, c', e, h1, h2, h⟩ := h; exact ⟨K, a, c', e, h1, by rw [hg.block _ (Array.getElem?_eq_some_iff.1 h2).1 (fun er => by have := hr K er.symm; omega)]; exact h2, OwnN.grown h hg hr⟩)
    | (obtain ⟨q, e1, e2, h⟩ := h; exact ⟨q, e1, e2, h.below (hM.1 hij)⟩)

set_option maxHeartbeats 2000000 in
set_option maxRecDepth 100000 in
theorem swr_any (v : Value) (zs : List Int) (ps : List PD) (f : Int) (d : Bool) (s : Int) (xa : Option Addr) (xn xc : Nat) (z : List Int) (w : World) (h : DAt w v zs ps f d) (hx : At .u8 w xa z) (hxn : z.length = xn) (hz : zs.length ≤ 1048576) (hn : ps.length ≤ 1048576) (hps : ∀ i, (ps.getD i (0, [])).2.length ≤ 1048576) (hzn : xn ≤ 1048576) (hf : f ≤ 9223372036854775807) :
    Calls Try.prog 6 #[v, .int .i64 s, .slice xa xn xc] w fun e w' => ∃ r, e = .returned r ∧ DMine w.heap.size w'.heap.size w' r zs (wrP zs.length ps f d s z) (wrF zs.length ps f d s z.length) (wrD zs.length ps f d s z.length) ∧ Below w.heap.size w w' := by
  have HSD : Hid _ := Try.sizeDv
  have hD := h
  obtain ⟨a, cap, x, cx, rfl, hA, hP, hcap⟩ := h
  have HV : Hid (∀ ww : World, Below w.heap.size w ww → Calls Try.prog 19 #[.agg #[.slice a zs.length cap, .slice x ps.length cx, .int .i64 f, .bool d]] ww fun e w' => e = .returned (.bool (validB zs.length ps f)) ∧ Below ww.heap.size ww w') := fun ww hb => sval_any _ zs ps f d ww (hD.below hb) hz hn hps
  have HCP : Hid (∀ ww : World, Below w.heap.size w ww → Calls Try.prog 21 #[.agg #[.slice a zs.length cap, .slice x ps.length cx, .int .i64 f, .bool d]] ww fun e w' => ∃ r, e = .returned r ∧ DvOwn w' ww.heap.size r zs ps f d ∧ Below ww.heap.size ww w') := fun ww hb => scp_any _ zs ps f d ww (hD.below hb) hz hn hps
  have HST : Hid (∀ ww : World, Below w.heap.size w ww → Calls Try.prog 22 #[.agg #[.slice a zs.length cap, .slice x ps.length cx, .int .i64 f, .bool d]] ww fun e w' => ∃ r, e = .returned r ∧ DvOwn w' ww.heap.size r zs ps (stF f) (stD f d) ∧ Below ww.heap.size ww w') := fun ww hb => sst_any _ zs ps f d ww (hD.below hb) hz hn hps hf
  have HX : Hid (At .u8 w xa z) := hx
  have HEQ : Hid (∀ P F D, wrP zs.length ps f d s z = P → wrF zs.length ps f d s z.length = F → wrD zs.length ps f d s z.length = D → ∀ (w' : World) (r : Value), DMine w.heap.size w'.heap.size w' r zs P F D → DMine w.heap.size w'.heap.size w' r zs (wrP zs.length ps f d s z) (wrF zs.length ps f d s z.length) (wrD zs.length ps f d s z.length)) := by
    intro P F D h2 h3 h4 w' r hd; rw [h2, h3, h4]; exact hd
  have HOFF : Hid (wrOn zs.length ps f d s z.length = false → wrP zs.length ps f d s z = ps ∧ wrF zs.length ps f d s z.length = f ∧ wrD zs.length ps f d s z.length = d) := by
    intro h; unfold wrP wrF wrD; rw [h]; simp
  have HON : Hid (wrOn zs.length ps f d s z.length = true → (f = 0 → wrP zs.length ps f d s z = ps) ∧ (f ≠ 0 → wrP zs.length ps f d s z = ps ++ [(s, z)]) ∧ wrF zs.length ps f d s z.length = stF f ∧ wrD zs.length ps f d s z.length = stD f d) := by
    intro h; unfold wrP wrF wrD; rw [h]; refine ⟨fun hf => by simp [hf], fun hf => by simp [hf], rfl, rfl⟩
  have hwon : wrOn zs.length ps f d s z.length = (validB zs.length ps f && !d && hasS zs.length s && decide (z.length = 64) && decide (ps.length ≠ 1000)) := rfl
  have hhas : hasS zs.length s = decide (0 ≤ s ∧ s < ((zs.length / 64 : Nat) : Int)) := rfl
  rw [hxn] at HEQ HOFF HON hwon ⊢
  obtain ⟨L, hL⟩ : ∃ L, zs.length = L := ⟨_, rfl⟩
  obtain ⟨m, hm⟩ : ∃ m, ps.length = m := ⟨_, rfl⟩
  have HHL : Hid (zs.length = L ∧ ps.length = m ∧ z.length = xn) := ⟨hL, hm, hxn⟩
  rw [hL] at hz HV HCP HST HEQ HOFF HON hwon hhas ⊢
  rw [hm] at hn HV HCP HST hwon ⊢
  obtain ⟨W0, hW0⟩ : ∃ W0, wrOn L ps f d s xn = W0 := ⟨_, rfl⟩
  rw [hW0] at HOFF HON hwon
  clear hL hm hA hP hcap hps hD hx hxn
  have HS0 : Hid (B2 w _ #[.slice a L cap, .slice x m cx, .int .i64 f, .bool d]) := B2.start w #[.slice a L cap, .slice x m cx, .int .i64 f, .bool d]
  go_enter Try.func6, Try.ntmps6
  go_wp2_with fail
  have st1 := HS0.out
  clear HS0
  generalize ((w.alloc (.cells #[.slice a L cap, .slice x m cx, .int .i64 f, .bool d] 29)).alloc (.cells #[.slice none 0 0, .slice none 0 0, .int .i64 0, .bool false] 29)) = w1 at *
  refine (HV.out w1 st1.below).mono ?_
  rintro e w2 ⟨rfl, hb2⟩
  have st2 := st1.grow hb2
  have hs2 : w.heap.size + 1 < w2.heap.size := (Array.getElem?_eq_some_iff.1 st2.b1).1
  obtain ⟨c0, c1, c2, c3⟩ := row4 st2.b0
  have HS2 : Hid (B2 w w2 #[.slice a L cap, .slice x m cx, .int .i64 f, .bool d]) := st2
  have HLS : Hid (∀ ww : World, Calls Try.prog 20 #[.agg #[.slice a L cap, .slice x m cx, .int .i64 f, .bool d]] ww fun e w' => e = .returned (.int .i64 ((L : Int) / 64)) ∧ Below ww.heap.size ww w') := fun ww => lsec_any a L cap _ f d ww hz ⟨_, _, _, rfl⟩
  clear st1 st2 hb2 HV
  have FIN : Hid (W0 = false → ∀ (ww w5 : World) (da : Option Addr) (dc : Nat) (ca : Option Addr) (cc : Nat), B2 w ww #[.slice a L cap, .slice x m cx, .int .i64 f, .bool d] → w.heap.size + 1 < ww.heap.size → DvOwn w5 ww.heap.size (.agg #[.slice da L dc, .slice ca m cc, .int .i64 f, .bool d]) zs ps f d → Below ww.heap.size ww w5 →
      w5.heap[w.heap.size + 1]? = some (.cells #[.slice none 0 0, .slice none 0 0, .int .i64 0, .bool false] 29 (0, 0)) ∧ DMine w.heap.size (w5.setRow (w.heap.size + 1) #[.slice da L dc, .slice ca m cc, .int .i64 f, .bool d]).heap.size (w5.setRow (w.heap.size + 1) #[.slice da L dc, .slice ca m cc, .int .i64 f, .bool d]) (.agg #[.slice da L dc, .slice ca m cc, .int .i64 f, .bool d]) zs (wrP L ps f d s z) (wrF L ps f d s xn) (wrD L ps f d s xn) ∧ Below w.heap.size w (w5.setRow (w.heap.size + 1) #[.slice da L dc, .slice ca m cc, .int .i64 f, .bool d])) := by
    intro hw0 ww w5 da dc ca cc hB hlt D5 hb5
    obtain ⟨e2, e3, e4⟩ := HOFF.out hw0
    have st5 := hB.grow hb5
    refine ⟨st5.b1, HEQ.out _ _ _ e2 e3 e4 _ _ ?_, st5.below.trans ((Wr.setRow _ _ _).below (by omega))⟩
    rw [size_setRow]
    have h5 := (D5.keep (w' := w5.setRow (w.heap.size + 1) #[.slice da L dc, .slice ca m cc, .int .i64 f, .bool d]) (fun j cur t hj _ _ => (Wr.setRow _ _ _).block j (by omega)) (by rw [size_setRow]; exact Nat.le_refl _)).mine
    rw [size_setRow] at h5
    exact h5.mono (by omega)
  cases hval : validB L ps f with
  | false =>
    have hw0 : W0 = false := by rw [hwon, hval]; simp
    go_wp2_with fail
    refine (HCP.out w2 (B2.below HS2.out)).mono ?_
    rintro e w5 ⟨r, rfl, D5, hb5⟩
    have D5' := D5
    obtain ⟨da, dc, ca, cc, B1, hr5, _⟩ := D5'.mine
    subst hr5
    rw [HHL.out.1, HHL.out.2.1] at D5 ⊢
    obtain ⟨k1, k2, k3⟩ := FIN.out hw0 w2 w5 da dc ca cc HS2.out (by omega) D5 hb5
    have K1 : Hid _ := k1
    have K2 : Hid _ := And.intro k2 k3
    clear k1 k2 k3 D5 hb5 c0 c1 c2 c3
    go_wp2_with (refine wpList_store_row rfl 29 (.tmp 6) (.tmp 37) rfl (w.heap.size + 1) #[.slice da L dc, .slice ca m cc, .int .i64 f, .bool d] rfl rfl 29 _ K1.out HSD.out rfl (all4e _ _ _ _ _ _ _ _) ?_)
    (try simp only [Exit.inBlock, Exit.then])
    exact bodyPost_ret (v := .agg #[.slice da L dc, .slice ca m cc, .int .i64 f, .bool d]) (results_cell_row rfl _ _ (w.heap.size + 1) 29 _ (0, 0) _ rfl (setRow_heap _ _ _ _ _ _ K1.out) Try.underlying29 rfl HSD.out) rfl ⟨_, rfl, K2.out.1, K2.out.2⟩
  | true =>
    cases hdd : d with
    | true =>
      subst hdd
      have hw0 : W0 = false := by rw [hwon]; simp
      go_wp2_with fail
      refine (HCP.out w2 (B2.below HS2.out)).mono ?_
      rintro e w5 ⟨r, rfl, D5, hb5⟩
      have D5' := D5
      obtain ⟨da, dc, ca, cc, B1, hr5, _⟩ := D5'.mine
      subst hr5
      rw [HHL.out.1, HHL.out.2.1] at D5 ⊢
      obtain ⟨k1, k2, k3⟩ := FIN.out hw0 w2 w5 da dc ca cc HS2.out (by omega) D5 hb5
      have K1 : Hid _ := k1
      have K2 : Hid _ := And.intro k2 k3
      clear k1 k2 k3 D5 hb5 c0 c1 c2 c3
      go_wp2_with (refine wpList_store_row rfl 29 (.tmp 6) (.tmp 37) rfl (w.heap.size + 1) #[.slice da L dc, .slice ca m cc, .int .i64 f, .bool true] rfl rfl 29 _ K1.out HSD.out rfl (all4e _ _ _ _ _ _ _ _) ?_)
      (try simp only [Exit.inBlock, Exit.then])
      exact bodyPost_ret (v := .agg #[.slice da L dc, .slice ca m cc, .int .i64 f, .bool true]) (results_cell_row rfl _ _ (w.heap.size + 1) 29 _ (0, 0) _ rfl (setRow_heap _ _ _ _ _ _ K1.out) Try.underlying29 rfl HSD.out) rfl ⟨_, rfl, K2.out.1, K2.out.2⟩
    | false =>
      subst hdd
      by_cases hs0 : s < 0
      · have hw0 : W0 = false := by
          have hh : hasS L s = false := by rw [hhas]; simp; omega
          rw [hwon, hh]; simp
        go_wp2_with fail
        refine (HCP.out w2 (B2.below HS2.out)).mono ?_
        rintro e w5 ⟨r, rfl, D5, hb5⟩
        have D5' := D5
        obtain ⟨da, dc, ca, cc, B1, hr5, _⟩ := D5'.mine
        subst hr5
        rw [HHL.out.1, HHL.out.2.1] at D5 ⊢
        obtain ⟨k1, k2, k3⟩ := FIN.out hw0 w2 w5 da dc ca cc HS2.out (by omega) D5 hb5
        have K1 : Hid _ := k1
        have K2 : Hid _ := And.intro k2 k3
        clear k1 k2 k3 D5 hb5 c0 c1 c2 c3
        go_wp2_with (refine wpList_store_row rfl 29 (.tmp 6) (.tmp 37) rfl (w.heap.size + 1) #[.slice da L dc, .slice ca m cc, .int .i64 f, .bool false] rfl rfl 29 _ K1.out HSD.out rfl (all4e _ _ _ _ _ _ _ _) ?_)
        (try simp only [Exit.inBlock, Exit.then])
        exact bodyPost_ret (v := .agg #[.slice da L dc, .slice ca m cc, .int .i64 f, .bool false]) (results_cell_row rfl _ _ (w.heap.size + 1) 29 _ (0, 0) _ rfl (setRow_heap _ _ _ _ _ _ K1.out) Try.underlying29 rfl HSD.out) rfl ⟨_, rfl, K2.out.1, K2.out.2⟩
      · have hs0' : ¬ s < 0 := hs0
        go_wp2_with fail
        refine (HLS.out w2).mono ?_
        rintro e w3 ⟨rfl, hb3⟩
        have st3 := B2.grow HS2.out hb3
        have hs3 : w.heap.size + 1 < w3.heap.size := (Array.getElem?_eq_some_iff.1 st3.b1).1
        clear c0 c1 c2 c3
        obtain ⟨c0, c1, c2, c3⟩ := row4 st3.b0
        have HS3 : Hid (B2 w w3 #[.slice a L cap, .slice x m cx, .int .i64 f, .bool false]) := st3
        clear st3 hb3 HS2 HLS
        have hdiv : ((L / 64 : Nat) : Int) = (L : Int) / 64 := by omega
        by_cases hs1 : (L : Int) / 64 ≤ s
        · have hw0 : W0 = false := by
            have hh : hasS L s = false := by rw [hhas, hdiv]; simp; omega
            rw [hwon, hh]; simp
          go_wp2_with fail
          refine (HCP.out w3 (B2.below HS3.out)).mono ?_
          rintro e w5 ⟨r, rfl, D5, hb5⟩
          have D5' := D5
          obtain ⟨da, dc, ca, cc, B1, hr5, _⟩ := D5'.mine
          subst hr5
          rw [HHL.out.1, HHL.out.2.1] at D5 ⊢
          obtain ⟨k1, k2, k3⟩ := FIN.out hw0 w3 w5 da dc ca cc HS3.out (by omega) D5 hb5
          have K1 : Hid _ := k1
          have K2 : Hid _ := And.intro k2 k3
          clear k1 k2 k3 D5 hb5 c0 c1 c2 c3
          go_wp2_with (refine wpList_store_row rfl 29 (.tmp 6) (.tmp 37) rfl (w.heap.size + 1) #[.slice da L dc, .slice ca m cc, .int .i64 f, .bool false] rfl rfl 29 _ K1.out HSD.out rfl (all4e _ _ _ _ _ _ _ _) ?_)
          (try simp only [Exit.inBlock, Exit.then])
          exact bodyPost_ret (v := .agg #[.slice da L dc, .slice ca m cc, .int .i64 f, .bool false]) (results_cell_row rfl _ _ (w.heap.size + 1) 29 _ (0, 0) _ rfl (setRow_heap _ _ _ _ _ _ K1.out) Try.underlying29 rfl HSD.out) rfl ⟨_, rfl, K2.out.1, K2.out.2⟩
        · have hs1' : ¬ (L : Int) / 64 ≤ s := hs1
          by_cases hx64 : xn = 64
          · by_cases hm1 : m = 1000
            · have hm1' : ((m : Int) == 1000) = true := by simp; omega
              have hx64' : ((xn : Int) != 64) = false := by simp; omega
              have hw0 : W0 = false := by rw [hwon, hm1]; simp
              clear hm1 hx64 hwon
              go_wp2_with fail
              refine (HCP.out w3 (B2.below HS3.out)).mono ?_
              rintro e w5 ⟨r, rfl, D5, hb5⟩
              have D5' := D5
              obtain ⟨da, dc, ca, cc, B1, hr5, _⟩ := D5'.mine
              subst hr5
              rw [HHL.out.1, HHL.out.2.1] at D5 ⊢
              obtain ⟨k1, k2, k3⟩ := FIN.out hw0 w3 w5 da dc ca cc HS3.out (by omega) D5 hb5
              have K1 : Hid _ := k1
              have K2 : Hid _ := And.intro k2 k3
              clear k1 k2 k3 D5 hb5 c0 c1 c2 c3
              go_wp2_with (refine wpList_store_row rfl 29 (.tmp 6) (.tmp 37) rfl (w.heap.size + 1) #[.slice da L dc, .slice ca m cc, .int .i64 f, .bool false] rfl rfl 29 _ K1.out HSD.out rfl (all4e _ _ _ _ _ _ _ _) ?_)
              (try simp only [Exit.inBlock, Exit.then])
              exact bodyPost_ret (v := .agg #[.slice da L dc, .slice ca m cc, .int .i64 f, .bool false]) (results_cell_row rfl _ _ (w.heap.size + 1) 29 _ (0, 0) _ rfl (setRow_heap _ _ _ _ _ _ K1.out) Try.underlying29 rfl HSD.out) rfl ⟨_, rfl, K2.out.1, K2.out.2⟩
            · have hw1 : W0 = true := by
                have hh : hasS L s = true := by rw [hhas, hdiv]; simp; omega
                rw [hwon, hval, hh]; simp [hx64, hm1]
              obtain ⟨p0, p1, p2, p3⟩ := HON.out hw1
              have hm1' : ((m : Int) == 1000) = false := by simp; omega
              have hx64' : ((xn : Int) != 64) = false := by simp; omega
              have HP0 : Hid (f = 0 → wrP L ps f false s z = ps) := p0
              have HP1 : Hid (f ≠ 0 → wrP L ps f false s z = ps ++ [(s, z)]) := p1
              have HP2 : Hid (wrF L ps f false s xn = stF f ∧ wrD L ps f false s xn = stD f false) := ⟨p2, p3⟩
              clear hx64 hm1 hwon hhas hw1 p0 p1 p2 p3 HOFF HON FIN hW0 HCP
              have FIN2 : Hid (∀ (w6 : World) (C : Array Value) (P : List PD), wrP L ps f false s z = P → DvOwn w6 w3.heap.size (.agg C) zs P (stF f) (stD f false) → w6.heap[w.heap.size + 1]? = some (.cells #[.slice none 0 0, .slice none 0 0, .int .i64 0, .bool false] 29 (0, 0)) → Below w.heap.size w w6 →
                  DMine w.heap.size (w6.setRow (w.heap.size + 1) C).heap.size (w6.setRow (w.heap.size + 1) C) (.agg C) zs (wrP L ps f false s z) (wrF L ps f false s xn) (wrD L ps f false s xn) ∧ Below w.heap.size w (w6.setRow (w.heap.size + 1) C)) := by
                intro w6 C P hPe D6 hb1 hbw
                refine ⟨HEQ.out _ _ _ hPe HP2.out.1 HP2.out.2 _ _ ?_, hbw.trans ((Wr.setRow _ _ _).below (by omega))⟩
                have h5 := (D6.keep (w' := w6.setRow (w.heap.size + 1) C) (fun j cur t hj _ _ => (Wr.setRow _ _ _).block j (by omega)) (by rw [size_setRow]; exact Nat.le_refl _)).mine
                exact h5.mono (by omega)
              go_wp2_with fail
              refine (HST.out w3 (B2.below HS3.out)).mono ?_
              rintro e w4 ⟨r, rfl, D4, hb4⟩
              have st4 := B2.grow HS3.out hb4
              have hs4 := hb4.size
              obtain ⟨dv, cv, qs, E, rfl, O4, P4, hq4, hBE, hEw, hdv⟩ := D4
              obtain ⟨da, dc, e1⟩ := O4.sl'
              obtain ⟨ca, cc, e2, _⟩ := P4.mine
              have hql : qs.length = m := by
                have h1 : (qps qs).length = ps.length := by rw [hq4]
                have h2 := HHL.out.2.1
                simp [qps] at h1; omega
              rw [HHL.out.1] at e1
              rw [hql] at e2
              subst e1 e2
              have HO4 : Hid (OwnN w4 w3.heap.size (.slice da L dc) zs) := O4
              have HPW4 : Hid (POwn w4 E (.slice ca m cc) qs) := P4
              have HDV : Hid (∀ k, (Value.slice da L dc).ownBlock = some k → k < E) := hdv
              have HQ4 : Hid (qps qs = ps) := hq4
              have HS4 : Hid (B2 w w4 #[.slice a L cap, .slice x m cx, .int .i64 f, .bool false]) := st4
              clear st4 hb4 O4 P4 hdv hq4 HS3 HST c0 c1 c2 c3
              go_wp2_with (refine wpList_storeW rfl 29 (.tmp 7) (.tmp 39) rfl w4.heap.size #[.slice da L dc, .slice ca m cc, .int .i64 (stF f), .bool (stD f false)] rfl rfl 29 _ (heap_alloc_new w4 _) HSD.out rfl (all4e _ _ _ _ _ _ _ _) ?_)
              intro w5 hr5 hw5
              have hb5 : Below w4.heap.size w4 w5 := ((Below.refl _ _).alloc (Nat.le_refl _) _).trans (hw5.below (Nat.le_refl _))
              have hA5 : w4.heap.size < w5.heap.size := (Array.getElem?_eq_some_iff.1 hr5).1
              obtain ⟨a0, a1, a2, a3⟩ := row4 hr5
              have HS5 : Hid (B2 w w5 #[.slice a L cap, .slice x m cx, .int .i64 f, .bool false]) := B2.grow HS4.out hb5
              have HO5 : Hid (OwnN w5 w3.heap.size (.slice da L dc) zs) := OwnN.grow HO4.out hb5
              have HPW5 : Hid (POwn w5 E (.slice ca m cc) qs) := POwn.below HPW4.out hb5
              have HR5 : Hid (w5.heap[w4.heap.size]? = some (.cells #[.slice da L dc, .slice ca m cc, .int .i64 (stF f), .bool (stD f false)] 29 (0, 0))) := hr5
              clear hr5 hw5 hb5 HS4 HO4 HPW4
              generalize w4.heap.size = A at *
              by_cases hf0 : f = 0
              · have hsD : stD f false = true := by rw [hf0]; rfl
                obtain ⟨k2, k3⟩ := FIN2.out w5 #[.slice da L dc, .slice ca m cc, .int .i64 (stF f), .bool (stD f false)] ps (HP0.out hf0) ⟨_, _, qs, E, rfl, HO5.out, HPW5.out, HQ4.out, hBE, by omega, HDV.out⟩ (B2.b1 HS5.out) (B2.below HS5.out)
                have K1 : Hid (w5.heap[w.heap.size + 1]? = some (.cells #[.slice none 0 0, .slice none 0 0, .int .i64 0, .bool false] 29 (0, 0))) := B2.b1 HS5.out
                have K2 : Hid _ := And.intro k2 k3
                rw [hsD] at K2 a3 ⊢
                clear k2 k3 hf0 hsD HP0 HP1 HP2 FIN2 HEQ HR5
                generalize stF f = F at *
                go_wp2_with (refine wpList_store_row rfl 29 (.tmp 6) (.tmp 53) rfl (w.heap.size + 1) #[.slice da L dc, .slice ca m cc, .int .i64 F, .bool true] rfl rfl 29 _ K1.out HSD.out rfl (all4e _ _ _ _ _ _ _ _) ?_)
                (try simp only [Exit.inBlock, Exit.then])
                exact bodyPost_ret (v := .agg #[.slice da L dc, .slice ca m cc, .int .i64 F, .bool true]) (results_cell_row rfl _ _ (w.heap.size + 1) 29 _ (0, 0) _ rfl (setRow_heap _ _ _ _ _ _ K1.out) Try.underlying29 rfl HSD.out) rfl ⟨_, rfl, K2.out.1, K2.out.2⟩
              · have hsD : stD f false = false := by unfold stD; rw [if_neg hf0]
                have HP1' : Hid (wrP L ps f false s z = ps ++ [(s, z)]) := HP1.out hf0
                rw [hsD] at FIN2 HR5 a3 ⊢
                have hFF : ∃ F, stF f = F := ⟨_, rfl⟩
                obtain ⟨F, hF⟩ := hFF
                rw [hF] at FIN2 HR5 a2 ⊢
                clear hf0 hsD HP0 HP1 HP2 HEQ hF
                have hcb : ∀ j, (Value.slice ca m cc).ownBlock = some j → E ≤ j ∧ j < w5.heap.size := fun j e => ⟨(ownsRow_lt (POwn.row HPW5.out) j e).1, (ownsRow_lt (POwn.row HPW5.out) j e).2.1⟩
                have hcA : ∀ j, (Value.slice ca m cc).ownBlock = some j → j ≠ A := fun j e ej => by
                  obtain ⟨_, _, cur, h3⟩ := ownsRow_lt (POwn.row HPW5.out) j e
                  rw [ej, HR5.out] at h3; simp at h3
                have HCB : Hid _ := hcb
                have HCA : Hid _ := hcA
                have HLT : Hid (∀ (i : Nat) (p : Q1) (k : Nat), qs[i]? = some p → p.v.ownBlock = some k → k < w5.heap.size) := fun i p k hp e => ((POwn.each HPW5.out i p hp).lt k e).2.1
                clear hcb hcA
                go_wp2_with fail
                refine wp_region_any (by kernel_rfl) ?_
                refine wpAny_slotsK 10 (fun i w w' => (i ≠ 8 → Below w.heap.size w w') ∧ w.grownBy w' (Value.slice ca m cc).ownBlock) (frame := (fun (c0 c1 c2 c3 c4 c5 c6 c7 c8 c9 c10 c11 c12 c13 c14 c15 c16 c17 c18 c19 c20 c21 c22 c23 c24 c25 c26 c27 c28 c29 c30 c31 c32 c33 c34 c35 c36 c37 c38 c39 c40 c41 c42 c53 : Value) => fun (t : Nat → Value) => ({ tmps := List.toArray (c0 :: c1 :: c2 :: c3 :: c4 :: c5 :: c6 :: c7 :: c8 :: c9 :: c10 :: c11 :: c12 :: c13 :: c14 :: c15 :: c16 :: c17 :: c18 :: c19 :: c20 :: c21 :: c22 :: c23 :: c24 :: c25 :: c26 :: c27 :: c28 :: c29 :: c30 :: c31 :: c32 :: c33 :: c34 :: c35 :: c36 :: c37 :: c38 :: c39 :: c40 :: c41 :: c42 :: t 0 :: t 1 :: t 2 :: t 3 :: t 4 :: t 5 :: t 6 :: t 7 :: t 8 :: t 9 :: c53 :: []), defers := [] } : Act)) _ _ _ _ _ _ _ _ _ _ _ _ _ _ _ _ _ _ _ _ _ _ _ _ _ _ _ _ _ _ _ _ _ _ _ _ _ _ _ _ _ _ _ _)
                  (Ext := fun Ls w' => w5.grownBy w' (Value.slice ca m cc).ownBlock ∧ (Ls 8 = false → Below w5.heap.size w5 w')) (Good := GW5 A w5.heap.size E (.slice ca m cc) qs s xa xc z) (by rfl) (by kernel_rfl) (GW5_stab _ _ _ _ _ _ _ _ _ (fun k e => (HCB.out k e).2)) (by kernel_rfl) (by kernel_rfl) ?hop ?hend _ _ ((fun (x0 x1 x2 x3 x4 x5 x6 x7 x8 x9 : Value) => fun (i : Nat) => if i = 0 then x0 else if i = 1 then x1 else if i = 2 then x2 else if i = 3 then x3 else if i = 4 then x4 else if i = 5 then x5 else if i = 6 then x6 else if i = 7 then x7 else if i = 8 then x8 else if i = 9 then x9 else undef) _ _ _ _ _ _ _ _ _ _) _ (by simp) (by simp) ?ext ?start (by simp)
                case start => intro i hi h; exact absurd h (by rw [Array.getD_eq_getD_getElem?, Array.getElem?_replicate]; split <;> simp)
                case ext => exact ⟨grown_of_below (Below.refl _ _).drew, fun _ => (Below.refl _ _).drew⟩
                case hop =>
                  intro i o Ls t w' hil ho hLi hx hdep K hK
                  obtain ⟨hxg, hx9⟩ := hx
                  have h9 : ∀ (j : Nat) (ww : World), j ≠ 8 → Below w'.heap.size w' ww → updK Ls j 8 = false → Below w5.heap.size w5 ww := fun j ww hj hb hL => by
                    have hL' : Ls 8 = false := by simpa [updK, Ne.symm hj] using hL
                    exact (hx9 hL').trans (hb.mono hxg.size)
                  have haf : w'.heap[A]? = some (.cells #[.slice da L dc, .slice ca m cc, .int .i64 F, .bool false] 29 (0, 0)) := by
                    rw [hxg.block A hA5 (fun e => HCA.out A e.symm rfl)]; exact HR5.out
                  obtain ⟨a0, a1, a2, a3⟩ := row4 haf
                  have hbw : Below w.heap.size w w' := by
                    have hb0 := B2.below HS5.out
                    have hsz := hb0.size
                    exact hb0.trans ⟨hxg.os, hxg.tape, hxg.output, hxg.size, fun k hk => hxg.block k (by omega) (fun e => by have := HCB.out k e.symm; omega)⟩
                  have REF : Hid (∀ j, j ≠ 8 → (w5.grownBy w' (Value.slice ca m cc).ownBlock ∧ (updK Ls j 8 = false → Below w5.heap.size w5 w'))) := fun j hj => ⟨hxg, h9 j w' hj (Below.refl _ _)⟩
                  have RM : Hid (∀ j, (j ≠ 8 → Below w'.heap.size w' w') ∧ w'.grownBy w' (Value.slice ca m cc).ownBlock) := fun j => ⟨fun _ => Below.refl _ _, grown_of_below (Below.refl _ _)⟩
                  have hs9 := hxg.size
                  have H9 : Hid _ := h9
                  have HX9 : Hid _ := hx9
                  have HXG : Hid _ := hxg
                  clear h9 hx9 hxg haf
                  obtain rfl | rfl | rfl | rfl | rfl | rfl | rfl | rfl | rfl | rfl : i = 0 ∨ i = 1 ∨ i = 2 ∨ i = 3 ∨ i = 4 ∨ i = 5 ∨ i = 6 ∨ i = 7 ∨ i = 8 ∨ i = 9 := by omega
                  all_goals (simp at ho; subst ho)
                  · clear hdep
                    go_simp
                    exact hK w' (.pointer (some ⟨A, 1, none⟩)) rfl (REF.out 0 (by decide)) (RM.out 0)
                  · have d0 : t 0 = _ := hdep ⟨0, .data⟩ (by simp) rfl
                    clear hdep
                    go_simp
                    simpa [upd, d0] using hK w' (.slice ca m cc) rfl (REF.out 1 (by decide)) (RM.out 1)
                  · clear hdep
                    go_simp
                    exact hK w' (.int .i64 s) rfl (REF.out 2 (by decide)) (RM.out 2)
                  · clear hdep
                    have hb9 := (Below.refl w'.heap.size w').alloc (Nat.le_refl _) (.cells #[] 5)
                    have hK' := hK (w'.alloc (.cells #[] 5)) (.slice (some ⟨w'.heap.size, 0, none⟩) 0 0) ⟨w'.heap.size, rfl, Own.empty w' _ hs9⟩ ⟨grown_trans HXG.out (grown_of_below hb9), H9.out 3 _ (by decide) hb9⟩ ⟨fun _ => hb9, grown_of_below hb9⟩
                    clear hK
                    go_simp
                    simpa [upd] using hK'
                  · clear hdep
                    go_simp
                    exact hK w' (.slice xa xn xc) (show Value.slice xa xn xc = .slice xa z.length xc by rw [HHL.out.2.2]) (REF.out 4 (by decide)) (RM.out 4)
                  · obtain ⟨B, d3, O3⟩ := hdep ⟨3, .data⟩ (by simp) rfl
                    have d4 : t 4 = _ := hdep ⟨4, .data⟩ (by simp) rfl
                    clear hdep
                    refine wp_appE w' (.tmp 46) (.tmp 47) rfl w5.heap.size B d3 O3 xa z.length xc z d4 rfl (At.below HX.out hbw) (by rw [HHL.out.2.2]; exact hzn) hs9 ?_
                    intro v9 w9 O9 hb9
                    exact hK w9 v9 (.inr O9) ⟨grown_trans HXG.out (grown_of_below hb9), H9.out 5 w9 (by decide) hb9⟩ ⟨fun _ => hb9, grown_of_below hb9⟩
                  · have d2 : t 2 = _ := hdep ⟨2, .data⟩ (by simp) rfl
                    have d6 : OwnN w' w5.heap.size (t 5) z := hdep ⟨5, .data⟩ (by simp) rfl
                    clear hdep
                    obtain ⟨ea, ec, e6⟩ := d6.sl'
                    rw [e6] at d6
                    have hK' := hK w' (.agg #[.int .i64 s, .slice ea z.length ec]) ⟨ea, ec, rfl, d6⟩ (REF.out 6 (by decide)) (RM.out 6)
                    clear d6 hK
                    go_simp
                    simpa [upd, e6, d2] using hK'
                  · obtain ⟨ea, ec, e7, O7⟩ := hdep ⟨6, .data⟩ (by simp) rfl
                    clear hdep
                    have hb9 := (Below.refl w'.heap.size w').alloc (Nat.le_refl _) (.cells #[.int .i64 s, .slice ea z.length ec] 44)
                    have hK' := hK (w'.alloc (.cells #[.int .i64 s, .slice ea z.length ec] 44)) (.slice (some ⟨w'.heap.size, 0, none⟩) 1 1) ⟨w'.heap.size, ea, ec, rfl, hs9, heap_alloc_new w' _, O7.grow hb9⟩ ⟨grown_trans HXG.out (grown_of_below hb9), H9.out 7 _ (by decide) hb9⟩ ⟨fun _ => hb9, grown_of_below hb9⟩
                    clear hK O7 hb9
                    go_simp
                    simpa [upd, e7] using hK'
                  · have d1 : t 1 = _ := hdep ⟨1, .data⟩ (by simp) rfl
                    obtain ⟨B, ea, ec, e8, hB, hbB, O8⟩ := hdep ⟨7, .data⟩ (by simp) rfl
                    clear hdep
                    have hP9 := POwn.below HPW5.out (HX9.out hLi)
                    refine wp_appP w' (.tmp 44) (.tmp 50) rfl E w5.heap.size (.slice ca m cc) qs ⟨s, ea, ec, z⟩ d1 hP9 HLT.out B e8 hbB (.inl O8) (by omega) (by omega) (by omega) ?_
                    intro v9 w9 hP9' hg9
                    exact hK w9 v9 ⟨_, rfl, rfl, hP9'⟩ ⟨grown_trans HXG.out hg9, fun h => by simp [updK] at h⟩ ⟨fun h => absurd rfl h, hg9⟩
                  · clear hdep
                    go_simp
                    exact hK w' (.pointer (some ⟨A, 1, none⟩)) rfl (REF.out 9 (by decide)) (RM.out 9)
                case hend =>
                  intro o Ls t w' ho hx hg K hK
                  simp at ho; subst ho
                  obtain ⟨hxg, _⟩ := hx
                  obtain ⟨q', hq1, hq2, hP9⟩ := hg 8 (by decide)
                  have h11 : t 9 = _ := hg 9 (by decide)
                  clear hg
                  obtain ⟨na, nc, e9, _⟩ := hP9.mine
                  obtain ⟨n9, hn9⟩ : ∃ n9, (qs ++ [q']).length = n9 := ⟨_, rfl⟩
                  rw [hn9] at e9
                  clear hn9
                  rw [e9] at hP9
                  have haf : w'.heap[A]? = some (.cells #[.slice da L dc, .slice ca m cc, .int .i64 F, .bool false] 29 (0, 0)) := by
                    rw [hxg.block A hA5 (fun e => HCA.out A e.symm rfl)]; exact HR5.out
                  have hs9 := hxg.size
                  have hbw : Below w.heap.size w w' := by
                    have hb0 := B2.below HS5.out
                    have hsz := hb0.size
                    exact hb0.trans ⟨hxg.os, hxg.tape, hxg.output, hxg.size, fun k hk => hxg.block k (by omega) (fun e => by have := HCB.out k e.symm; omega)⟩
                  have hb1 : w'.heap[w.heap.size + 1]? = some (.cells #[.slice none 0 0, .slice none 0 0, .int .i64 0, .bool false] 29 (0, 0)) := by
                    rw [hxg.block _ (by omega) (fun e => by have := HCB.out _ e.symm; omega)]; exact B2.b1 HS5.out
                  obtain ⟨a0, a1, a2, a3⟩ := row4 haf
                  have f1 := frozen_of_row w' A 1 _ _ haf
                  have hA9 := row_setCell (i := 1) (.slice na n9 nc) haf rfl
                  have hwr : Wr A w' (w'.setCell ⟨A, 1, none⟩ (.slice na n9 nc)) := (Wr.refl A w').setCell 1 _
                  have O9 : OwnN w' w3.heap.size (.slice da L dc) zs := OwnN.keep HO5.out (fun k e => hxg.block k (OwnN.lt HO5.out k e).2.1 (fun ek => by have := HCB.out k ek.symm; have := HDV.out k e; omega))
                  have D9 : DvOwn w' w3.heap.size (.agg #[.slice da L dc, .slice na n9 nc, .int .i64 F, .bool false]) zs (ps ++ [(s, z)]) F false :=
                    ⟨_, _, qs ++ [q'], E, rfl, O9, hP9, by rw [← HQ4.out]; simp [qps, hq1, hq2], hBE, by omega, HDV.out⟩
                  have D10 := D9.keep (w' := w'.setCell ⟨A, 1, none⟩ (.slice na n9 nc)) (fun k cur t _ hh ht => hwr.block k (fun e => by rw [e, haf] at hh; simp at hh; exact ht hh.2.symm)) (by rw [hwr.size]; exact Nat.le_refl _)
                  have hb1' : (w'.setCell ⟨A, 1, none⟩ (.slice na n9 nc)).heap[w.heap.size + 1]? = some (.cells #[.slice none 0 0, .slice none 0 0, .int .i64 0, .bool false] 29 (0, 0)) := by rw [hwr.block _ (by omega)]; exact hb1
                  obtain ⟨k2, k3⟩ := FIN2.out _ _ _ HP1'.out D10 hb1' (hbw.trans (hwr.below (by omega)))
                  have K1 : Hid ((w'.setCell ⟨A, 1, none⟩ (.slice na n9 nc)).heap[w.heap.size + 1]? = some (.cells #[.slice none 0 0, .slice none 0 0, .int .i64 0, .bool false] 29 (0, 0))) := hb1'
                  have K2 : Hid _ := And.intro k2 k3
                  clear k2 k3 hb1' D10 D9 O9 hwr hA9 hb1 hbw haf hP9 hxg hq1 hq2
                  go_simp
                  apply hK
                  clear e9 h11
                  go_wp2_with (refine wpList_store_row rfl 29 (.tmp 6) (.tmp 53) rfl (w.heap.size + 1) #[.slice da L dc, .slice na n9 nc, .int .i64 F, .bool false] rfl rfl 29 _ K1.out HSD.out rfl (all4e _ _ _ _ _ _ _ _) ?_)
                  (try simp only [Exit.inBlock, Exit.then])
                  exact bodyPost_ret (v := .agg #[.slice da L dc, .slice na n9 nc, .int .i64 F, .bool false]) (results_cell_row rfl _ _ (w.heap.size + 1) 29 _ (0, 0) _ rfl (setRow_heap _ _ _ _ _ _ K1.out) Try.underlying29 rfl HSD.out) rfl ⟨_, rfl, K2.out.1, K2.out.2⟩
          · have hx64' : ((xn : Int) != 64) = true := by simp; omega
            have hw0 : W0 = false := by rw [hwon]; simp [hx64]
            go_wp2_with fail
            refine (HCP.out w3 (B2.below HS3.out)).mono ?_
            rintro e w5 ⟨r, rfl, D5, hb5⟩
            have D5' := D5
            obtain ⟨da, dc, ca, cc, B1, hr5, _⟩ := D5'.mine
            subst hr5
            rw [HHL.out.1, HHL.out.2.1] at D5 ⊢
            obtain ⟨k1, k2, k3⟩ := FIN.out hw0 w3 w5 da dc ca cc HS3.out (by omega) D5 hb5
            have K1 : Hid _ := k1
            have K2 : Hid _ := And.intro k2 k3
            clear k1 k2 k3 D5 hb5 c0 c1 c2 c3
            go_wp2_with (refine wpList_store_row rfl 29 (.tmp 6) (.tmp 37) rfl (w.heap.size + 1) #[.slice da L dc, .slice ca m cc, .int .i64 f, .bool false] rfl rfl 29 _ K1.out HSD.out rfl (all4e _ _ _ _ _ _ _ _) ?_)
            (try simp only [Exit.inBlock, Exit.then])
            exact bodyPost_ret (v := .agg #[.slice da L dc, .slice ca m cc, .int .i64 f, .bool false]) (results_cell_row rfl _ _ (w.heap.size + 1) 29 _ (0, 0) _ rfl (setRow_heap _ _ _ _ _ _ K1.out) Try.underlying29 rfl HSD.out) rfl ⟨_, rfl, K2.out.1, K2.out.2⟩
end Go.Proofs.Ytiignammhieidaa
