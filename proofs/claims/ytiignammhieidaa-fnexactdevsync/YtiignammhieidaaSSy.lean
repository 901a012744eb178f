/-
  Own work: the model's sync.
-/
import Derived.Test.YtiignammhieidaaStp
namespace Go.Proofs.Ytiignammhieidaa
open Go.ChangeShapes Go.WideShapes Go.ChangeAt Go.RowKit
set_option linter.unusedVariables false

/-- The disk when the first k pending writes are on it. -/
def syL (zs : List Int) (ps : List PD) (k : Nat) : List Int := crL zs ps (List.replicate ps.length true) (-1) 0 k
theorem syL_zero (zs : List Int) (ps : List PD) : syL zs ps 0 = zs := rfl
theorem syL_len {zs : List Int} {ps : List PD} (h : PsOk zs.length ps) (hL : zs.length % 64 = 0) (k : Nat) (hk : k ≤ ps.length) : (syL zs ps k).length = zs.length := crL_len h hL k hk
theorem syL_succ {zs : List Int} {ps : List PD} {k s : Nat} (hk : k < ps.length) (hs : (ps.getD k (0, [])).1 = (s : Int)) (hd : (ps.getD k (0, [])).2.length = 64) : syL zs ps (k + 1) = overL (syL zs ps k) s (ps.getD k (0, [])).2 := by
  have hr : rch (List.replicate ps.length true) (-1) 0 k = 64 := rch_keep (by omega) (by simp [List.getD, hk])
  show overL _ _ _ = _
  rw [hr, hs, List.take_of_length_le (by omega)]
  rfl
def syOn (L : Nat) (ps : List PD) (f : Int) (d : Bool) : Bool := validB L ps f && !d && decide (f ≠ 0)
def syZ (zs : List Int) (ps : List PD) (f : Int) (d : Bool) : List Int := if syOn zs.length ps f d then syL zs ps ps.length else zs
def syP (L : Nat) (ps : List PD) (f : Int) (d : Bool) : List PD := if syOn L ps f d then [] else ps
def syF (L : Nat) (ps : List PD) (f : Int) (d : Bool) : Int := if validB L ps f && !d then stF f else f
def syD (L : Nat) (ps : List PD) (f : Int) (d : Bool) : Bool := if validB L ps f && !d then stD f d else d

/-- A disk that may be written: its slice, where it lies, that it may be written. -/
def DK (w : World) (B A : Nat) (dv : Value) (y : List Int) : Prop := ∃ g o c, dv = .slice (some ⟨g, o, none⟩) y.length c ∧ y.length ≤ c ∧ At .u8 w (some ⟨g, o, none⟩) y ∧ Open w (some ⟨g, o, none⟩) y.length ∧ B ≤ g ∧ g < w.heap.size ∧ g ≠ A
theorem DK.keep {w w' : World} {B A : Nat} {dv : Value} {y : List Int} (h : DK w B A dv y) (hk : ∀ k, k < w.heap.size → k ≠ A → w'.heap[k]? = w.heap[k]?) (hs : w.heap.size ≤ w'.heap.size) : DK w' B A dv y := by
  obtain ⟨g, o, c, e, h1, h2, h3, h4, h5, h6⟩ := h
  exact ⟨g, o, c, e, h1, h2.keep (fun ad ea => by cases ea; exact hk g h5 h6) hs, h3.keep (fun ad ea => by cases ea; exact hk g h5 h6) hs, h4, by omega, h6⟩
theorem DK.of_own {w : World} {B A : Nat} {dv : Value} {y : List Int} (h : Own w B dv y) (hA : A < B) : DK w B A dv y := by
  obtain ⟨g, c, rfl, hb, hg, hc, hAt, hO⟩ := h.at_
  exact ⟨g, 0, c, rfl, hc, hAt, hO, hb, hg, by omega⟩
theorem DK.mine {w : World} {B A : Nat} {dv : Value} {y : List Int} (h : DK w B A dv y) (b : Value) (hb : ∃ ca cc, b = .slice ca 0 cc) (f : Int) (d : Bool) : DMine B w.heap.size w (.agg #[dv, b, .int .i64 f, .bool d]) y [] f d := by
  obtain ⟨g, o, c, rfl, h1, h2, h3, h4, h5, h6⟩ := h
  obtain ⟨ca, cc, rfl⟩ := hb
  exact ⟨_, c, ca, cc, w.heap.size, rfl, h2, h3, fun ad e => by cases e; exact ⟨h4, h5⟩, by omega, Nat.le_refl _, Nat.le_refl _, .inl rfl, h1⟩

/-- The state of the model's loop. -/
structure SY (w wr : World) (C1 : Array Value) (A : Nat) (dv cv : Value) (f : Int) (y : List Int) : Prop where
  box : B2 w wr C1
  aft : wr.heap[A]? = some (.cells #[dv, cv, .int .i64 f, .bool false] 29 (0, 0))
  dk : DK wr (w.heap.size + 2) A dv y
  hA : w.heap.size + 2 ≤ A
theorem SY.grow {w wr w' : World} {C1 : Array Value} {A : Nat} {dv cv : Value} {f : Int} {y : List Int} (h : SY w wr C1 A dv cv f y) (hb : Below wr.heap.size wr w') : SY w w' C1 A dv cv f y :=
  ⟨h.box.grow hb, by rw [hb.block _ (Array.getElem?_eq_some_iff.1 h.aft).1]; exact h.aft, h.dk.keep (fun k hk _ => hb.block k hk) hb.size, h.hA⟩
def GY (D A b5 o5 m cx k s b6 o6 c6 S : Nat) (dv : Value) (Y : List Int) : Nat → World → Value → Prop
  | 0, _, v => v = .pointer (some ⟨A, 0, none⟩)
  | 1, _, v => v = dv
  | 2, _, v => v = .pointer (some ⟨D, 1, none⟩)
  | 3, _, v => v = .slice (some ⟨b5, o5, none⟩) m cx
  | 4, _, v => v = .int .i64 k
  | 5, _, v => v = .pointer (some ⟨b5, o5 + k * 2, none⟩)
  | 6, _, v => v = .pointer (some ⟨b5, o5 + k * 2, none⟩)
  | 7, _, v => v = .int .i64 s
  | 8, _, v => v = .pointer (some ⟨D, 1, none⟩)
  | 9, _, v => v = .slice (some ⟨b5, o5, none⟩) m cx
  | 10, _, v => v = .int .i64 k
  | 11, _, v => v = .pointer (some ⟨b5, o5 + k * 2, none⟩)
  | 12, _, v => v = .pointer (some ⟨b5, o5 + k * 2 + 1, none⟩)
  | 13, _, v => v = .slice (some ⟨b6, o6, none⟩) 64 c6
  | 14, w, v => Own w S v Y
  | _, _, v => v = .pointer (some ⟨A, 0, none⟩)
theorem GY_mono (D A b5 o5 m cx k s b6 o6 c6 S : Nat) (dv : Value) (Y : List Int) (i : Nat) (w w' : World) (v : Value) (hm : Below w.heap.size w w') (h : GY D A b5 o5 m cx k s b6 o6 c6 S dv Y i w v) : GY D A b5 o5 m cx k s b6 o6 c6 S dv Y i w' v := by
  unfold GY at *
  split at h <;> first | exact h | exact h.grow hm

set_option maxHeartbeats 2000000 in
set_option maxRecDepth 100000 in
theorem ssy_any (v : Value) (zs : List Int) (ps : List PD) (f : Int) (d : Bool) (w : World) (h : DAt w v zs ps f d) (hz : zs.length ≤ 1048576) (hn : ps.length ≤ 1048576) (hps : ∀ i, (ps.getD i (0, [])).2.length ≤ 1048576) (hf : f ≤ 9223372036854775807) :
    Calls Try.prog 15 #[v] w fun e w' => ∃ r, e = .returned r ∧ DMine w.heap.size w'.heap.size w' r (syZ zs ps f d) (syP zs.length ps f d) (syF zs.length ps f d) (syD zs.length ps f d) ∧ Below w.heap.size w w' := by
  have HSD : Hid _ := Try.sizeDv
  have hD := h
  obtain ⟨a, cap, x, cx, rfl, hA, hP, hcap⟩ := h
  have HV : Hid (∀ ww : World, Below w.heap.size w ww → Calls Try.prog 19 #[.agg #[.slice a zs.length cap, .slice x ps.length cx, .int .i64 f, .bool d]] ww fun e w' => e = .returned (.bool (validB zs.length ps f)) ∧ Below ww.heap.size ww w') := fun ww hb => sval_any _ zs ps f d ww (hD.below hb) hz hn hps
  have HCP : Hid (∀ ww : World, Below w.heap.size w ww → Calls Try.prog 21 #[.agg #[.slice a zs.length cap, .slice x ps.length cx, .int .i64 f, .bool d]] ww fun e w' => ∃ r, e = .returned r ∧ DMine ww.heap.size w'.heap.size w' r zs ps f d ∧ Below ww.heap.size ww w') := fun ww hb => (scp_any _ zs ps f d ww (hD.below hb) hz hn hps).mono (fun e w' hh => by obtain ⟨r, h1, h2, h3⟩ := hh; exact ⟨r, h1, h2.mine, h3⟩)
  have HST : Hid (∀ ww : World, Below w.heap.size w ww → Calls Try.prog 22 #[.agg #[.slice a zs.length cap, .slice x ps.length cx, .int .i64 f, .bool d]] ww fun e w' => ∃ r, e = .returned r ∧ DMine ww.heap.size w'.heap.size w' r zs ps (stF f) (stD f d) ∧ Below ww.heap.size ww w') := fun ww hb => (sst_any _ zs ps f d ww (hD.below hb) hz hn hps hf).mono (fun e w' hh => by obtain ⟨r, h1, h2, h3⟩ := hh; exact ⟨r, h1, h2.mine, h3⟩)
  have HP : Hid (PAt w x ps) := hP
  have HEQ : Hid (∀ Z P F D, syZ zs ps f d = Z → syP zs.length ps f d = P → syF zs.length ps f d = F → syD zs.length ps f d = D → ∀ (w' : World) (r : Value), DMine w.heap.size w'.heap.size w' r Z P F D → DMine w.heap.size w'.heap.size w' r (syZ zs ps f d) (syP zs.length ps f d) (syF zs.length ps f d) (syD zs.length ps f d)) := by
    intro Z P F D h1 h2 h3 h4 w' r hd; rw [h1, h2, h3, h4]; exact hd
  have HVO : Hid (validB zs.length ps f = true → vBase zs.length ps.length f ∧ PsOk zs.length ps) := validB_of
  have HLEN : Hid (validB zs.length ps f = true → ∀ k, k ≤ ps.length → (syL zs ps k).length = zs.length) := fun hv k hk => syL_len (validB_of hv).2 (validB_of hv).1.1 k hk
  have HOFF : Hid (validB zs.length ps f = false ∨ d = true → syZ zs ps f d = zs ∧ syP zs.length ps f d = ps ∧ syF zs.length ps f d = f ∧ syD zs.length ps f d = d) := by
    rintro (hv | hv)
    · unfold syZ syP syF syD syOn; rw [hv]; simp
    · unfold syZ syP syF syD syOn; rw [hv]; simp
  have HNOF : Hid (validB zs.length ps f = true → d = false → f = 0 → syZ zs ps f d = zs ∧ syP zs.length ps f d = ps ∧ syF zs.length ps f d = stF f ∧ syD zs.length ps f d = stD f d) := by
    intro h1 h2 h3; unfold syZ syP syF syD syOn; rw [h1, h2, h3]; simp
  have HON : Hid (validB zs.length ps f = true → d = false → f ≠ 0 → syZ zs ps f d = syL zs ps ps.length ∧ syP zs.length ps f d = [] ∧ syF zs.length ps f d = stF f ∧ syD zs.length ps f d = false) := by
    intro h1 h2 h3; unfold syZ syP syF syD syOn stD; rw [h1, h2]; simp [h3]
  obtain ⟨L, hL⟩ : ∃ L, zs.length = L := ⟨_, rfl⟩
  obtain ⟨m, hm⟩ : ∃ m, ps.length = m := ⟨_, rfl⟩
  have HHL : Hid (zs.length = L ∧ ps.length = m) := ⟨hL, hm⟩
  rw [hL] at hz HV HCP HST HEQ HVO HLEN HOFF HNOF HON ⊢
  rw [hm] at hn HV HCP HST HVO HLEN HON ⊢
  clear hL hm hA hP hcap hps hD
  have HS0 : Hid (B2 w _ #[.slice a L cap, .slice x m cx, .int .i64 f, .bool d]) := B2.start w #[.slice a L cap, .slice x m cx, .int .i64 f, .bool d]
  go_enter Try.func15, Try.ntmps15
  go_wp2_with fail
  have st1 := HS0.out
  clear HS0
  generalize ((w.alloc (.cells #[.slice a L cap, .slice x m cx, .int .i64 f, .bool d] 29)).alloc (.cells #[.slice none 0 0, .slice none 0 0, .int .i64 0, .bool false] 29)) = w1 at *
  refine (HV.out w1 st1.below).mono ?_
  rintro e w2 ⟨rfl, hb2⟩
  have st2 := st1.grow hb2
  have hs2 : w.heap.size + 1 < w2.heap.size := (Array.getElem?_eq_some_iff.1 st2.b1).1
  obtain ⟨c0, c1, c2, c3⟩ := row4 st2.b0
  have HS2 : Hid (B2 w w2 #[.slice a L cap, .slice x m cx, .int .i64 f, .bool d]) := st2
  clear st1 st2 hb2 HV
  by_cases hon : validB L ps f = true ∧ d = false
  · obtain ⟨hval, rfl⟩ := hon
    rw [hval]
    obtain ⟨⟨v1, v2, v3, v4, v5, v6⟩, hok⟩ := HVO.out hval
    have HOK : Hid (PsOk L ps) := hok
    have HLN : Hid (∀ k, k ≤ m → (syL zs ps k).length = L) := HLEN.out hval
    clear hok HVO HLEN HOFF HCP
    go_wp2_with fail
    refine (HST.out w2 (B2.below HS2.out)).mono ?_
    rintro e w3 ⟨r, rfl, D3, hb3⟩
    have st3 := B2.grow HS2.out hb3
    have hs3 := hb3.size
    have D3' := D3
    obtain ⟨da, dc, ca, cc, B1, rfl, hAt, hOp, hab, _, hB1, _, _, hdc⟩ := D3'
    rw [HHL.out.1, HHL.out.2] at D3 ⊢
    have HD3 : Hid (DMine w2.heap.size w3.heap.size w3 (.agg #[.slice da L dc, .slice ca m cc, .int .i64 (stF f), .bool (stD f false)]) zs ps (stF f) (stD f false)) := D3
    have HDK : Hid (At .u8 w3 da zs ∧ Open w3 da zs.length ∧ (∀ ad, da = some ad → w2.heap.size ≤ ad.block ∧ ad.block < B1) ∧ zs.length ≤ dc) := ⟨hAt, hOp, hab, hdc⟩
    have HS3 : Hid (B2 w w3 #[.slice a L cap, .slice x m cx, .int .i64 f, .bool false]) := st3
    clear st3 D3 hb3 HS2 HST c0 c1 c2 c3 hAt hOp hab hdc
    by_cases hf0 : f = 0
    · obtain ⟨e1, e2, e3, e4⟩ := HNOF.out hval (by trivial) hf0
      have hsF : stF f = 0 := by rw [hf0]; rfl
      have hsD : stD f false = true := by rw [hf0]; rfl
      have HEND : Hid (∀ (w' : World) (r : Value), DMine w.heap.size w'.heap.size w' r zs ps 0 true → DMine w.heap.size w'.heap.size w' r (syZ zs ps f false) (syP L ps f false) (syF L ps f false) (syD L ps f false)) := fun w' r hd => HEQ.out _ _ _ _ e1 e2 (e3.trans hsF) (e4.trans hsD) w' r hd
      rw [hsF, hsD] at HD3 ⊢
      clear e1 e2 e3 e4 hsF hsD HNOF HON HEQ HDK hf0
      go_wp2_with (refine wpList_storeW rfl 29 (.tmp 3) (.tmp 15) rfl w3.heap.size #[.slice da L dc, .slice ca m cc, .int .i64 0, .bool true] rfl rfl 29 _ (heap_alloc_new w3 _) HSD.out rfl (all4e _ _ _ _ _ _ _ _) ?_)
      intro w4 hr4 hw4
      have hb4 : Below w3.heap.size w3 w4 := ((Below.refl _ _).alloc (Nat.le_refl _) _).trans (hw4.below (Nat.le_refl _))
      have st4 := B2.grow HS3.out hb4
      have D4 := DMine.below HD3.out hb4
      obtain ⟨a0, a1, a2, a3⟩ := row4 hr4
      have K1 : Hid (w4.heap[w.heap.size + 1]? = some (.cells #[.slice none 0 0, .slice none 0 0, .int .i64 0, .bool false] 29 (0, 0))) := st4.b1
      have D5 : DMine w.heap.size (w4.setRow (w.heap.size + 1) #[.slice da L dc, .slice ca m cc, .int .i64 0, .bool true]).heap.size (w4.setRow (w.heap.size + 1) #[.slice da L dc, .slice ca m cc, .int .i64 0, .bool true]) (.agg #[.slice da L dc, .slice ca m cc, .int .i64 0, .bool true]) zs ps 0 true := by
        rw [size_setRow]
        obtain ⟨da', dc', ca', cc', B1', hv, p1, p2, p3, p4, p5, p5', p6, p7⟩ := (D4.keep (w' := w4.setRow (w.heap.size + 1) #[.slice da L dc, .slice ca m cc, .int .i64 0, .bool true]) (fun j hj _ => (Wr.setRow _ _ _).block j (by omega)) (by rw [size_setRow]; exact Nat.le_refl _)).mono (B' := w.heap.size) (by omega)
        rw [size_setRow] at p5'
        refine ⟨da', dc', ca', cc', B1', hv, p1, p2, p3, p4, by omega, by rw [size_setRow]; exact Nat.le_refl _, ?_, p7⟩
        rcases p6 with h | ⟨g, o, X, C, h1, h2, h3, h4, h5, h6⟩
        · exact .inl h
        · exact .inr ⟨g, o, X, C, h1, h2, by omega, by rw [size_setRow]; exact Nat.le_refl _, fun i hi => by obtain ⟨s1, s2, s3, s4, s5, s6, s7⟩ := h5 i hi; exact ⟨s1, s2, s3, s4, s5, fun ad e => by have := s6 ad e; exact ⟨this.1, by omega, this.2.2⟩, s7⟩, h6⟩
      have K2 : Hid _ := And.intro (HEND.out _ _ D5) (st4.below.trans ((Wr.setRow (w.heap.size + 1) w4 #[.slice da L dc, .slice ca m cc, .int .i64 0, .bool true]).below (by omega)))
      clear D5 D4 st4 hr4 hw4 hb4 HS3 HD3
      go_wp2_with (refine wpList_store_row rfl 29 (.tmp 2) (.tmp 44) rfl (w.heap.size + 1) #[.slice da L dc, .slice ca m cc, .int .i64 0, .bool true] rfl rfl 29 _ K1.out HSD.out rfl (all4e _ _ _ _ _ _ _ _) ?_)
      (try simp only [Exit.inBlock, Exit.then])
      exact bodyPost_ret (v := .agg #[.slice da L dc, .slice ca m cc, .int .i64 0, .bool true]) (results_cell_row rfl _ _ (w.heap.size + 1) 29 _ (0, 0) _ rfl (setRow_heap _ _ _ _ _ _ K1.out) Try.underlying29 rfl HSD.out) rfl ⟨_, rfl, K2.out.1, K2.out.2⟩
    · obtain ⟨e1, e2, e3, e4⟩ := HON.out hval (by trivial) hf0
      have hsD : stD f false = false := by unfold stD; rw [if_neg hf0]
      have HEND : Hid (∀ (w' : World) (r : Value), DMine w.heap.size w'.heap.size w' r (syL zs ps m) [] (stF f) false → DMine w.heap.size w'.heap.size w' r (syZ zs ps f false) (syP L ps f false) (syF L ps f false) (syD L ps f false)) := fun w' r hd => HEQ.out _ _ _ _ e1 e2 e3 e4 w' r hd
      rw [hsD] at HD3 ⊢
      clear e1 e2 e3 e4 hsD HNOF HON HEQ HD3
      generalize stF f = F at *
      go_wp2_with (refine wpList_storeW rfl 29 (.tmp 3) (.tmp 15) rfl w3.heap.size #[.slice da L dc, .slice ca m cc, .int .i64 F, .bool false] rfl rfl 29 _ (heap_alloc_new w3 _) HSD.out rfl (all4e _ _ _ _ _ _ _ _) ?_)
      intro w4 hr4 hw4
      have hb4 : Below w3.heap.size w3 w4 := ((Below.refl _ _).alloc (Nat.le_refl _) _).trans (hw4.below (Nat.le_refl _))
      have hAl : w3.heap.size < w4.heap.size := (Array.getElem?_eq_some_iff.1 hr4).1
      have st4 : SY w w4 #[.slice a L cap, .slice x m cx, .int .i64 f, .bool false] w3.heap.size (.slice da L dc) (.slice ca m cc) F (syL zs ps 0) := by
        obtain ⟨h1, h2, h3, h4⟩ := HDK.out
        have hzl := HHL.out.1
        obtain ⟨g, o, rfl, hg, _⟩ := h1.get (by omega)
        have hb := h3 _ rfl
        refine ⟨B2.grow HS3.out hb4, hr4, ⟨g, o, dc, by rw [syL_zero, hzl], by rw [syL_zero]; exact h4, by rw [syL_zero]; exact h1.below hb4, by rw [syL_zero]; exact h2.below hb4, ?_, by omega, ?_⟩, by omega⟩
        · have : w2.heap.size ≤ g := hb.1
          omega
        · omega
      obtain ⟨a0, a1, a2, a3⟩ := row4 st4.aft
      obtain ⟨c0, c1, c2, c3⟩ := row4 st4.box.b0
      have HS4 : Hid (SY w w4 #[.slice a L cap, .slice x m cx, .int .i64 f, .bool false] w3.heap.size (.slice da L dc) (.slice ca m cc) F (syL zs ps 0)) := st4
      clear st4 hr4 hw4 hb4 HDK HS3
      generalize w3.heap.size = A at *
      go_wp2
      have st4 := HS4.out
      clear HS4 a0 a1 a2 a3 c0 c1 c2 c3
      go_loopw [4] (fun i wr => ∃ (k : Nat) (dv : Value), k ≤ m ∧ i = .int .i64 k ∧ SY w wr #[.slice a L cap, .slice x m cx, .int .i64 f, .bool false] A dv (.slice ca m cc) F (syL zs ps k)) (fun i _ => m - (intOf i).toNat)
      case atStart => exact ⟨0, _, Nat.zero_le _, rfl, st4⟩
      case round =>
        obtain ⟨k, dv, hk, rfl, st⟩ := hrel
        clear st4
        obtain ⟨y0, y1, y2, y3⟩ := row4 st.box.b0
        have hlen := HLN.out k hk
        obtain ⟨g, o, gc, rfl, hgc, hgA, hgO, hg1, hg2, hg3⟩ := st.dk
        rw [hlen] at st hgc
        by_cases hlt : k < m
        · obtain ⟨s, hs, hsl, hd⟩ := PsOk.at_ HOK.out v1 (i := k) (by rw [HHL.out.2]; exact hlt)
          obtain ⟨b5, o5, b6, o6, c6, rfl, hb5, q1, q2, q4⟩ := PAt.entry HP.out (i := k) (by rw [HHL.out.2]; exact hlt) (by rw [hd]; decide)
          have hnew := syL_succ (zs := zs) (by rw [HHL.out.2]; exact hlt) hs hd
          rw [hs] at q1
          rw [hd] at q2
          have hlt' : (k : Int) < m := by omega
          have HST : Hid (SY w wr #[.slice a L cap, .slice (some ⟨b5, o5, none⟩) m cx, .int .i64 f, .bool false] A (.slice (some ⟨g, o, none⟩) L gc) (.slice ca m cc) F (syL zs ps k)) := st
          have HNEW : Hid (syL zs ps (k + 1) = overL (syL zs ps k) s (ps.getD k (0, [])).2) := hnew
          have HQ : Hid (w.cell? ⟨b5, o5 + k * 2, none⟩ = some (.int .i64 s) ∧ w.cell? ⟨b5, o5 + k * 2 + 1, none⟩ = some (.slice (some ⟨b6, o6, none⟩) 64 c6)) := ⟨q1, q2⟩
          have HQ4 : Hid (At .u8 w (some ⟨b6, o6, none⟩) (ps.getD k (0, [])).2) := q4
          have HHD : Hid ((ps.getD k (0, [])).2.length = 64) := hd
          have HLK : Hid ((syL zs ps k).length = L) := hlen
          have HGA : Hid (At .u8 wr (some ⟨g, o, none⟩) (syL zs ps k)) := hgA
          clear st hnew q1 q2 q4 hs hd hlen hgA hgO
          go_wp2_with fail
          clear y0 y1 y2 y3 hlt'
          refine wp_region_any (by kernel_rfl) ?_
          refine wpAny_slotsL 16 (fun w w' => Below w.heap.size w w') (frame := (fun (c0 c1 c2 c3 c4 c5 c6 c7 c8 c9 c10 c11 c12 c13 c14 c15 c16 c17 c18 c19 c20 c21 c22 c23 c24 c25 c42 c43 c44 : Value) => fun (t : Nat → Value) => ({ tmps := List.toArray (c0 :: c1 :: c2 :: c3 :: c4 :: c5 :: c6 :: c7 :: c8 :: c9 :: c10 :: c11 :: c12 :: c13 :: c14 :: c15 :: c16 :: c17 :: c18 :: c19 :: c20 :: c21 :: c22 :: c23 :: c24 :: c25 :: t 0 :: t 1 :: t 2 :: t 3 :: t 4 :: t 5 :: t 6 :: t 7 :: t 8 :: t 9 :: t 10 :: t 11 :: t 12 :: t 13 :: t 14 :: t 15 :: c42 :: c43 :: c44 :: []), defers := [] } : Act)) _ _ _ _ _ _ _ _ _ _ _ _ _ _ _ _ _ _ _ _ _ _ _ _ _ _ _ _ _)
            (Ext := fun w' => SY w w' #[.slice a L cap, .slice (some ⟨b5, o5, none⟩) m cx, .int .i64 f, .bool false] A (.slice (some ⟨g, o, none⟩) L gc) (.slice ca m cc) F (syL zs ps k) ∧ Below wr.heap.size wr w') (Good := GY w.heap.size A b5 o5 m cx k s b6 o6 c6 wr.heap.size (.slice (some ⟨g, o, none⟩) L gc) (syL zs ps (k + 1))) (by rfl) (by kernel_rfl) (GY_mono _ _ _ _ _ _ _ _ _ _ _ _ _ _) (by kernel_rfl) (by kernel_rfl) ?hop ?hend _ _ ((fun (x0 x1 x2 x3 x4 x5 x6 x7 x8 x9 x10 x11 x12 x13 x14 x15 : Value) => fun (i : Nat) => if i = 0 then x0 else if i = 1 then x1 else if i = 2 then x2 else if i = 3 then x3 else if i = 4 then x4 else if i = 5 then x5 else if i = 6 then x6 else if i = 7 then x7 else if i = 8 then x8 else if i = 9 then x9 else if i = 10 then x10 else if i = 11 then x11 else if i = 12 then x12 else if i = 13 then x13 else if i = 14 then x14 else if i = 15 then x15 else undef) _ _ _ _ _ _ _ _ _ _ _ _ _ _ _ _) _ (by simp) (by simp) ?ext ?start (by simp)
          case start => intro i hi h; exact absurd h (by rw [Array.getD_eq_getD_getElem?, Array.getElem?_replicate]; split <;> simp)
          case ext => exact ⟨SY.grow HST.out (Below.refl _ _).drew, (Below.refl _ _).drew⟩
          case hop =>
            intro i o' t w' hil ho hx hdep K hK
            obtain ⟨hx, hxb⟩ := hx
            obtain ⟨a0, a1, a2, a3⟩ := row4 hx.aft
            obtain ⟨y0, y1, y2, y3⟩ := row4 hx.box.b0
            have hbw := hx.box.below
            have q1' : w'.cell? ⟨b5, o5 + k * 2, none⟩ = some (.int .i64 s) := by rw [hbw.cell (p := ⟨b5, o5 + k * 2, none⟩) hb5]; exact HQ.out.1
            have q2' : w'.cell? ⟨b5, o5 + k * 2 + 1, none⟩ = some (.slice (some ⟨b6, o6, none⟩) 64 c6) := by rw [hbw.cell (p := ⟨b5, o5 + k * 2 + 1, none⟩) hb5]; exact HQ.out.2
            have REF : Hid _ := And.intro hx hxb
            obtain rfl | rfl | rfl | rfl | rfl | rfl | rfl | rfl | rfl | rfl | rfl | rfl | rfl | rfl | rfl | rfl : i = 0 ∨ i = 1 ∨ i = 2 ∨ i = 3 ∨ i = 4 ∨ i = 5 ∨ i = 6 ∨ i = 7 ∨ i = 8 ∨ i = 9 ∨ i = 10 ∨ i = 11 ∨ i = 12 ∨ i = 13 ∨ i = 14 ∨ i = 15 := by omega
            all_goals (simp at ho; subst ho)
            · clear hdep
              go_simp
              exact hK w' (.pointer (some ⟨A, 0, none⟩)) rfl REF.out (Below.refl _ _)
            · have d0 : t 0 = _ := hdep ⟨0, .data⟩ (by simp) rfl
              clear hdep
              go_simp
              simpa [upd, d0] using hK w' (.slice (some ⟨g, o, none⟩) L gc) rfl REF.out (Below.refl _ _)
            · clear hdep
              go_simp
              exact hK w' (.pointer (some ⟨w.heap.size, 1, none⟩)) rfl REF.out (Below.refl _ _)
            · have d2 : t 2 = _ := hdep ⟨2, .data⟩ (by simp) rfl
              clear hdep
              go_simp
              simpa [upd, d2] using hK w' (.slice (some ⟨b5, o5, none⟩) m cx) rfl REF.out (Below.refl _ _)
            · clear hdep
              go_simp
              exact hK w' (.int .i64 k) rfl REF.out (Below.refl _ _)
            · have d3 : t 3 = _ := hdep ⟨3, .data⟩ (by simp) rfl
              have d4 : t 4 = _ := hdep ⟨4, .data⟩ (by simp) rfl
              clear hdep
              go_simp
              simpa [upd, d3, d4] using hK w' (.pointer (some ⟨b5, o5 + k * 2, none⟩)) rfl REF.out (Below.refl _ _)
            · have d5 : t 5 = _ := hdep ⟨5, .data⟩ (by simp) rfl
              clear hdep
              go_simp
              simpa [upd, d5] using hK w' (.pointer (some ⟨b5, o5 + k * 2, none⟩)) rfl REF.out (Below.refl _ _)
            · have d6 : t 6 = _ := hdep ⟨6, .data⟩ (by simp) rfl
              clear hdep
              go_simp
              simpa [upd, d6] using hK w' (.int .i64 s) rfl REF.out (Below.refl _ _)
            · clear hdep
              go_simp
              exact hK w' (.pointer (some ⟨w.heap.size, 1, none⟩)) rfl REF.out (Below.refl _ _)
            · have d8 : t 8 = _ := hdep ⟨8, .data⟩ (by simp) rfl
              clear hdep
              go_simp
              simpa [upd, d8] using hK w' (.slice (some ⟨b5, o5, none⟩) m cx) rfl REF.out (Below.refl _ _)
            · clear hdep
              go_simp
              exact hK w' (.int .i64 k) rfl REF.out (Below.refl _ _)
            · have d9 : t 9 = _ := hdep ⟨9, .data⟩ (by simp) rfl
              have d10 : t 10 = _ := hdep ⟨10, .data⟩ (by simp) rfl
              clear hdep
              go_simp
              simpa [upd, d9, d10] using hK w' (.pointer (some ⟨b5, o5 + k * 2, none⟩)) rfl REF.out (Below.refl _ _)
            · have d11 : t 11 = _ := hdep ⟨11, .data⟩ (by simp) rfl
              clear hdep
              go_simp
              simpa [upd, d11] using hK w' (.pointer (some ⟨b5, o5 + k * 2 + 1, none⟩)) rfl REF.out (Below.refl _ _)
            · have d12 : t 12 = _ := hdep ⟨12, .data⟩ (by simp) rfl
              clear hdep
              go_simp
              simpa [upd, d12] using hK w' (.slice (some ⟨b6, o6, none⟩) 64 c6) rfl REF.out (Below.refl _ _)
            · have d1 : t 1 = _ := hdep ⟨1, .data⟩ (by simp) rfl
              have d7 : t 7 = _ := hdep ⟨7, .data⟩ (by simp) rfl
              have d13 : t 13 = _ := hdep ⟨13, .data⟩ (by simp) rfl
              clear hdep
              have e := overS_any g o L gc s b6 o6 64 c6 (syL zs ps k) (ps.getD k (0, [])).2 w' HLK.out HHD.out hz hgc hsl (At.below HGA.out hxb) (At.below HQ4.out hbw)
              go_simp
              refine e.mono ?_
              rintro e w9 ⟨v9, rfl, ho9, hb9⟩
              rw [← HNEW.out] at ho9
              have ho9' := ho9.mono hxb.size
              have hK' := hK w9 v9 ho9' ⟨hx.grow hb9, hxb.trans (hb9.mono hxb.size)⟩ hb9
              clear hK ho9 ho9'
              go_simp
              simpa [upd, d1, d7, d13] using hK'
            · clear hdep
              go_simp
              exact hK w' (.pointer (some ⟨A, 0, none⟩)) rfl REF.out (Below.refl _ _)
          case hend =>
            intro o' t w' ho hx hg K hK
            simp at ho; subst ho
            obtain ⟨hx, hxb⟩ := hx
            have O14 : Own w' wr.heap.size (t 14) (syL zs ps (k + 1)) := hg 14 (by decide)
            have h15 : t 15 = _ := hg 15 (by decide)
            clear hg
            obtain ⟨ng, nc, e14, _⟩ := O14.base
            have hln1 := HLN.out (k + 1) (by omega)
            rw [hln1] at e14
            rw [e14] at O14
            obtain ⟨a0, a1, a2, a3⟩ := row4 hx.aft
            have f0 := frozen_of_row w' A 0 _ _ hx.aft
            have hA9 := row_setCell (i := 0) (.slice (some ⟨ng, 0, none⟩) L nc) hx.aft rfl
            have hoth : ∀ j, j ≠ A → (w'.setCell ⟨A, 0, none⟩ (.slice (some ⟨ng, 0, none⟩) L nc)).heap[j]? = w'.heap[j]? := fun j hj => heap_setCell_other w' ⟨A, 0, none⟩ j _ (by simpa using hj)
            have hsz : (w'.setCell ⟨A, 0, none⟩ (.slice (some ⟨ng, 0, none⟩) L nc)).heap.size = w'.heap.size := by simp [World.setCell]
            have hAw : A < wr.heap.size := (Array.getElem?_eq_some_iff.1 (SY.aft HST.out)).1
            have hsA := hx.hA
            have dk0 : DK w' wr.heap.size A (.slice (some ⟨ng, 0, none⟩) L nc) (syL zs ps (k + 1)) := DK.of_own O14 hAw
            have dk1 := dk0.keep (w' := w'.setCell ⟨A, 0, none⟩ (.slice (some ⟨ng, 0, none⟩) L nc)) (fun j _ hj => hoth j hj) (by rw [hsz]; exact Nat.le_refl _)
            have dk2 : DK (w'.setCell ⟨A, 0, none⟩ (.slice (some ⟨ng, 0, none⟩) L nc)) (w.heap.size + 2) A (.slice (some ⟨ng, 0, none⟩) L nc) (syL zs ps (k + 1)) := by
              obtain ⟨g', o', c', p1, p2, p3, p4, p5, p6, p7⟩ := dk1
              exact ⟨g', o', c', p1, p2, p3, p4, by omega, p6, p7⟩
            have st' : SY w (w'.setCell ⟨A, 0, none⟩ (.slice (some ⟨ng, 0, none⟩) L nc)) #[.slice a L cap, .slice (some ⟨b5, o5, none⟩) m cx, .int .i64 f, .bool false] A (.slice (some ⟨ng, 0, none⟩) L nc) (.slice ca m cc) F (syL zs ps (k + 1)) :=
              ⟨⟨hx.box.below.setCell (p := ⟨A, 0, none⟩) (by show w.heap.size ≤ A; omega) _, by rw [hoth _ (by omega)]; exact hx.box.b0, by rw [hoth _ (by omega)]; exact hx.box.b1⟩, hA9, dk2, hsA⟩
            have HS' : Hid (SY w (w'.setCell ⟨A, 0, none⟩ (.slice (some ⟨ng, 0, none⟩) L nc)) #[.slice a L cap, .slice (some ⟨b5, o5, none⟩) m cx, .int .i64 f, .bool false] A (.slice (some ⟨ng, 0, none⟩) L nc) (.slice ca m cc) F (syL zs ps (k + 1))) := st'
            clear st' dk0 dk1 dk2 hA9 hoth hsz O14 hx hxb
            go_simp
            apply hK
            clear e14 h15
            go_wp2
            go_roundw
            case rel => exact ⟨k + 1, .slice (some ⟨ng, 0, none⟩) L nc, by omega, by go_num, HS'.out⟩
            case measure => simp [intOf]; omega
        · have hkm : k = m := by omega
          subst hkm
          have hlt' : ¬ (k : Int) < k := by omega
          have hA := st.hA
          have hAw : A < wr.heap.size := (Array.getElem?_eq_some_iff.1 st.aft).1
          obtain ⟨a0, a1, a2, a3⟩ := row4 st.aft
          have f1 := frozen_of_row _ A 1 _ _ st.aft
          have hW : ∃ W7, W7 = (wr.setCell ⟨A, 1, none⟩ (.slice (some ⟨wr.heap.size, 0, none⟩) 0 0)).alloc (.cells #[] 44) := ⟨_, rfl⟩
          obtain ⟨W7, hW7⟩ := hW
          have hs6 : (wr.setCell ⟨A, 1, none⟩ (.slice (some ⟨wr.heap.size, 0, none⟩) 0 0)).heap.size = wr.heap.size := by simp [World.setCell]
          have hb6 := (Below.refl _ (wr.setCell ⟨A, 1, none⟩ (.slice (some ⟨wr.heap.size, 0, none⟩) 0 0))).alloc (Nat.le_refl _) (.cells #[] 44)
          rw [← hW7] at hb6
          have hoth : ∀ j, j < wr.heap.size → j ≠ A → W7.heap[j]? = wr.heap[j]? := fun j hj hjA => (hb6.block j (by omega)).trans (heap_setCell_other _ ⟨A, 1, none⟩ j _ (by simpa using hjA))
          have hsz : wr.heap.size ≤ W7.heap.size := by have := hb6.size; omega
          have k1 : W7.heap[w.heap.size + 1]? = some (.cells #[.slice none 0 0, .slice none 0 0, .int .i64 0, .bool false] 29 (0, 0)) := by rw [hoth _ (by omega) (by omega)]; exact st.box.b1
          have K1 : Hid (((wr.setCell ⟨A, 1, none⟩ (.slice (some ⟨wr.heap.size, 0, none⟩) 0 0)).alloc (.cells #[] 44)).heap[w.heap.size + 1]? = some (.cells #[.slice none 0 0, .slice none 0 0, .int .i64 0, .bool false] 29 (0, 0))) := by unfold Hid; rw [← hW7]; exact k1
          have dk5 : DK (W7.setRow (w.heap.size + 1) #[.slice (some ⟨g, o, none⟩) L gc, .slice (some ⟨wr.heap.size, 0, none⟩) 0 0, .int .i64 F, .bool false]) (w.heap.size + 2) A (.slice (some ⟨g, o, none⟩) L gc) (syL zs ps k) := by
            obtain ⟨g', o', c', p1, p2, p3, p4, p5, p6, p7⟩ := st.dk
            have hg' : (W7.setRow (w.heap.size + 1) #[.slice (some ⟨g, o, none⟩) L gc, .slice (some ⟨wr.heap.size, 0, none⟩) 0 0, .int .i64 F, .bool false]).heap[g']? = wr.heap[g']? := ((Wr.setRow (w.heap.size + 1) _ _).block g' (by omega)).trans (hoth g' p6 p7)
            exact ⟨g', o', c', p1, p2, p3.keep (fun ad e => by cases e; exact hg') (by rw [size_setRow]; exact hsz), p4.keep (fun ad e => by cases e; exact hg') (by rw [size_setRow]; exact hsz), p5, by rw [size_setRow]; omega, p7⟩
          have hb7 : Below w.heap.size w (W7.setRow (w.heap.size + 1) #[.slice (some ⟨g, o, none⟩) L gc, .slice (some ⟨wr.heap.size, 0, none⟩) 0 0, .int .i64 F, .bool false]) := ((st.box.below.setCell (p := ⟨A, 1, none⟩) (by show w.heap.size ≤ A; omega) (.slice (some ⟨wr.heap.size, 0, none⟩) 0 0)).trans (hb6.mono (by have := st.box.below.size; omega))).trans ((Wr.setRow _ _ _).below (by omega))
          have hfin := And.intro (HEND.out _ _ (DMine.mono (dk5.mine (.slice (some ⟨wr.heap.size, 0, none⟩) 0 0) ⟨_, _, rfl⟩ F false) (B' := w.heap.size) (by omega))) hb7
          rw [hW7] at hfin
          have HFIN : Hid _ := hfin
          clear hfin hW7
          clear st hb6 hs6 hoth hsz k1 dk5 hb7 hgA hgO
          go_wp2_with (refine wpList_store_row rfl 29 (.tmp 2) (.tmp 44) rfl (w.heap.size + 1) #[.slice (some ⟨g, o, none⟩) L gc, .slice (some ⟨wr.heap.size, 0, none⟩) 0 0, .int .i64 F, .bool false] rfl rfl 29 _ K1.out HSD.out rfl (all4e _ _ _ _ _ _ _ _) ?_)
          (try simp only [Exit.inBlock, Exit.then])
          exact bodyPost_ret (v := .agg #[.slice (some ⟨g, o, none⟩) L gc, .slice (some ⟨wr.heap.size, 0, none⟩) 0 0, .int .i64 F, .bool false]) (results_cell_row rfl _ _ (w.heap.size + 1) 29 _ (0, 0) _ rfl (setRow_heap _ _ _ _ _ _ K1.out) Try.underlying29 rfl HSD.out) rfl ⟨_, rfl, HFIN.out.1, HFIN.out.2⟩
  · have hoff : validB L ps f = false ∨ d = true := by
      cases hv : validB L ps f with
      | false => exact .inl rfl
      | true =>
        right
        cases hd : d with
        | true => rfl
        | false => exact absurd ⟨hv, hd⟩ hon
    obtain ⟨e1, e2, e3, e4⟩ := HOFF.out hoff
    have HEND : Hid (∀ (w' : World) (r : Value), DMine w.heap.size w'.heap.size w' r zs ps f d → DMine w.heap.size w'.heap.size w' r (syZ zs ps f d) (syP L ps f d) (syF L ps f d) (syD L ps f d)) := fun w' r hd => HEQ.out _ _ _ _ e1 e2 e3 e4 w' r hd
    clear hon e1 e2 e3 e4 HOFF HNOF HON HEQ HST HVO HLEN
    have FIN : Hid (∀ (w3 : World) (da : Option Addr) (dc : Nat) (ca : Option Addr) (cc : Nat), DMine w2.heap.size w3.heap.size w3 (.agg #[.slice da L dc, .slice ca m cc, .int .i64 f, .bool d]) zs ps f d → Below w2.heap.size w2 w3 →
        w3.heap[w.heap.size + 1]? = some (.cells #[.slice none 0 0, .slice none 0 0, .int .i64 0, .bool false] 29 (0, 0)) ∧ DMine w.heap.size (w3.setRow (w.heap.size + 1) #[.slice da L dc, .slice ca m cc, .int .i64 f, .bool d]).heap.size (w3.setRow (w.heap.size + 1) #[.slice da L dc, .slice ca m cc, .int .i64 f, .bool d]) (.agg #[.slice da L dc, .slice ca m cc, .int .i64 f, .bool d]) (syZ zs ps f d) (syP L ps f d) (syF L ps f d) (syD L ps f d) ∧ Below w.heap.size w (w3.setRow (w.heap.size + 1) #[.slice da L dc, .slice ca m cc, .int .i64 f, .bool d])) := by
      intro w3 da dc ca cc D3 hb3
      have st3 := B2.grow HS2.out hb3
      refine ⟨st3.b1, HEND.out _ _ ?_, st3.below.trans ((Wr.setRow _ _ _).below (by omega))⟩
      rw [size_setRow]
      exact (D3.keep (fun j hj _ => (Wr.setRow _ _ _).block j (by omega)) (by rw [size_setRow]; exact Nat.le_refl _)).mono (by omega)
    rcases hoff with hv | rfl
    · rw [hv]
      go_wp2_with fail
      refine (HCP.out w2 (B2.below HS2.out)).mono ?_
      rintro e w3 ⟨r, rfl, D3, hb3⟩
      have D3' := D3
      obtain ⟨da, dc, ca, cc, B1, rfl, _⟩ := D3'
      rw [HHL.out.1, HHL.out.2] at D3 ⊢
      obtain ⟨k1, k2, k3⟩ := FIN.out w3 da dc ca cc D3 hb3
      have K1 : Hid _ := k1
      have K2 : Hid _ := And.intro k2 k3
      clear k1 k2 k3 D3 hb3 c0 c1 c2 c3
      go_wp2_with (refine wpList_store_row rfl 29 (.tmp 2) (.tmp 13) rfl (w.heap.size + 1) #[.slice da L dc, .slice ca m cc, .int .i64 f, .bool d] rfl rfl 29 _ K1.out HSD.out rfl (all4e _ _ _ _ _ _ _ _) ?_)
      (try simp only [Exit.inBlock, Exit.then])
      exact bodyPost_ret (v := .agg #[.slice da L dc, .slice ca m cc, .int .i64 f, .bool d]) (results_cell_row rfl _ _ (w.heap.size + 1) 29 _ (0, 0) _ rfl (setRow_heap _ _ _ _ _ _ K1.out) Try.underlying29 rfl HSD.out) rfl ⟨_, rfl, K2.out.1, K2.out.2⟩
    · cases hv : validB L ps f with
      | false =>
        go_wp2_with fail
        refine (HCP.out w2 (B2.below HS2.out)).mono ?_
        rintro e w3 ⟨r, rfl, D3, hb3⟩
        have D3' := D3
        obtain ⟨da, dc, ca, cc, B1, rfl, _⟩ := D3'
        rw [HHL.out.1, HHL.out.2] at D3 ⊢
        obtain ⟨k1, k2, k3⟩ := FIN.out w3 da dc ca cc D3 hb3
        have K1 : Hid _ := k1
        have K2 : Hid _ := And.intro k2 k3
        clear k1 k2 k3 D3 hb3 c0 c1 c2 c3
        go_wp2_with (refine wpList_store_row rfl 29 (.tmp 2) (.tmp 13) rfl (w.heap.size + 1) #[.slice da L dc, .slice ca m cc, .int .i64 f, .bool true] rfl rfl 29 _ K1.out HSD.out rfl (all4e _ _ _ _ _ _ _ _) ?_)
        (try simp only [Exit.inBlock, Exit.then])
        exact bodyPost_ret (v := .agg #[.slice da L dc, .slice ca m cc, .int .i64 f, .bool true]) (results_cell_row rfl _ _ (w.heap.size + 1) 29 _ (0, 0) _ rfl (setRow_heap _ _ _ _ _ _ K1.out) Try.underlying29 rfl HSD.out) rfl ⟨_, rfl, K2.out.1, K2.out.2⟩
      | true =>
        go_wp2_with fail
        refine (HCP.out w2 (B2.below HS2.out)).mono ?_
        rintro e w3 ⟨r, rfl, D3, hb3⟩
        have D3' := D3
        obtain ⟨da, dc, ca, cc, B1, rfl, _⟩ := D3'
        rw [HHL.out.1, HHL.out.2] at D3 ⊢
        obtain ⟨k1, k2, k3⟩ := FIN.out w3 da dc ca cc D3 hb3
        have K1 : Hid _ := k1
        have K2 : Hid _ := And.intro k2 k3
        clear k1 k2 k3 D3 hb3 c0 c1 c2 c3
        go_wp2_with (refine wpList_store_row rfl 29 (.tmp 2) (.tmp 13) rfl (w.heap.size + 1) #[.slice da L dc, .slice ca m cc, .int .i64 f, .bool true] rfl rfl 29 _ K1.out HSD.out rfl (all4e _ _ _ _ _ _ _ _) ?_)
        (try simp only [Exit.inBlock, Exit.then])
        exact bodyPost_ret (v := .agg #[.slice da L dc, .slice ca m cc, .int .i64 f, .bool true]) (results_cell_row rfl _ _ (w.heap.size + 1) 29 _ (0, 0) _ rfl (setRow_heap _ _ _ _ _ _ K1.out) Try.underlying29 rfl HSD.out) rfl ⟨_, rfl, K2.out.1, K2.out.2⟩
end Go.Proofs.Ytiignammhieidaa
