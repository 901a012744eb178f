/-
  Own work: the snap of a slot, and DecodeSnap, by the program (written by wip/mkdkj.py).
-/
import Derived.Test.YtmnoelfabldpfaaDkI
import Derived.Test.YtmnoelfabldpfaaMArrEq
import Derived.Test.YtmnoelfabldpfaaMSzSt
import Derived.Deep.Cut
namespace Go.Proofs.Ytmnoelfabldpfaa
open Go.ChangeShapes Go.WideShapes Go.ChangeAt Go.RowKit
set_option linter.unusedVariables false

theorem Iow.freshH {w w' : World} {v : Value} {xs : List Int} (h : Iow w.heap.size w' v xs) : FreshH w w' v := by
  intro k hk
  rcases h.2 with ⟨h', _⟩ | ⟨g, c, cur, h', hb, hh, _⟩
  · rw [h'] at hk
    rcases hk with ⟨a, ha, _⟩ | ⟨cs, hc, _⟩
    · cases ha
    · cases hc
  · rw [h'] at hk
    rcases hk with ⟨a, ha, rfl⟩ | ⟨cs, hc, _⟩
    · cases ha; exact ⟨hb, (Array.getElem?_eq_some_iff.1 hh).1⟩
    · cases hc
/-- A snap as a value, its lists of the call's own. -/
def SNV (lo : Nat) (gn tl : Int) (D U : List Int) (w : World) (v : Value) : Prop := ∃ aD nD cD aU nU cU, v = .agg #[.int .u32 gn, .int .u32 tl, .slice aD nD cD, .slice aU nU cU] ∧ Iow lo w (.slice aD nD cD) D ∧ Iow lo w (.slice aU nU cU) U ∧ Aprt aD aU
theorem SNV.below {lo : Nat} {gn tl : Int} {D U : List Int} {w w' : World} {v : Value} (h : SNV lo gn tl D U w v) (b : Below w.heap.size w w') : SNV lo gn tl D U w' v := by
  obtain ⟨aD, nD, cD, aU, nU, cU, e, h1, h2, h3⟩ := h; exact ⟨aD, nD, cD, aU, nU, cU, e, h1.below b, h2.below b, h3⟩
/-- A new box for a snap. -/
def NwS (lo : Nat) (w : World) (v : Value) : Prop := ∃ q, v = .pointer (some ⟨q, 0, none⟩) ∧ lo ≤ q ∧ w.heap[q]? = some (.cells #[.int .u32 0, .int .u32 0, .slice none 0 0, .slice none 0 0] 26 (0, 0))
theorem NwS.below {lo : Nat} {w w' : World} {v : Value} (h : NwS lo w v) (b : Below w.heap.size w w') : NwS lo w' v := by
  obtain ⟨q, e, h1, h2⟩ := h; exact ⟨q, e, h1, by rw [b.block q (Array.getElem?_eq_some_iff.1 h2).1]; exact h2⟩
/-- The answer's box stands. -/
structure BXS (w wr : World) : Prop where
  below : Below w.heap.size w wr
  box : wr.heap[w.heap.size]? = some (.cells #[.bool false, .int .u32 0, .int .u32 0, .slice none 0 0, .slice none 0 0] 28 (0, 0))
theorem BXS.lt {w wr : World} (h : BXS w wr) : w.heap.size < wr.heap.size := (Array.getElem?_eq_some_iff.1 h.box).1
theorem BXS.call {w wr w' : World} (h : BXS w wr) (b : Below wr.heap.size wr w') : BXS w w' := ⟨h.below.trans (b.mono (Nat.le_of_lt h.lt)), by rw [b.block _ h.lt]; exact h.box⟩
theorem BXS.start (w : World) : BXS w (w.alloc (.cells #[.bool false, .int .u32 0, .int .u32 0, .slice none 0 0, .slice none 0 0] 28)) := ⟨below_new w _, heap_alloc_new w _⟩
theorem row_below {w w' : World} {g lo : Nat} {t : TypeId} {zs : List Int} (h : Row w g t zs) (b : Below lo w w') (hl : g < lo) : Row w' g t zs := by unfold Row; rw [b.block g hl]; exact h
/-- The box that a region leaves with a snap in it. -/
def FinN (p : Nat) (W : World) (gn tl : Int) (D U : List Int) (u : Nat → Value) (w : World) : Prop :=
  ∃ G aD nD cD aU nU cU, u p = .pointer (some ⟨G, 0, none⟩) ∧ W.heap.size ≤ G ∧ w.heap[G]? = some (.cells #[.int .u32 gn, .int .u32 tl, .slice aD nD cD, .slice aU nU cU] 26 (0, 0)) ∧ Iow W.heap.size w (.slice aD nD cD) D ∧ Iow W.heap.size w (.slice aU nU cU) U ∧ Aprt aD aU ∧ Below W.heap.size W w
theorem all4s (gn tl : Int) (aD aU : Option Addr) (nD cD nU cU : Nat) : (#[.int .u32 gn, .int .u32 tl, .slice aD nD cD, .slice aU nU cU] : Array Value).all (fun x => x.oneCell') = true := by simp [Value.oneCell']
theorem all5s (b : Bool) (gn tl : Int) (aD aU : Option Addr) (nD cD nU cU : Nat) : (#[.bool b, .int .u32 gn, .int .u32 tl, .slice aD nD cD, .slice aU nU cU] : Array Value).all (fun x => x.oneCell') = true := by simp [Value.oneCell']
set_option maxRecDepth 100000 in
set_option maxHeartbeats 8000000 in
theorem snap_yes (g : Nat) (zs : List Int) (w : World) (hr : Row w g 45 zs) (hl : zs.length = 128) (hz : Byte zs) (h16 : zs.getD 6 0 ≤ 16) :
    Calls Try.prog 21 #[.pointer (some ⟨g, 0, none⟩)] w fun e w' => ∃ v, e = .returned v ∧ DVA w.heap.size w' v (dkF zs) ∧ Below w.heap.size w w' := by
  have HB1 : Hid (BXS w (w.alloc (.cells #[.bool false, .int .u32 0, .int .u32 0, .slice none 0 0, .slice none 0 0] 28))) := BXS.start w
  have HR : Hid (Row w g 45 zs ∧ Byte zs) := ⟨hr, hz⟩
  have HLZ : Hid (zs.length = 128) := hl
  have HN16 : Hid (zs.getD 6 0 ≤ 16) := h16
  have c6 : (w.alloc (.cells #[.bool false, .int .u32 0, .int .u32 0, .slice none 0 0, .slice none 0 0] 28)).cell? ⟨g, 6, none⟩ = some (.int .u8 (zs.getD 6 0)) := by rw [(below_new w _).cell (p := ⟨g, 6, none⟩) hr.lt]; exact hr.cell 6 (by omega)
  have hc6 : ¬ (zs.getD 6 0 > 16) := by omega
  have HSN : Hid ((Try.prog.info? 26).map (·.size) = some 4) := by show _ = _; kernel_rfl
  have HSR : Hid ((Try.prog.info? 28).map (·.size) = some 5) := by show _ = _; kernel_rfl
  have C0 := fun ww (b : Below w.heap.size w ww) => numS_any g 45 0 zs ww (row_below hr b hr.lt) hz hl (by decide) (by decide)
  have C8 := fun ww (b : Below w.heap.size w ww) => numS_any g 45 8 zs ww (row_below hr b hr.lt) hz hl (by decide) (by decide)
  have CD := fun ww (b : Below w.heap.size w ww) => denied_any g zs ww (row_below hr b hr.lt) hl hz h16
  have CU := fun ww (b : Below w.heap.size w ww) => used_any g zs ww (row_below hr b hr.lt) hl hz
  have HUU : Hid (U32 (num4 zs 0) ∧ U32 (num4 zs 8)) := ⟨num4_u32 zs hz 0, num4_u32 zs hz 8⟩
  have HBD : Hid ((dkD zs (dkN zs)).length ≤ 256 ∧ (dkU zs).length ≤ 256) := ⟨by rw [dkD_len]; unfold dkN; omega, upTo_len _ _⟩
  rw [show (0 : Int).toNat = 0 from rfl] at C0
  rw [show (8 : Int).toNat = 8 from rfl] at C8
  obtain ⟨gn, hgn⟩ : ∃ gn, num4 zs 0 = gn := ⟨_, rfl⟩
  obtain ⟨tl, htl⟩ : ∃ tl, num4 zs 8 = tl := ⟨_, rfl⟩
  obtain ⟨D, hD⟩ : ∃ D, dkD zs (dkN zs) = D := ⟨_, rfl⟩
  obtain ⟨U, hU⟩ : ∃ U, dkU zs = U := ⟨_, rfl⟩
  rw [hgn] at C0 HUU
  rw [htl] at C8 HUU
  rw [hD] at CD HBD
  rw [hU] at CU HBD
  have HGT : Hid (num4 zs 0 = gn ∧ num4 zs 8 = tl ∧ dkD zs (dkN zs) = D ∧ dkU zs = U) := ⟨hgn, htl, hD, hU⟩
  have HC0 := hid_of C0
  have HC8 := hid_of C8
  have HCD := hid_of CD
  have HCU := hid_of CU
  clear hr hl hz h16 hgn htl hD hU C0 C8 CD CU
  generalize zs.getD 6 0 = z6 at c6 hc6
  go_enter Try.func21, Try.ntmps21
  go_wp2_with fail
  clear c6 hc6
  generalize (w.alloc (.cells #[.bool false, .int .u32 0, .int .u32 0, .slice none 0 0, .slice none 0 0] 28)) = w1 at *
  refine wp_region_any (by kernel_rfl) ?_
  refine wpAny_slotsF 14 (fun _ a b => Below a.heap.size a b) (frame := (fun (c0 c1 c2 c4 c5 c6 c7 c8 c9 c10 c24 c25 c26 c27 c28 c29 c30 c31 c32 c33 c34 c35 : Value) => fun (t : Nat → Value) => ({ tmps := List.toArray (c0 :: c1 :: c2 :: t 13 :: c4 :: c5 :: c6 :: c7 :: c8 :: c9 :: c10 :: t 0 :: t 1 :: t 2 :: t 3 :: t 4 :: t 5 :: t 6 :: t 7 :: t 8 :: t 9 :: t 10 :: t 11 :: t 12 :: c24 :: c25 :: c26 :: c27 :: c28 :: c29 :: c30 :: c31 :: c32 :: c33 :: c34 :: c35 :: []), defers := [] } : Act)) _ _ _ _ _ _ _ _ _ _ _ _ _ _ _ _ _ _ _ _ _ _)
    (Ext := fun L u w' => ApH w1 [9, 11] L u w') (Good := fun i L w' v => if i = 0 then v = .pointer (some ⟨g, 0, none⟩) else if i = 1 then v = .pointer (some ⟨g, 0, none⟩) else if i = 2 then v = .pointer (some ⟨g, 0, none⟩) else if i = 3 then v = .int .u32 gn else if i = 4 then v = .pointer (some ⟨g, 0, none⟩) else if i = 5 then v = .pointer (some ⟨g, 0, none⟩) else if i = 6 then v = .pointer (some ⟨g, 0, none⟩) else if i = 7 then v = .int .u32 tl else if i = 8 then v = .pointer (some ⟨g, 0, none⟩) else if i = 9 then Iow w1.heap.size w' v D else if i = 10 then v = .pointer (some ⟨g, 0, none⟩) else if i = 11 then Iow w1.heap.size w' v U else if i = 12 then SNV w1.heap.size gn tl D U w' v else if i = 13 then NwS w1.heap.size w' v else True) (Fin := FinN 13 w1 gn tl D U) rfl (by kernel_rfl) ?hstab (by kernel_rfl) ?hop ?hend ?hdone _ _ ((fun (x0 x1 x2 x3 x4 x5 x6 x7 x8 x9 x10 x11 x12 x13 : Value) => fun (i : Nat) => if i = 0 then x0 else if i = 1 then x1 else if i = 2 then x2 else if i = 3 then x3 else if i = 4 then x4 else if i = 5 then x5 else if i = 6 then x6 else if i = 7 then x7 else if i = 8 then x8 else if i = 9 then x9 else if i = 10 then x10 else if i = 11 then x11 else if i = 12 then x12 else if i = 13 then x13 else undef) _ _ _ _ _ _ _ _ _ _ _ _ _ _) _ (by simp) ?none ?ext (by simp)
  case none => intro i; rw [Array.getD_eq_getD_getElem?, Array.getElem?_replicate]; split <;> rfl
  case ext => exact ApH.start w1 [9, 11] _ _ (fun i => by rw [Array.getD_eq_getD_getElem?, Array.getElem?_replicate]; split <;> rfl) ⟨rfl, rfl, rfl, Nat.le_refl _, fun _ _ => rfl⟩
  case hstab =>
    intro j L w9 w' i v _ hM _ _ h
    by_cases h9 : j = 9
    · subst h9
      simp at h ⊢
      exact h.below hM
    by_cases h11 : j = 11
    · subst h11
      simp at h ⊢
      exact h.below hM
    by_cases h12 : j = 12
    · subst h12
      simp at h ⊢
      exact h.below hM
    by_cases h13 : j = 13
    · subst h13
      simp at h ⊢
      exact h.below hM
    simp only [if_neg h9, if_neg h11, if_neg h12, if_neg h13] at h ⊢
    exact h
  case hop =>
    intro i o L t w' hi ho hLi hx hdep K hK
    obtain rfl | rfl | rfl | rfl | rfl | rfl | rfl | rfl | rfl | rfl | rfl | rfl | rfl | rfl : i = 0 ∨ i = 1 ∨ i = 2 ∨ i = 3 ∨ i = 4 ∨ i = 5 ∨ i = 6 ∨ i = 7 ∨ i = 8 ∨ i = 9 ∨ i = 10 ∨ i = 11 ∨ i = 12 ∨ i = 13 := by omega
    all_goals (simp at ho; subst ho)
    · clear hdep
      have hK' := hK w' (.pointer (some ⟨g, 0, none⟩)) (by simp) (hx.step 0 _ (Below.refl _ _) (fun h => absurd h (by decide))) (Below.refl _ _)
      clear hK
      rw [if_pos (by rfl)]
      go_simp
      simpa [upd] using hK'
    · have d0 : t 0 = .pointer (some ⟨g, 0, none⟩) := by simpa using (hdep ⟨0, .data⟩ (by simp) rfl).2
      clear hdep
      have hK' := hK w' (.pointer (some ⟨g, 0, none⟩)) (by simp) (hx.step 1 _ (Below.refl _ _) (fun h => absurd h (by decide))) (Below.refl _ _)
      clear hK
      rw [if_pos (by rfl)]
      go_simp
      simpa [upd, d0] using hK'
    · have d1 : t 1 = .pointer (some ⟨g, 0, none⟩) := by simpa using (hdep ⟨1, .data⟩ (by simp) rfl).2
      clear hdep
      have hK' := hK w' (.pointer (some ⟨g, 0, none⟩)) (by simp) (hx.step 2 _ (Below.refl _ _) (fun h => absurd h (by decide))) (Below.refl _ _)
      clear hK
      rw [if_pos (by rfl)]
      go_simp
      simpa [upd, d1] using hK'
    · have d2 : t 2 = .pointer (some ⟨g, 0, none⟩) := by simpa using (hdep ⟨2, .data⟩ (by simp) rfl).2
      clear hdep
      have bw : Below w.heap.size w w' := HB1.out.below.trans (hx.below.mono HB1.out.below.size)
      have A := HC0.out w' bw
      have hK' : ∀ ww, Below w'.heap.size w' ww → K _ ww := fun ww hb => hK ww (.int .u32 gn) (by simp) (hx.step 3 _ hb (fun h => absurd h (by decide))) hb
      clear hK
      rw [if_pos (by rfl)]
      go_simp
      try simp only [d2]
      refine A.mono ?_
      rintro e w9 ⟨rfl, hb9⟩
      have hK2 := hK' w9 hb9
      clear hK' A hb9
      go_simp
      simpa [upd, d2] using hK2
    · clear hdep
      have hK' := hK w' (.pointer (some ⟨g, 0, none⟩)) (by simp) (hx.step 4 _ (Below.refl _ _) (fun h => absurd h (by decide))) (Below.refl _ _)
      clear hK
      rw [if_pos (by rfl)]
      go_simp
      simpa [upd] using hK'
    · have d4 : t 4 = .pointer (some ⟨g, 0, none⟩) := by simpa using (hdep ⟨4, .data⟩ (by simp) rfl).2
      clear hdep
      have hK' := hK w' (.pointer (some ⟨g, 0, none⟩)) (by simp) (hx.step 5 _ (Below.refl _ _) (fun h => absurd h (by decide))) (Below.refl _ _)
      clear hK
      rw [if_pos (by rfl)]
      go_simp
      simpa [upd, d4] using hK'
    · have d5 : t 5 = .pointer (some ⟨g, 0, none⟩) := by simpa using (hdep ⟨5, .data⟩ (by simp) rfl).2
      clear hdep
      have hK' := hK w' (.pointer (some ⟨g, 0, none⟩)) (by simp) (hx.step 6 _ (Below.refl _ _) (fun h => absurd h (by decide))) (Below.refl _ _)
      clear hK
      rw [if_pos (by rfl)]
      go_simp
      simpa [upd, d5] using hK'
    · have d6 : t 6 = .pointer (some ⟨g, 0, none⟩) := by simpa using (hdep ⟨6, .data⟩ (by simp) rfl).2
      clear hdep
      have bw : Below w.heap.size w w' := HB1.out.below.trans (hx.below.mono HB1.out.below.size)
      have A := HC8.out w' bw
      have hK' : ∀ ww, Below w'.heap.size w' ww → K _ ww := fun ww hb => hK ww (.int .u32 tl) (by simp) (hx.step 7 _ hb (fun h => absurd h (by decide))) hb
      clear hK
      rw [if_pos (by rfl)]
      go_simp
      try simp only [d6]
      refine A.mono ?_
      rintro e w9 ⟨rfl, hb9⟩
      have hK2 := hK' w9 hb9
      clear hK' A hb9
      go_simp
      simpa [upd, d6] using hK2
    · clear hdep
      have hK' := hK w' (.pointer (some ⟨g, 0, none⟩)) (by simp) (hx.step 8 _ (Below.refl _ _) (fun h => absurd h (by decide))) (Below.refl _ _)
      clear hK
      rw [if_pos (by rfl)]
      go_simp
      simpa [upd] using hK'
    · have d8 : t 8 = .pointer (some ⟨g, 0, none⟩) := by simpa using (hdep ⟨8, .data⟩ (by simp) rfl).2
      clear hdep
      have bw : Below w.heap.size w w' := HB1.out.below.trans (hx.below.mono HB1.out.below.size)
      have hszw : w1.heap.size ≤ w'.heap.size := hx.below.size
      have A := HCD.out w' bw
      have hK' : ∀ ww v, Iow w1.heap.size ww v D → FreshH w' ww v → Below w'.heap.size w' ww → K _ ww := fun ww v hv hf hb => hK ww v (by simpa using hv) (hx.step 9 v hb (fun _ => hf)) hb
      clear hK
      rw [if_pos (by rfl)]
      go_simp
      try simp only [d8]
      refine A.mono ?_
      rintro e w9 ⟨v9, rfl, hio, hb9⟩
      have hK2 := hK' w9 v9 (Iow.mono hio hszw) hio.freshH hb9
      clear hK' A hio hb9
      go_simp
      simpa [upd, d8] using hK2
    · clear hdep
      have hK' := hK w' (.pointer (some ⟨g, 0, none⟩)) (by simp) (hx.step 10 _ (Below.refl _ _) (fun h => absurd h (by decide))) (Below.refl _ _)
      clear hK
      rw [if_pos (by rfl)]
      go_simp
      simpa [upd] using hK'
    · have d10 : t 10 = .pointer (some ⟨g, 0, none⟩) := by simpa using (hdep ⟨10, .data⟩ (by simp) rfl).2
      clear hdep
      have bw : Below w.heap.size w w' := HB1.out.below.trans (hx.below.mono HB1.out.below.size)
      have hszw : w1.heap.size ≤ w'.heap.size := hx.below.size
      have A := HCU.out w' bw
      have hK' : ∀ ww v, Iow w1.heap.size ww v U → FreshH w' ww v → Below w'.heap.size w' ww → K _ ww := fun ww v hv hf hb => hK ww v (by simpa using hv) (hx.step 11 v hb (fun _ => hf)) hb
      clear hK
      rw [if_pos (by rfl)]
      go_simp
      try simp only [d10]
      refine A.mono ?_
      rintro e w9 ⟨v9, rfl, hio, hb9⟩
      have hK2 := hK' w9 v9 (Iow.mono hio hszw) hio.freshH hb9
      clear hK' A hio hb9
      go_simp
      simpa [upd, d10] using hK2
    · have d3 : t 3 = .int .u32 gn := by simpa using (hdep ⟨3, .data⟩ (by simp) rfl).2
      have d7 : t 7 = .int .u32 tl := by simpa using (hdep ⟨7, .data⟩ (by simp) rfl).2
      have l9 : L 9 = true := (hdep ⟨9, .data⟩ (by simp) rfl).1
      have f9 : Iow w1.heap.size w' (t 9) D := by simpa using (hdep ⟨9, .data⟩ (by simp) rfl).2
      have l11 : L 11 = true := (hdep ⟨11, .data⟩ (by simp) rfl).1
      have f11 : Iow w1.heap.size w' (t 11) U := by simpa using (hdep ⟨11, .data⟩ (by simp) rfl).2
      clear hdep
      obtain ⟨aD, nD, cD, eD⟩ := f9.form
      obtain ⟨aU, nU, cU, eU⟩ := f11.form
      have hap : Aprt aD aU := fun x y hx1 hy1 hb => by
        have := hx.ap 9 (by decide) 11 (by decide) (by decide) l9 l11
        rw [eD, eU] at this
        exact this x.block (.inl ⟨x, hx1, rfl⟩) (.inl ⟨y, hy1, hb.symm⟩)
      rw [eD] at f9
      rw [eU] at f11
      have hsv : SNV w1.heap.size gn tl D U w' (.agg #[.int .u32 gn, .int .u32 tl, .slice aD nD cD, .slice aU nU cU]) := ⟨aD, nD, cD, aU, nU, cU, rfl, f9, f11, hap⟩
      have hK' := hK w' (.agg #[.int .u32 gn, .int .u32 tl, .slice aD nD cD, .slice aU nU cU]) (by simpa using hsv) (hx.step 12 _ (Below.refl _ _) (fun h => absurd h (by decide))) (Below.refl _ _)
      clear hK f9 f11 hap hsv
      rw [if_pos (by rfl)]
      go_simp
      simpa [upd, d3, d7, eD, eU] using hK'
    · clear hdep
      have hsz : w1.heap.size ≤ w'.heap.size := hx.below.size
      have bb : Below w'.heap.size w' (w'.alloc (.cells #[.int .u32 0, .int .u32 0, .slice none 0 0, .slice none 0 0] 26)) := (Below.refl _ _).alloc (Nat.le_refl _) _
      have hnw : NwS w1.heap.size (w'.alloc (.cells #[.int .u32 0, .int .u32 0, .slice none 0 0, .slice none 0 0] 26)) (.pointer (some ⟨w'.heap.size, 0, none⟩)) := ⟨w'.heap.size, rfl, hsz, heap_alloc_new w' _⟩
      have hK' := hK (w'.alloc (.cells #[.int .u32 0, .int .u32 0, .slice none 0 0, .slice none 0 0] 26)) (.pointer (some ⟨w'.heap.size, 0, none⟩)) (by simpa using hnw) (hx.step 13 _ bb (fun h => absurd h (by decide))) bb
      clear hK bb hnw
      rw [if_pos (by rfl)]
      go_simp
      simpa [upd] using hK'
  case hend =>
    intro o L t w' ho hx hg K hK
    simp at ho; subst ho
    have f12 : SNV w1.heap.size gn tl D U w' (t 12) := by simpa using (hg 12 (by decide)).2
    have f13 : NwS w1.heap.size w' (t 13) := by simpa using (hg 13 (by decide)).2
    clear hg
    obtain ⟨aD, nD, cD, aU, nU, cU, e12, i1, i2, hap⟩ := f12
    obtain ⟨q, e13, hq, hbx⟩ := f13
    have hTT : (26 : TypeId) ≠ 2 := by decide
    have hK' : ∀ ww, Wr q w' ww → ww.heap[q]? = some (.cells #[.int .u32 gn, .int .u32 tl, .slice aD nD cD, .slice aU nU cU] 26 (0, 0)) → K _ ww := fun ww hw hr => hK ww undef ⟨q, aD, nD, cD, aU, nU, cU, by simp [upd]; exact e13, hq, hr, i1.keepN hbx hTT hw, i2.keepN hbx hTT hw, hap, hx.below.trans (hw.below hq)⟩
    clear hK i1 i2 hap hTT
    rw [if_pos (by rfl)]
    refine wp_store_row 26 (.tmp 3) (.tmp 23) rfl q #[.int .u32 gn, .int .u32 tl, .slice aD nD cD, .slice aU nU cU] e13 e12 26 _ hbx HSN.out rfl (all4s _ _ _ _ _ _ _ _) ?_
    have hK2 := hK' _ (Wr.setRow _ _ _) (setRow_heap _ _ _ _ _ _ hbx)
    clear hK'
    simpa [upd, Act.put] using hK2
  case hdone =>
    intro t w2 hf
    obtain ⟨Q, aD, nD, cD, aU, nU, cU, e13, hQ, hbx, i1, i2, hap, hbw⟩ := hf
    obtain ⟨s1, n1, l1⟩ := i1.sat
    obtain ⟨s2, n2, l2⟩ := i2.sat
    have HAT : Hid (At .i64 w2 aD D ∧ At .i64 w2 aU U ∧ D.length = nD ∧ U.length = nU) := ⟨s1.at_, s2.at_, n1, n2⟩
    have hnD : nD ≤ 1048576 := by have := HBD.out.1; omega
    have hnU : nU ≤ 1048576 := by have := HBD.out.2; omega
    have HB2 : Hid (BXS w w2) := HB1.out.call hbw
    have HR2 : Hid (Row w2 g 45 zs) := row_below HR.out.1 HB2.out.below HR.out.1.lt
    have HGL : Hid (g < w2.heap.size) := Row.lt HR2.out
    have HQ2 : Hid (w2.heap[Q]? = some (.cells #[.int .u32 gn, .int .u32 tl, .slice aD nD cD, .slice aU nU cU] 26 (0, 0))) := hbx
    have HIO : Hid (Iow w1.heap.size w2 (.slice aD nD cD) D ∧ Iow w1.heap.size w2 (.slice aU nU cU) U ∧ Aprt aD aU) := ⟨i1, i2, hap⟩
    have HCL : Hid (∀ w', Below w2.heap.size w2 w' → Q < w'.heap.size ∧ w'.cell? ⟨Q, 0, none⟩ = some (.int .u32 gn) ∧ w'.cell? ⟨Q, 1, none⟩ = some (.int .u32 tl) ∧ w'.cell? ⟨Q, 2, none⟩ = some (.slice aD nD cD) ∧ w'.cell? ⟨Q, 3, none⟩ = some (.slice aU nU cU)) := fun w' b => by
      have hb' : w'.heap[Q]? = some (.cells #[.int .u32 gn, .int .u32 tl, .slice aD nD cD, .slice aU nU cU] 26 (0, 0)) := by rw [b.block Q (Array.getElem?_eq_some_iff.1 hbx).1]; exact hbx
      exact ⟨(Array.getElem?_eq_some_iff.1 hb').1, cell_of_row _ _ _ _ _ _ hb', cell_of_row _ _ _ _ _ _ hb', cell_of_row _ _ _ _ _ _ hb', cell_of_row _ _ _ _ _ _ hb'⟩
    have HCV : Hid (∀ w', Below w2.heap.size w2 w' → Calls Try.prog 36 #[.pointer (some ⟨Q, 0, none⟩)] w' fun e w'' => e = .returned (.bool (snB gn tl D U)) ∧ Below w'.heap.size w' w'') := fun w' b => by
      obtain ⟨q0, q1, q2, q3, q4⟩ := HCL.out w' b
      exact snv_any Q gn tl aD aU nD cD nU cU D U w' q0 q1 q2 q3 q4 HAT.out.2.2.1 HAT.out.2.2.2 hnD hnU (HAT.out.1.below b) (HAT.out.2.1.below b)
    have HSS : Hid ((Try.prog.info? 45).map (·.size) = some (zs.map (Value.int .u8)).toArray.size) := by show _ = _; rw [List.size_toArray, List.length_map, HLZ.out]; kernel_rfl
    simp only [e13]
    clear e13 hbx i1 i2 hap hbw s1 s2 n1 n2 l1 l2 hQ
    go_wp2_with fail
    by_cases hs : SnP gn tl D U
    · have HCE : Hid (∀ w', Below w2.heap.size w2 w' → Calls Try.prog 37 #[.pointer (some ⟨Q, 0, none⟩)] w' fun e w'' => e = .returned (.agg ((snL gn tl D U).map (Value.int .u8)).toArray) ∧ Below w'.heap.size w' w'') := fun w' b => by
        obtain ⟨q0, q1, q2, q3, q4⟩ := HCL.out w' b
        exact encd_any Q gn tl aD aU nD cD nU cU D U w' q0 q1 q2 q3 q4 HAT.out.2.2.1 HAT.out.2.2.2 hnD hnU (HAT.out.1.below b) (HAT.out.2.1.below b) HUU.out.1 HUU.out.2 hs
      have HEE : Hid (dkE zs = snL gn tl D U) := by
        show _ = _
        unfold dkE
        rw [HGT.out.1, HGT.out.2.1, HGT.out.2.2.1, HGT.out.2.2.2]
        unfold snE; rw [snB_yes hs]; rfl
      have HLN : Hid ((snL gn tl D U).length = 128 ∧ zs.length = 128) := ⟨END_len, HLZ.out⟩
      rw [snB_yes hs] at HCV
      clear hs
      refine wp_region_any (by kernel_rfl) ?_
      refine wpAny_slotsU (fun _ a b => Below a.heap.size a b) (frame := (fun (c0 c1 c2 c3 c4 c5 c6 c7 c8 c9 c10 c11 c12 c13 c14 c15 c16 c17 c18 c19 c20 c21 c22 c23 c33 c34 c35 : Value) => fun (t : Nat → Value) => ({ tmps := List.toArray (c0 :: c1 :: c2 :: c3 :: c4 :: c5 :: c6 :: c7 :: c8 :: c9 :: c10 :: c11 :: c12 :: c13 :: c14 :: c15 :: c16 :: c17 :: c18 :: c19 :: c20 :: c21 :: c22 :: c23 :: t 0 :: t 1 :: t 2 :: t 3 :: t 4 :: t 5 :: t 6 :: t 7 :: t 8 :: c33 :: c34 :: c35 :: []), defers := [] } : Act)) _ _ _ _ _ _ _ _ _ _ _ _ _ _ _ _ _ _ _ _ _ _ _ _ _ _ _)
        (Ext := fun L u w' => ApX w2 [] L u w') (Good := fun i L w' v => if i = 0 then v = .bool true else if i = 1 then v = .bool false else if i = 2 then v = .bool false else if i = 3 then v = .agg ((snL gn tl D U).map (Value.int .u8)).toArray else if i = 4 then v = .pointer (some ⟨g, 0, none⟩) else if i = 5 then v = .pointer (some ⟨g, 0, none⟩) else if i = 6 then v = .agg (zs.map (Value.int .u8)).toArray else if i = 7 then v = .bool (!decide (snL gn tl D U = zs)) else if i = 8 then v = .bool (!decide (snL gn tl D U = zs)) else True) ?hstab (by kernel_rfl) ?hop ?hdone _ _ ((fun (x0 x1 x2 x3 x4 x5 x6 x7 x8 : Value) => fun (i : Nat) => if i = 0 then x0 else if i = 1 then x1 else if i = 2 then x2 else if i = 3 then x3 else if i = 4 then x4 else if i = 5 then x5 else if i = 6 then x6 else if i = 7 then x7 else if i = 8 then x8 else undef) _ _ _ _ _ _ _ _ _) _ (by simp) ?ext ?start (by simp)
      case start => intro i hi h; exact absurd h (by rw [Array.getD_eq_getD_getElem?, Array.getElem?_replicate]; split <;> simp)
      case ext => exact (ApX.start w2 [] _ _ (fun i => by rw [Array.getD_eq_getD_getElem?, Array.getElem?_replicate]; split <;> rfl)).drew
      case hstab =>
        intro j L w9 w' i v hM _ _ h
        exact h
      case hop =>
        intro i o L t w' ho hLi hx hdep K hK
        have hi : i < 9 := (Array.getElem?_eq_some_iff.1 ho).1
        obtain rfl | rfl | rfl | rfl | rfl | rfl | rfl | rfl | rfl : i = 0 ∨ i = 1 ∨ i = 2 ∨ i = 3 ∨ i = 4 ∨ i = 5 ∨ i = 6 ∨ i = 7 ∨ i = 8 := by omega
        all_goals (simp at ho; subst ho)
        · clear hdep
          have b2 := hx.below
          have A := HCV.out w' b2
          have hK' : ∀ ww, Below w'.heap.size w' ww → K _ ww := fun ww hb => hK ww (.bool true) (by simp) (hx.step 0 _ hb (fun h => absurd h (by decide))) hb
          clear hK
          rw [if_pos (by rfl)]
          go_simp
          try simp only []
          refine A.mono ?_
          rintro e w9 ⟨rfl, hb9⟩
          have hK2 := hK' w9 hb9
          clear hK' A hb9
          go_simp
          simpa [upd] using hK2
        · have d0 : t 0 = .bool true := by simpa using (hdep ⟨0, .data⟩ (by simp) rfl).2
          clear hdep
          have hK' := hK w' (.bool false) (by simp) (hx.step 1 _ (Below.refl _ _) (fun h => absurd h (by decide))) (Below.refl _ _)
          clear hK
          rw [if_pos (by rfl)]
          go_simp
          simpa [upd, d0] using hK'
        · have d1 : t 1 = .bool false := by simpa using (hdep ⟨1, .data⟩ (by simp) rfl).2
          clear hdep
          have hK' := hK w' (.bool false) (by simp) (hx.step 2 _ (Below.refl _ _) (fun h => absurd h (by decide))) (Below.refl _ _)
          clear hK
          rw [if_pos (by rfl)]
          go_simp
          simpa [upd, d1] using hK'
        · have d2 : t 2 = .bool false := by simpa using (hdep ⟨2, .guard⟩ (by simp) rfl).2
          clear hdep
          have b2 := hx.below
          have A := HCE.out w' b2
          have hK' : ∀ ww, Below w'.heap.size w' ww → K _ ww := fun ww hb => hK ww (.agg ((snL gn tl D U).map (Value.int .u8)).toArray) (by simp) (hx.step 3 _ hb (fun h => absurd h (by decide))) hb
          clear hK
          rw [if_pos (by simp [Region.wanted, yielded, d2])]
          go_simp
          refine A.mono ?_
          rintro e w9 ⟨rfl, hb9⟩
          have hK2 := hK' w9 hb9
          clear hK' A hb9
          go_simp
          simpa [upd, d2] using hK2
        · have d2 : t 2 = .bool false := by simpa using (hdep ⟨2, .guard⟩ (by simp) rfl).2
          clear hdep
          have hK' := hK w' (.pointer (some ⟨g, 0, none⟩)) (by simp) (hx.step 4 _ (Below.refl _ _) (fun h => absurd h (by decide))) (Below.refl _ _)
          clear hK
          rw [if_pos (by simp [Region.wanted, yielded, d2])]
          go_simp
          simpa [upd, d2] using hK'
        · have d4 : t 4 = .pointer (some ⟨g, 0, none⟩) := by simpa using (hdep ⟨4, .data⟩ (by simp) rfl).2
          have d2 : t 2 = .bool false := by simpa using (hdep ⟨2, .guard⟩ (by simp) rfl).2
          clear hdep
          have hK' := hK w' (.pointer (some ⟨g, 0, none⟩)) (by simp) (hx.step 5 _ (Below.refl _ _) (fun h => absurd h (by decide))) (Below.refl _ _)
          clear hK
          rw [if_pos (by simp [Region.wanted, yielded, d2])]
          go_simp
          simpa [upd, d2, d4] using hK'
        · have d5 : t 5 = .pointer (some ⟨g, 0, none⟩) := by simpa using (hdep ⟨5, .data⟩ (by simp) rfl).2
          have d2 : t 2 = .bool false := by simpa using (hdep ⟨2, .guard⟩ (by simp) rfl).2
          clear hdep
          have hrw : Row w' g 45 zs := row_below HR2.out hx.below HGL.out
          have hK' := hK w' (.agg (zs.map (Value.int .u8)).toArray) (by simp) (hx.step 6 _ (Below.refl _ _) (fun h => absurd h (by decide))) (Below.refl _ _)
          clear hK
          rw [if_pos (by simp [Region.wanted, yielded, d2])]
          refine wp_load_row 45 (.tmp 29) rfl g d5 45 _ (0, 0) _ hrw Try.underlying45 rfl HSS.out ?_
          go_simp
          simpa [upd, d2, d5] using hK'
        · have d3 : t 3 = .agg ((snL gn tl D U).map (Value.int .u8)).toArray := by simpa using (hdep ⟨3, .data⟩ (by simp) rfl).2
          have d6 : t 6 = .agg (zs.map (Value.int .u8)).toArray := by simpa using (hdep ⟨6, .data⟩ (by simp) rfl).2
          have d2 : t 2 = .bool false := by simpa using (hdep ⟨2, .guard⟩ (by simp) rfl).2
          clear hdep
          have hne : (Op.equalIn 10000 45 (.agg ((snL gn tl D U).map (Value.int .u8)).toArray) (.agg (zs.map (Value.int .u8)).toArray)).run Try.prog w' = .ok (decide (snL gn tl D U = zs)) w' := run_eqSlot w' 9997 (snL gn tl D U) zs HLN.out.1 HLN.out.2
          have hK' := hK w' (.bool (!decide (snL gn tl D U = zs))) (by simp) (hx.step 7 _ (Below.refl _ _) (fun h => absurd h (by decide))) (Below.refl _ _)
          clear hK
          rw [if_pos (by simp [Region.wanted, yielded, d2])]
          go_simp
          simpa [upd, d2, d3, d6, hne] using hK'
        · have d2 : t 2 = .bool false := by simpa using (hdep ⟨2, .data⟩ (by simp) rfl).2
          have d7 : t 7 = .bool (!decide (snL gn tl D U = zs)) := by simpa using (hdep ⟨7, .data⟩ (by simp) rfl).2
          clear hdep
          have hK' := hK w' (.bool (!decide (snL gn tl D U = zs))) (by simp) (hx.step 8 _ (Below.refl _ _) (fun h => absurd h (by decide))) (Below.refl _ _)
          clear hK
          rw [if_pos (by rfl)]
          go_simp
          simpa [upd, d2, d7] using hK'
      case hdone =>
        intro L t w3 hx hg
        have e8 : t 8 = .bool (!decide (snL gn tl D U = zs)) := by simpa using hg 8 (by decide)
        clear hg
        by_cases heq : snL gn tl D U = zs
        · have hde : decide (snL gn tl D U = zs) = true := by simpa using heq
          rw [hde] at e8
          simp only [e8, Bool.not_true]
          have HBX : Hid (BXS w w3) := HB2.out.call hx.below
          have HLI : Hid (Iow w1.heap.size w3 (.slice aD nD cD) D ∧ Iow w1.heap.size w3 (.slice aU nU cU) U) := ⟨HIO.out.1.below hx.below, HIO.out.2.1.below hx.below⟩
          have HQ : Hid (w3.heap[Q]? = some (.cells #[.int .u32 gn, .int .u32 tl, .slice aD nD cD, .slice aU nU cU] 26 (0, 0))) := by show _ = _; rw [hx.below.block Q (Array.getElem?_eq_some_iff.1 HQ2.out).1]; exact HQ2.out
          have HEQ := hid_of heq
          clear hx e8 hde heq
          go_wp2_with (first
            | (refine wpList_load_row rfl 26 (.tmp 3) rfl Q rfl 26 _ (0, 0) _ HQ.out Try.underlying26 rfl HSN.out ?_)
            | (refine wpList_store_row rfl 28 (.tmp 2) (.tmp 35) rfl w.heap.size #[.bool true, .int .u32 gn, .int .u32 tl, .slice aD nD cD, .slice aU nU cU] rfl rfl 28 _ HBX.out.box HSR.out rfl (all5s _ _ _ _ _ _ _ _ _) ?_)
            | fail)
          (try simp only [Exit.inBlock, Exit.then])
          refine bodyPost_ret (v := .agg #[.bool true, .int .u32 gn, .int .u32 tl, .slice aD nD cD, .slice aU nU cU]) (results_cell_row rfl _ _ w.heap.size 28 _ (0, 0) _ rfl (setRow_heap _ _ _ _ _ _ HBX.out.box) Try.underlying28 rfl HSR.out) rfl ⟨_, rfl, ?_, HBX.out.below.trans ((Wr.setRow _ _ _).below (Nat.le_refl _))⟩
          rw [dkF_yes HLZ.out HN16.out (by rw [HEE.out]; exact HEQ.out)]
          have hw := Wr.setRow w.heap.size w3 #[.bool true, .int .u32 gn, .int .u32 tl, .slice aD nD cD, .slice aU nU cU]
          have h1 := HLI.out.1.wr hw HB1.out.lt
          have h2 := HLI.out.2.wr hw HB1.out.lt
          exact ⟨aD, nD, cD, aU, nU, cU, by rw [dkYes, HGT.out.1, HGT.out.2.1], by
            have := S3.of_io (Iow.mono h1 (Nat.le_of_lt HB1.out.lt)) (Iow.mono h2 (Nat.le_of_lt HB1.out.lt)) HIO.out.2.2
            rw [dkYes]
            show S3 _ _ _ _ _ _ _ _ (dkD zs (dkN zs)) (dkU zs) _
            rw [HGT.out.2.2.1, HGT.out.2.2.2]; exact this⟩
        · have hde : decide (snL gn tl D U = zs) = false := by simpa using heq
          have HNE : Hid (dkE zs ≠ zs) := by show _ ≠ _; rw [HEE.out]; exact heq
          rw [hde] at e8
          simp only [Bool.not_false] at e8
          simp only [e8]
          have HBX : Hid (BXS w w3) := HB2.out.call hx.below
          clear hx e8 hde heq
          go_wp2_with (first
            | (refine wpList_store_row rfl 28 (.tmp 2) (.tmp 33) rfl w.heap.size #[.bool false, .int .u32 0, .int .u32 0, .slice none 0 0, .slice none 0 0] rfl rfl 28 _ HBX.out.box HSR.out rfl (all5s _ _ _ _ _ _ _ _ _) ?_)
            | fail)
          (try simp only [Exit.inBlock, Exit.then])
          refine bodyPost_ret (v := .agg #[.bool false, .int .u32 0, .int .u32 0, .slice none 0 0, .slice none 0 0]) (results_cell_row rfl _ _ w.heap.size 28 _ (0, 0) _ rfl (setRow_heap _ _ _ _ _ _ HBX.out.box) Try.underlying28 rfl HSR.out) rfl ⟨_, rfl, ?_, HBX.out.below.trans ((Wr.setRow _ _ _).below (Nat.le_refl _))⟩
          rw [dkF_no HNE.out]
          exact DVA.no _ _
    · have HE0 : Hid (dkE zs ≠ zs) := by
        show _ ≠ _
        unfold dkE
        rw [HGT.out.1, HGT.out.2.1, HGT.out.2.2.1, HGT.out.2.2.2]
        unfold snE; rw [snB_no hs]
        intro h
        have := HLZ.out
        rw [← h] at this
        simp at this
      rw [snB_no hs] at HCV
      clear hs
      refine wp_region_any (by kernel_rfl) ?_
      refine wpAny_slotsU (fun _ a b => Below a.heap.size a b) (frame := (fun (c0 c1 c2 c3 c4 c5 c6 c7 c8 c9 c10 c11 c12 c13 c14 c15 c16 c17 c18 c19 c20 c21 c22 c23 c33 c34 c35 : Value) => fun (t : Nat → Value) => ({ tmps := List.toArray (c0 :: c1 :: c2 :: c3 :: c4 :: c5 :: c6 :: c7 :: c8 :: c9 :: c10 :: c11 :: c12 :: c13 :: c14 :: c15 :: c16 :: c17 :: c18 :: c19 :: c20 :: c21 :: c22 :: c23 :: t 0 :: t 1 :: t 2 :: t 3 :: t 4 :: t 5 :: t 6 :: t 7 :: t 8 :: c33 :: c34 :: c35 :: []), defers := [] } : Act)) _ _ _ _ _ _ _ _ _ _ _ _ _ _ _ _ _ _ _ _ _ _ _ _ _ _ _)
        (Ext := fun L u w' => ApX w2 [] L u w') (Good := fun i L w' v => if i = 0 then v = .bool false else if i = 1 then v = .bool true else if i = 2 then v = .bool true else if i = 3 then True else if i = 4 then True else if i = 5 then True else if i = 6 then True else if i = 7 then True else if i = 8 then v = .bool true else True) ?hstab (by kernel_rfl) ?hop ?hdone _ _ ((fun (x0 x1 x2 x3 x4 x5 x6 x7 x8 : Value) => fun (i : Nat) => if i = 0 then x0 else if i = 1 then x1 else if i = 2 then x2 else if i = 3 then x3 else if i = 4 then x4 else if i = 5 then x5 else if i = 6 then x6 else if i = 7 then x7 else if i = 8 then x8 else undef) _ _ _ _ _ _ _ _ _) _ (by simp) ?ext ?start (by simp)
      case start => intro i hi h; exact absurd h (by rw [Array.getD_eq_getD_getElem?, Array.getElem?_replicate]; split <;> simp)
      case ext => exact (ApX.start w2 [] _ _ (fun i => by rw [Array.getD_eq_getD_getElem?, Array.getElem?_replicate]; split <;> rfl)).drew
      case hstab =>
        intro j L w9 w' i v hM _ _ h
        exact h
      case hop =>
        intro i o L t w' ho hLi hx hdep K hK
        have hi : i < 9 := (Array.getElem?_eq_some_iff.1 ho).1
        obtain rfl | rfl | rfl | rfl | rfl | rfl | rfl | rfl | rfl : i = 0 ∨ i = 1 ∨ i = 2 ∨ i = 3 ∨ i = 4 ∨ i = 5 ∨ i = 6 ∨ i = 7 ∨ i = 8 := by omega
        all_goals (simp at ho; subst ho)
        · clear hdep
          have b2 := hx.below
          have A := HCV.out w' b2
          have hK' : ∀ ww, Below w'.heap.size w' ww → K _ ww := fun ww hb => hK ww (.bool false) (by simp) (hx.step 0 _ hb (fun h => absurd h (by decide))) hb
          clear hK
          rw [if_pos (by rfl)]
          go_simp
          try simp only []
          refine A.mono ?_
          rintro e w9 ⟨rfl, hb9⟩
          have hK2 := hK' w9 hb9
          clear hK' A hb9
          go_simp
          simpa [upd] using hK2
        · have d0 : t 0 = .bool false := by simpa using (hdep ⟨0, .data⟩ (by simp) rfl).2
          clear hdep
          have hK' := hK w' (.bool true) (by simp) (hx.step 1 _ (Below.refl _ _) (fun h => absurd h (by decide))) (Below.refl _ _)
          clear hK
          rw [if_pos (by rfl)]
          go_simp
          simpa [upd, d0] using hK'
        · have d1 : t 1 = .bool true := by simpa using (hdep ⟨1, .data⟩ (by simp) rfl).2
          clear hdep
          have hK' := hK w' (.bool true) (by simp) (hx.step 2 _ (Below.refl _ _) (fun h => absurd h (by decide))) (Below.refl _ _)
          clear hK
          rw [if_pos (by rfl)]
          go_simp
          simpa [upd, d1] using hK'
        · have d2 : t 2 = .bool true := by simpa using (hdep ⟨2, .guard⟩ (by simp) rfl).2
          clear hdep
          have hK' := hK w' undef (by simp) (hx.step 3 _ (Below.refl _ _) (fun h => absurd h (by decide))) (Below.refl _ _)
          clear hK
          rw [if_neg (by simp [Region.wanted, yielded, d2])]
          go_simp
          simpa [upd, d2] using hK'
        · have d2 : t 2 = .bool true := by simpa using (hdep ⟨2, .guard⟩ (by simp) rfl).2
          clear hdep
          have hK' := hK w' undef (by simp) (hx.step 4 _ (Below.refl _ _) (fun h => absurd h (by decide))) (Below.refl _ _)
          clear hK
          rw [if_neg (by simp [Region.wanted, yielded, d2])]
          go_simp
          simpa [upd, d2] using hK'
        · have d2 : t 2 = .bool true := by simpa using (hdep ⟨2, .guard⟩ (by simp) rfl).2
          clear hdep
          have hK' := hK w' undef (by simp) (hx.step 5 _ (Below.refl _ _) (fun h => absurd h (by decide))) (Below.refl _ _)
          clear hK
          rw [if_neg (by simp [Region.wanted, yielded, d2])]
          go_simp
          simpa [upd, d2] using hK'
        · have d2 : t 2 = .bool true := by simpa using (hdep ⟨2, .guard⟩ (by simp) rfl).2
          clear hdep
          have hK' := hK w' undef (by simp) (hx.step 6 _ (Below.refl _ _) (fun h => absurd h (by decide))) (Below.refl _ _)
          clear hK
          rw [if_neg (by simp [Region.wanted, yielded, d2])]
          go_simp
          simpa [upd, d2] using hK'
        · have d2 : t 2 = .bool true := by simpa using (hdep ⟨2, .guard⟩ (by simp) rfl).2
          clear hdep
          have hK' := hK w' undef (by simp) (hx.step 7 _ (Below.refl _ _) (fun h => absurd h (by decide))) (Below.refl _ _)
          clear hK
          rw [if_neg (by simp [Region.wanted, yielded, d2])]
          go_simp
          simpa [upd, d2] using hK'
        · have d2 : t 2 = .bool true := by simpa using (hdep ⟨2, .data⟩ (by simp) rfl).2
          clear hdep
          have hK' := hK w' (.bool true) (by simp) (hx.step 8 _ (Below.refl _ _) (fun h => absurd h (by decide))) (Below.refl _ _)
          clear hK
          rw [if_pos (by rfl)]
          go_simp
          simpa [upd, d2] using hK'
      case hdone =>
        intro L t w3 hx hg
        have e8 : t 8 = .bool true := by simpa using hg 8 (by decide)
        clear hg
        simp only [e8]
        have HBX : Hid (BXS w w3) := HB2.out.call hx.below
        clear hx e8
        go_wp2_with (first
          | (refine wpList_store_row rfl 28 (.tmp 2) (.tmp 33) rfl w.heap.size #[.bool false, .int .u32 0, .int .u32 0, .slice none 0 0, .slice none 0 0] rfl rfl 28 _ HBX.out.box HSR.out rfl (all5s _ _ _ _ _ _ _ _ _) ?_)
          | fail)
        (try simp only [Exit.inBlock, Exit.then])
        refine bodyPost_ret (v := .agg #[.bool false, .int .u32 0, .int .u32 0, .slice none 0 0, .slice none 0 0]) (results_cell_row rfl _ _ w.heap.size 28 _ (0, 0) _ rfl (setRow_heap _ _ _ _ _ _ HBX.out.box) Try.underlying28 rfl HSR.out) rfl ⟨_, rfl, ?_, HBX.out.below.trans ((Wr.setRow _ _ _).below (Nat.le_refl _))⟩
        rw [dkF_no HE0.out]
        exact DVA.no _ _
set_option maxRecDepth 100000 in
set_option maxHeartbeats 2000000 in
theorem snap_any (g : Nat) (zs : List Int) (w : World) (hr : Row w g 45 zs) (hl : zs.length = 128) (hz : Byte zs) :
    Calls Try.prog 21 #[.pointer (some ⟨g, 0, none⟩)] w fun e w' => ∃ v, e = .returned v ∧ DVA w.heap.size w' v (dkF zs) ∧ Below w.heap.size w w' := by
  by_cases h16 : zs.getD 6 0 ≤ 16
  · exact snap_yes g zs w hr hl hz h16
  · have HBX : Hid (BXS w (w.alloc (.cells #[.bool false, .int .u32 0, .int .u32 0, .slice none 0 0, .slice none 0 0] 28))) := BXS.start w
    have HF : Hid (dkF zs = dkNo) := dkF_cnt h16
    have c6 : (w.alloc (.cells #[.bool false, .int .u32 0, .int .u32 0, .slice none 0 0, .slice none 0 0] 28)).cell? ⟨g, 6, none⟩ = some (.int .u8 (zs.getD 6 0)) := by rw [(below_new w _).cell (p := ⟨g, 6, none⟩) hr.lt]; exact hr.cell 6 (by omega)
    have hc6 : zs.getD 6 0 > 16 := by omega
    have HSR : Hid ((Try.prog.info? 28).map (·.size) = some 5) := by show _ = _; kernel_rfl
    clear hr hl hz h16
    generalize zs.getD 6 0 = z6 at c6 hc6
    go_enter Try.func21, Try.ntmps21
    go_wp2_with (first
      | (refine wpList_store_row rfl 28 (.tmp 2) (.tmp 10) rfl w.heap.size #[.bool false, .int .u32 0, .int .u32 0, .slice none 0 0, .slice none 0 0] rfl rfl 28 _ HBX.out.box HSR.out rfl (all5s _ _ _ _ _ _ _ _ _) ?_)
      | fail)
    (try simp only [Exit.inBlock, Exit.then])
    refine bodyPost_ret (v := .agg #[.bool false, .int .u32 0, .int .u32 0, .slice none 0 0, .slice none 0 0]) (results_cell_row rfl _ _ w.heap.size 28 _ (0, 0) _ rfl (setRow_heap _ _ _ _ _ _ HBX.out.box) Try.underlying28 rfl HSR.out) rfl ⟨_, rfl, ?_, HBX.out.below.trans ((Wr.setRow _ _ _).below (Nat.le_refl _))⟩
    rw [HF.out]
    exact DVA.no _ _
end Go.Proofs.Ytmnoelfabldpfaa
