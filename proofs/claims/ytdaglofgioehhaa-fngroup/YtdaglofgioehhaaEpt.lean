/-
  Own work: drawn points (1): l4Base, l4Public (written by wip/mkept.py).
-/
import Derived.Test.YtdaglofgioehhaaEsc
import Derived.Test.YtdaglofgioehhaaSMp
import Derived.Test.YtdaglofgioehhaaMBb
import Derived.Test.YtdaglofgioehhaaMRegU
namespace Go.Proofs.Ytdaglofgioehhaa
open Go.ChangeShapes Go.WideShapes Go.ChangeAt Go.RowKit
set_option linter.unusedVariables false

/-- A point of the model's. -/
def PtV (w : World) (v : Value) (Q : Q4) : Prop := ∃ g1 c1 g2 c2 g3 c3 g4 c4, v = .agg #[.slice (some ⟨g1, 0, none⟩) 16 c1, .slice (some ⟨g2, 0, none⟩) 16 c2, .slice (some ⟨g3, 0, none⟩) 16 c3, .slice (some ⟨g4, 0, none⟩) 16 c4] ∧
  FeA w (some ⟨g1, 0, none⟩) Q.1 ∧ FeA w (some ⟨g2, 0, none⟩) Q.2.1 ∧ FeA w (some ⟨g3, 0, none⟩) Q.2.2.1 ∧ FeA w (some ⟨g4, 0, none⟩) Q.2.2.2
theorem PtV.below {w w' : World} {v : Value} {Q : Q4} (h : PtV w v Q) (hb : Below w.heap.size w w') : PtV w' v Q := by
  obtain ⟨g1, c1, g2, c2, g3, c3, g4, c4, e, f1, f2, f3, f4⟩ := h
  exact ⟨g1, c1, g2, c2, g3, c3, g4, c4, e, f1.below hb, f2.below hb, f3.below hb, f4.below hb⟩
theorem PtV.mk {w : World} {zs : List Int} {g1 c1 g2 c2 g3 c3 g4 c4 : Nat} (f1 : FeA w (some ⟨g1, 0, none⟩) (mX zs mdD)) (f2 : FeA w (some ⟨g2, 0, none⟩) (mY zs)) (f3 : FeA w (some ⟨g3, 0, none⟩) (1 % fp)) (f4 : FeA w (some ⟨g4, 0, none⟩) (mX zs mdD * mY zs % fp)) :
    PtV w (.agg #[.slice (some ⟨g1, 0, none⟩) 16 c1, .slice (some ⟨g2, 0, none⟩) 16 c2, .slice (some ⟨g3, 0, none⟩) 16 c3, .slice (some ⟨g4, 0, none⟩) 16 c4]) (ptQ zs) := ⟨g1, c1, g2, c2, g3, c3, g4, c4, rfl, f1, f2, f3, f4⟩
def PtS (w : World) (v : Value) : Prop := ∃ Q, PtV w v Q
theorem PtS.below {w w' : World} {v : Value} (h : PtS w v) (hb : Below w.heap.size w w') : PtS w' v := by obtain ⟨Q, h⟩ := h; exact ⟨Q, h.below hb⟩
def FdV (w : World) (v : Value) (x : Int) : Prop := ∃ g c, v = .slice (some ⟨g, 0, none⟩) 16 c ∧ FeA w (some ⟨g, 0, none⟩) x
theorem FdV.below {w w' : World} {v : Value} {x : Int} (h : FdV w v x) (hb : Below w.heap.size w w') : FdV w' v x := by obtain ⟨g, c, e, f⟩ := h; exact ⟨g, c, e, f.below hb⟩
/-- m bytes. -/
def TxE (w : World) (v : Value) (m : Nat) : Prop := ∃ g c zs, v = .slice (some ⟨g, 0, none⟩) m c ∧ m ≤ c ∧ zs.length = m ∧ Byte zs ∧ At .u8 w (some ⟨g, 0, none⟩) zs
theorem TxE.below {w w' : World} {v : Value} {m : Nat} (h : TxE w v m) (hb : Below w.heap.size w w') : TxE w' v m := by obtain ⟨g, c, zs, e, h1, h2, h3, h4⟩ := h; exact ⟨g, c, zs, e, h1, h2, h3, h4.below hb⟩
theorem TxE.of_own {w : World} {B : Nat} {v : Value} {zs : List Int} {m : Nat} (h : Own w B v zs) (hl : zs.length = m) (hz : Byte zs) : TxE w v m := by
  obtain ⟨g, c, e, _, _, hc⟩ := h.base
  obtain ⟨g', c', e', _, _, hA⟩ := h.at2
  rw [e] at e'
  cases e'
  rw [hl] at e hc
  exact ⟨g, c, zs, e, hc, hl, hz, hA⟩
theorem At.cutE {w : World} {g n : Nat} {zs : List Int} (h : At .u8 w (some ⟨g, 0, none⟩) zs) (m : Nat) : At .u8 w (some ⟨g, 0, none⟩) (zs.take m) := by
  rcases h with h | ⟨b, off, e, hb, hc⟩
  · left; rw [h]; simp
  · cases e
    refine .inr ⟨g, 0, rfl, hb, fun i hi => ?_⟩
    have hi' : i < m ∧ i < zs.length := by simp at hi; omega
    rw [hc i hi'.2]
    simp [hi'.1, hi'.2]
theorem PtW.feE {w : World} {G g : Nat} {a : Option Addr} {n c : Nat} {s1 s2 s3 : Value} {x : Int} (h : PtW w G #[.slice a n c, s1, s2, s3]) (f : FeA w (some ⟨g, 0, none⟩) x) : g ≠ G := by
  intro e
  subst e
  obtain ⟨zs, h1, h2, _⟩ := f
  obtain ⟨b, o, e, _, hc⟩ := h1.get (by have := h2.1; omega)
  cases e
  have c0 := hc 0 (by have := h2.1; omega)
  rw [Nat.zero_add, h.c0] at c0
  cases c0
set_option maxHeartbeats 2000000 in
theorem base_any (w : World) : Calls Try.prog 85 #[] w (fun e w' => ∃ v, e = .returned v ∧ PtV w' v (ptQ bB) ∧ Below w.heap.size w w') := by
  have HR0 : Hid (PtW (w.alloc (.cells #[.slice none 0 0, .slice none 0 0, .slice none 0 0, .slice none 0 0] 55)) w.heap.size #[.slice none 0 0, .slice none 0 0, .slice none 0 0, .slice none 0 0]) := PtW.new w
  have HB0 := hid_ofE ((Below.refl w.heap.size w).alloc (Nat.le_refl _) (.cells #[.slice none 0 0, .slice none 0 0, .slice none 0 0, .slice none 0 0] 55))
  have hs0 : w.heap.size < (w.alloc (.cells #[.slice none 0 0, .slice none 0 0, .slice none 0 0, .slice none 0 0] 55)).heap.size := by simp
  go_enter Try.func85, Try.ntmps85
  go_wp2_with fail
  generalize w.alloc (.cells #[.slice none 0 0, .slice none 0 0, .slice none 0 0, .slice none 0 0] 55) = w0 at *
  refine (sbas_any _).mono ?_
  rintro e w1 ⟨v1, bs1, rfl, O1, b1, l1, x1, B1⟩
  obtain rfl : bs1 = bB := bB_of b1 l1 x1
  obtain ⟨g1, c1, rfl, hg1, hg1', A1⟩ := O1.at2
  rw [bB_len]
  have HA1 := hid_ofE A1
  have HR1 := hid_ofE (HR0.out.below B1 hs0)
  have HB1 : Hid (Below w.heap.size w w1) := HB0.out.trans (B1.mono HB0.out.size)
  clear O1 A1 B1 HR0 HB0
  have hs1 := HR1.out.lt
  go_wp2_with fail
  refine (d_any _).mono ?_
  rintro e w2 ⟨g2, c2, rfl, k2, l2, hf, B2⟩
  have HA2 := HA1.out.below B2
  have HR2 := hid_ofE (HR1.out.below B2 hs1)
  have HB2 : Hid (Below w.heap.size w w2) := HB1.out.trans (B2.mono HB1.out.size)
  clear HA1 HR1 HB1 B2
  have hs2 := HR2.out.lt
  go_wp2_with fail
  refine (decodeS_any _ _ 32 c1 c2 bB mdD _ bB_len (by decide) HA2 bB_byte hf).mono ?_
  rintro e w3 ⟨s1, s2, s3, s4, rfl, B3, hone, hok⟩
  obtain ⟨x1, i1, x2, i2, x3, i3, x4, i4, rfl, rfl, rfl, rfl, f1, f2, f3, f4⟩ := hok bB_ok
  have HR3 := hid_ofE (HR2.out.below B3 hs2)
  have HB3 : Hid (Below w.heap.size w w3) := HB2.out.trans (B3.mono HB2.out.size)
  have HF3 := hid_ofE (And.intro f1 (And.intro f2 (And.intro f3 f4)))
  have hs3 := HR3.out.lt
  have HPN : Hid (PtW (w3.alloc (.cells #[.slice none 0 0, .slice none 0 0, .slice none 0 0, .slice none 0 0] 55)) w3.heap.size #[.slice none 0 0, .slice none 0 0, .slice none 0 0, .slice none 0 0]) := PtW.new w3
  clear HA2 hf HR2 HB2 B3 hone hok f1 f2 f3 f4
  go_wp2_with (first
    | (refine wpList_storePt rfl (.tmp 2) (.tmp 8) rfl w3.heap.size _ _ _ _ _ rfl rfl rfl rfl rfl rfl rfl HPN.out ?_)
    | fail)
  intro w4 hp4 hw4
  have b34 : Below w3.heap.size w3 w4 := (below_new3 _ _).trans (hw4.below (Nat.le_refl _))
  have HB4 : Hid (Below w.heap.size w w4) := HB3.out.trans (b34.mono HB3.out.size)
  have HR4 := hid_ofE (HR3.out.below b34 hs3)
  have HP4 := hid_ofE hp4
  have HF4 : Hid (FeA w4 (some ⟨x1, 0, none⟩) (mX bB mdD) ∧ FeA w4 (some ⟨x2, 0, none⟩) (mY bB) ∧ FeA w4 (some ⟨x3, 0, none⟩) (1 % fp) ∧ FeA w4 (some ⟨x4, 0, none⟩) (mX bB mdD * mY bB % fp)) := by
    obtain ⟨f1, f2, f3, f4⟩ := HF3.out
    exact ⟨f1.below b34, f2.below b34, f3.below b34, f4.below b34⟩
  clear HF3 HR3 HB3 HPN hp4 hw4 b34
  generalize w3.heap.size = Ga at *
  go_wp2_with (first
    | (refine wpList_load_row rfl 55 (.tmp 2) rfl Ga rfl 55 _ (0, 0) _ HP4.out Try.underlying55 rfl Try.sizePt ?_)
    | (refine wpList_storePt rfl (.tmp 0) (.tmp 9) rfl w.heap.size _ _ _ _ _ rfl rfl rfl rfl rfl rfl rfl HR4.out ?_)
    | fail)
  intro w5 hp5 hw5
  have HF : Hid (∃ v, Ending.returned (.agg #[.slice (some ⟨x1, 0, none⟩) 16 i1, .slice (some ⟨x2, 0, none⟩) 16 i2, .slice (some ⟨x3, 0, none⟩) 16 i3, .slice (some ⟨x4, 0, none⟩) 16 i4]) = .returned v ∧ PtV w5 v (ptQ bB) ∧ Below w.heap.size w w5) := by
    obtain ⟨f1, f2, f3, f4⟩ := HF4.out
    refine ⟨_, rfl, PtV.mk (f1.wr hw5 (HR4.out.feE f1)) (f2.wr hw5 (HR4.out.feE f2)) (f3.wr hw5 (HR4.out.feE f3)) (f4.wr hw5 (HR4.out.feE f4)), HB4.out.trans (hw5.below (Nat.le_refl _))⟩
  have HP5 := hid_ofE hp5
  clear hp5 hw5 HR4 HP4 HF4 HB4
  go_wp2
  exact bodyPost_ret (v := .agg #[.slice (some ⟨x1, 0, none⟩) 16 i1, .slice (some ⟨x2, 0, none⟩) 16 i2, .slice (some ⟨x3, 0, none⟩) 16 i3, .slice (some ⟨x4, 0, none⟩) 16 i4]) (results_cell_row rfl _ _ w.heap.size 55 _ (0, 0) _ rfl HP5.out Try.underlying55 rfl Try.sizePt) rfl HF.out
set_option maxRecDepth 100000 in
set_option maxHeartbeats 4000000 in
theorem pub_any (x : Int) (w : World) (hx0 : 0 ≤ x) (hx1 : x ≤ 1000) : Calls Try.prog 70 #[.int .i64 x] w (fun e w' => ∃ v, e = .returned v ∧ TxE w' v 32 ∧ Below w.heap.size w w') := by
  go_enter Try.func70, Try.ntmps70
  go_wp2_with fail
  refine wp_region_any (by kernel_rfl) ?_
  refine wpAny_slotsU (fun _ a b => Below a.heap.size a b) (frame := (fun (c0 c1 : Value) => fun (t : Nat → Value) => ({ tmps := List.toArray (c0 :: c1 :: t 7 :: t 0 :: t 1 :: t 2 :: t 3 :: t 4 :: t 5 :: t 6 :: []), defers := [] } : Act)) _ _)
    (Ext := fun L u w' => ApX w [] L u w') (Good := fun i L w' v => if i = 0 then v = .int .i64 x else if i = 1 then TxE w' v 32 else if i = 2 then TxE w' v 2 else if i = 3 then PtV w' v (ptQ bB) else if i = 4 then FdV w' v mdD else if i = 5 then PtS w' v else if i = 6 then TxE w' v 32 else if i = 7 then TxE w' v 32 else True) ?hstab (by kernel_rfl) ?hop ?hdone _ _ ((fun (x0 x1 x2 x3 x4 x5 x6 x7 : Value) => fun (i : Nat) => if i = 0 then x0 else if i = 1 then x1 else if i = 2 then x2 else if i = 3 then x3 else if i = 4 then x4 else if i = 5 then x5 else if i = 6 then x6 else if i = 7 then x7 else undef) _ _ _ _ _ _ _ _) _ (by simp) ?ext ?start (by simp)
  case start => intro i hi h; exact absurd h (by rw [Array.getD_eq_getD_getElem?, Array.getElem?_replicate]; split <;> simp)
  case ext => exact (ApX.start w [] _ _ (fun i => by rw [Array.getD_eq_getD_getElem?, Array.getElem?_replicate]; split <;> rfl)).drew
  case hstab =>
    intro j L w9 w' i v hM _ _ h
    by_cases h1 : j = 1
    · subst h1
      simp at h ⊢
      exact h.below hM
    by_cases h2 : j = 2
    · subst h2
      simp at h ⊢
      exact h.below hM
    by_cases h3 : j = 3
    · subst h3
      simp at h ⊢
      exact h.below hM
    by_cases h4 : j = 4
    · subst h4
      simp at h ⊢
      exact h.below hM
    by_cases h5 : j = 5
    · subst h5
      simp at h ⊢
      exact h.below hM
    by_cases h6 : j = 6
    · subst h6
      simp at h ⊢
      exact h.below hM
    by_cases h7 : j = 7
    · subst h7
      simp at h ⊢
      exact h.below hM
    simp only [if_neg h1, if_neg h2, if_neg h3, if_neg h4, if_neg h5, if_neg h6, if_neg h7] at h ⊢
    exact h
  case hop =>
    intro i o L t w' ho hLi hx hdep K hK
    have hi : i < 8 := (Array.getElem?_eq_some_iff.1 ho).1
    obtain rfl | rfl | rfl | rfl | rfl | rfl | rfl | rfl : i = 0 ∨ i = 1 ∨ i = 2 ∨ i = 3 ∨ i = 4 ∨ i = 5 ∨ i = 6 ∨ i = 7 := by omega
    all_goals (simp at ho; subst ho)
    · clear hdep
      have hK' := hK w' (.int .i64 x) (by simp) (hx.step 0 _ (Below.refl _ _) (fun h => absurd h (by decide))) (Below.refl _ _)
      clear hK
      rw [if_pos (by rfl)]
      go_simp
      simpa [upd] using hK'
    · have d0 : t 0 = .int .i64 x := by simpa using (hdep ⟨0, .data⟩ (by simp) rfl).2
      clear hdep
      have A := scOf_any x w' hx0 hx1
      have hK' : ∀ ww v, TxE ww v 32 → Below w'.heap.size w' ww → K _ ww := fun ww v hv hb => hK ww v (by simpa using hv) (hx.step 1 v hb (fun h => absurd h (by decide))) hb
      clear hK
      rw [if_pos (by rfl)]
      go_simp
      try simp only [d0]
      refine A.mono ?_
      rintro e w9 ⟨v9, zs, rfl, o9, b9, l9, _, hb9⟩
      have hK2 := hK' w9 v9 (TxE.of_own o9 l9 b9)  hb9
      clear hK' A o9 b9 l9 hb9
      go_simp
      simpa [upd, d0] using hK2
    · have f1 : TxE w' (t 1) 32 := by simpa using (hdep ⟨1, .data⟩ (by simp) rfl).2
      clear hdep
      refine Exists.elim f1 fun gg hh => ?_
      obtain ⟨cc, zs, d1, h1, h2, h3, h4⟩ := hh
      have hcc : 2 ≤ cc := by omega
      have hcc' : (2 : Int) ≤ (cc : Int) := by omega
      have hK' := hK w' (.slice (some ⟨gg, 0, none⟩) 2 cc) (by simpa using ⟨gg, cc, zs.take 2, rfl, hcc, by simp; omega, fun v hv => h3 v (List.mem_of_mem_take hv), h4.cutE (n := 0) 2⟩) (hx.step 2 _ (Below.refl _ _) (fun h => absurd h (by decide))) (Below.refl _ _)
      clear hK h4 h3
      rw [if_pos (by rfl)]
      go_simp
      simpa [upd, d1, hcc'] using hK'
    · clear hdep
      have A := base_any w'
      have hK' : ∀ ww v, PtV ww v (ptQ bB) → Below w'.heap.size w' ww → K _ ww := fun ww v hv hb => hK ww v (by simpa using hv) (hx.step 3 v hb (fun h => absurd h (by decide))) hb
      clear hK
      rw [if_pos (by rfl)]
      go_simp
      try simp only []
      refine A.mono ?_
      rintro e w9 ⟨v9, rfl, p9, hb9⟩
      have hK2 := hK' w9 v9 p9  hb9
      clear hK' A p9 hb9
      go_simp
      simpa [upd] using hK2
    · clear hdep
      have A := d_any w'
      have hK' : ∀ ww v, FdV ww v mdD → Below w'.heap.size w' ww → K _ ww := fun ww v hv hb => hK ww v (by simpa using hv) (hx.step 4 v hb (fun h => absurd h (by decide))) hb
      clear hK
      rw [if_pos (by rfl)]
      go_simp
      try simp only []
      refine A.mono ?_
      rintro e w9 ⟨g9, c9, rfl, _, _, q9, hb9⟩
      have hK2 := hK' w9 (.slice (some ⟨g9, 0, none⟩) 16 c9) ⟨g9, c9, rfl, q9⟩  hb9
      clear hK' A q9 hb9
      go_simp
      simpa [upd] using hK2
    · have f2 : TxE w' (t 2) 2 := by simpa using (hdep ⟨2, .data⟩ (by simp) rfl).2
      have f3 : PtV w' (t 3) (ptQ bB) := by simpa using (hdep ⟨3, .data⟩ (by simp) rfl).2
      have f4 : FdV w' (t 4) mdD := by simpa using (hdep ⟨4, .data⟩ (by simp) rfl).2
      clear hdep
      refine Exists.elim f2 fun gg hh => ?_
      obtain ⟨cc, zs, d2, _, h2, h3, h4⟩ := hh
      refine Exists.elim f3 fun q1 hh' => ?_
      obtain ⟨e1, q2, e2, q3, e3, q4, e4, d3, y1, y2, y3, y4⟩ := hh'
      refine Exists.elim f4 fun gd hh'' => ?_
      obtain ⟨cd, d4, yd⟩ := hh''
      have A := ltimes2_any (some ⟨gg, 0, none⟩) cc zs q1 q2 q3 q4 gd e1 e2 e3 e4 cd (ptQ bB) w' h2 h3 h4 y1 y2 y3 y4 yd
      have hK' : ∀ ww v, PtS ww v → Below w'.heap.size w' ww → K _ ww := fun ww v hv hb => hK ww v (by simpa using hv) (hx.step 5 v hb (fun h => absurd h (by decide))) hb
      clear hK h4 y1 y2 y3 y4 yd
      rw [if_pos (by rfl)]
      go_simp
      try simp only [d2, d3, d4]
      refine A.mono ?_
      rintro e w9 ⟨a1, k1, a2, k2, a3, k3, a4, k4, rfl, z1, z2, z3, z4, hb9⟩
      have hK2 := hK' w9 _ ⟨_, a1, k1, a2, k2, a3, k3, a4, k4, rfl, z1, z2, z3, z4⟩ hb9
      clear hK' A z1 z2 z3 z4 hb9
      go_simp
      simpa [upd, d2, d3, d4] using hK2
    · have f5 : PtS w' (t 5) := by simpa using (hdep ⟨5, .data⟩ (by simp) rfl).2
      clear hdep
      refine Exists.elim f5 fun QQ hh => ?_
      obtain ⟨q1, e1, q2, e2, q3, e3, q4, e4, d5, y1, y2, y3, y4⟩ := hh
      have A := code_any (some ⟨q1, 0, none⟩) (some ⟨q2, 0, none⟩) (some ⟨q3, 0, none⟩) (some ⟨q4, 0, none⟩) e1 e2 e3 e4 _ _ _ w' y1 y2 y3
      have hK' : ∀ ww v, TxE ww v 32 → Below w'.heap.size w' ww → K _ ww := fun ww v hv hb => hK ww v (by simpa using hv) (hx.step 6 v hb (fun h => absurd h (by decide))) hb
      clear hK y1 y2 y3 y4
      rw [if_pos (by rfl)]
      go_simp
      try simp only [d5]
      refine A.mono ?_
      rintro e w9 ⟨v9, bx, rfl, o9, hy, hl, hv, hb9⟩
      have hK2 := hK' w9 v9 (TxE.of_own o9 hl hy) hb9
      clear hK' A o9 hy hl hv hb9
      go_simp
      simpa [upd, d5] using hK2
    · have f6 : TxE w' (t 6) 32 := by simpa using (hdep ⟨6, .data⟩ (by simp) rfl).2
      clear hdep
      have hK' := hK w' (t 6) (by simpa using f6) (hx.step 7 _ (Below.refl _ _) (fun h => absurd h (by decide))) (Below.refl _ _)
      clear hK
      rw [if_pos (by rfl)]
      go_simp
      simpa [upd] using hK'
  case hdone =>
    intro L t w9 hx hg
    have h7 : TxE w9 (t 7) 32 := by simpa using hg 7 (by decide)
    have HF : Hid (TxE w9 (t 7) 32 ∧ Below w.heap.size w w9) := ⟨h7, hx.below⟩
    clear hg hx h7
    go_wp2
    go_ret
    exact ⟨_, rfl, HF.out.1, HF.out.2⟩
end Go.Proofs.Ytdaglofgioehhaa
