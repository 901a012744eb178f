/-
  Own work: the program's sync.
-/
import Derived.Test.YtiignammhieidaaBurn
import Derived.Test.YtiignammhieidaaSSy
namespace Go.Proofs.Ytiignammhieidaa
open Go.ChangeShapes Go.WideShapes Go.ChangeAt Go.RowKit
set_option linter.unusedVariables false

/-- Of the older blocks at most D and g have turned. -/
structure YR (D g : Nat) (w w' : World) : Prop where
  os : w'.os = w.os
  tape : w'.tape = w.tape
  output : w'.output = w.output
  size : w.heap.size ≤ w'.heap.size
  block : ∀ k, k < w.heap.size → k ≠ D → k ≠ g → w'.heap[k]? = w.heap[k]?
theorem YR.trans {D g : Nat} {a b c : World} (h : YR D g a b) (k : YR D g b c) : YR D g a c :=
  ⟨k.os.trans h.os, k.tape.trans h.tape, k.output.trans h.output, Nat.le_trans h.size k.size, fun i hi h1 h2 => (k.block i (by have := h.size; omega) h1 h2).trans (h.block i hi h1 h2)⟩
theorem YR.of_wr {D g : Nat} {a b : World} (h : Wr D a b) : YR D g a b := ⟨h.os, h.tape, h.output, by rw [h.size]; exact Nat.le_refl _, fun k _ h1 _ => h.block k h1⟩
theorem YR.of_below {D g : Nat} {a b : World} (h : Below a.heap.size a b) : YR D g a b := ⟨h.os, h.tape, h.output, h.size, fun k hk _ _ => h.block k hk⟩
theorem YR.of_ch {D g : Nat} {a b : World} (h : Ch g (g + 1) a b) : YR D g a b := ⟨h.os, h.tape, h.output, h.size, fun k hk _ h2 => h.block k hk (by omega)⟩

structure YS (w wr : World) (D g L gc B : Nat) (cv : Value) (F : Int) (y : List Int) : Prop where
  yr : YR D g w wr
  row : wr.heap[D]? = some (.cells #[.slice (some ⟨g, 0, none⟩) L gc, cv, .int .i64 F, .bool false] 29 (0, 0))
  own : Own wr B (.slice (some ⟨g, 0, none⟩) L gc) y
theorem YS.grow {w wr w' : World} {D g L gc B : Nat} {cv : Value} {F : Int} {y : List Int} (h : YS w wr D g L gc B cv F y) (hb : Below wr.heap.size wr w') : YS w w' D g L gc B cv F y :=
  ⟨h.yr.trans (YR.of_below hb), by rw [hb.block _ (Array.getElem?_eq_some_iff.1 h.row).1]; exact h.row, h.own.grow hb⟩
theorem YS.turn {w wr w' : World} {D g L gc B : Nat} {cv : Value} {F : Int} {y z : List Int} (h : YS w wr D g L gc B cv F y) (hc : Ch g (g + 1) wr w') (hD : D ≠ g) (ho : Own w' B (.slice (some ⟨g, 0, none⟩) L gc) z) : YS w w' D g L gc B cv F z :=
  ⟨h.yr.trans (YR.of_ch hc), by rw [hc.block _ (Array.getElem?_eq_some_iff.1 h.row).1 (by omega)]; exact h.row, ho⟩
structure YX (w w' : World) (D g L gc B : Nat) (cv : Value) (F : Int) (P s : Nat) (pc : Array Value) (y0 : List Int) : Prop where
  st : ∃ y, YS w w' D g L gc B cv F y ∧ y.length = L ∧ y.take (s * 64) = y0.take (s * 64) ∧ y.drop (s * 64 + 64) = y0.drop (s * 64 + 64)
  pbx : w'.heap[P]? = some (.cells pc 44 (0, 0))
  gp : g < P
theorem YX.grow {w wr w' : World} {D g L gc B : Nat} {cv : Value} {F : Int} {P s : Nat} {pc : Array Value} {y0 : List Int} (h : YX w wr D g L gc B cv F P s pc y0) (hb : Below wr.heap.size wr w') : YX w w' D g L gc B cv F P s pc y0 := by
  obtain ⟨y, h1, h2⟩ := h.st
  exact ⟨⟨y, h1.grow hb, h2⟩, by rw [hb.block _ (Array.getElem?_eq_some_iff.1 h.pbx).1]; exact h.pbx, h.gp⟩
def GZ (w : World) (D g L gc B : Nat) (cv : Value) (F : Int) (P s b6 o6 c6 : Nat) (dz Y : List Int) : Nat → World → (Nat → Value) → Prop
  | 0, _, u => u 0 = .pointer (some ⟨D, 0, none⟩)
  | 1, _, u => u 1 = .pointer (some ⟨P, 0, none⟩)
  | 2, _, u => u 2 = .int .i64 s
  | 3, _, u => u 3 = .pointer (some ⟨P, 1, none⟩)
  | 4, _, u => u 4 = .slice (some ⟨b6, o6, none⟩) 64 c6
  | 5, _, u => u 5 = secV dz
  | _, w', _ => YS w w' D g L gc B cv F Y

set_option maxHeartbeats 400000 in
set_option maxRecDepth 100000 in
theorem sync_no (D : Nat) (a b : Value) (w : World) (h : w.heap[D]? = some (.cells #[a, b, .int .i64 0, .bool false] 29 (0, 0))) :
    Calls Try.prog 36 #[.pointer (some ⟨D, 0, none⟩)] w fun e w' => e = .panicked [{ v := lossV, recovered := false }] ∧ w'.heap[D]? = some (.cells #[a, b, .int .i64 0, .bool true] 29 (0, 0)) ∧ Wr D w w' := by
  go_enter Try.func36, Try.ntmps36
  go_wp2_with fail
  refine (burn_no D a b false w h).mono ?_
  rintro e w1 ⟨rfl, h1, h2⟩
  exact ⟨rfl, rfl, h1, h2⟩

set_option maxHeartbeats 2000000 in
set_option maxRecDepth 100000 in
theorem sync_yes (D g L gc B : Nat) (ca : Option Addr) (m cc : Nat) (f : Int) (zs : List Int) (ps : List PD) (B1 U : Nat) (w : World) (h : w.heap[D]? = some (.cells #[.slice (some ⟨g, 0, none⟩) L gc, .slice ca m cc, .int .i64 f, .bool false] 29 (0, 0)))
    (hO : Own w B (.slice (some ⟨g, 0, none⟩) L gc) zs) (hP : PMine B1 U w ca ps) (hgB : g < B1) (hUD : U ≤ D) (hL : zs.length = L) (hm : ps.length = m) (hz : L ≤ 1048576) (hn : m ≤ 1048576) (v1 : L % 64 = 0) (hok : PsOk L ps) (hf : f = -1 ∨ 0 < f) (hf2 : f ≤ 9223372036854775807) :
    Calls Try.prog 36 #[.pointer (some ⟨D, 0, none⟩)] w fun e w' => e = .returned (.tuple #[]) ∧ w'.heap[D]? = some (.cells #[.slice (some ⟨g, 0, none⟩) L gc, .slice none 0 0, .int .i64 (stF f), .bool false] 29 (0, 0)) ∧ Own w' B (.slice (some ⟨g, 0, none⟩) L gc) (syL zs ps m) ∧ YR D g w w' := by
  have HSP : Hid _ := Try.sizePd
  have hDg : D ≠ g := by
    intro e
    obtain ⟨_, _, cur, h3⟩ := ownsRow_lt hO.1 g rfl
    rw [← e, h] at h3; simp at h3
  have hgw := (ownsRow_lt hO.1 g rfl).2.1
  have hDw := (Array.getElem?_eq_some_iff.1 h).1
  have HP : Hid (PMine B1 U w ca ps) := hP
  have HOK : Hid (PsOk L ps) := hok
  have HHL : Hid (zs.length = L ∧ ps.length = m) := ⟨hL, hm⟩
  have HLN : Hid (∀ k, k ≤ m → (syL zs ps k).length = L) := fun k hk => by rw [syL_len (by rw [hL]; exact hok) (by rw [hL]; exact v1) k (by rw [hm]; exact hk), hL]
  have HROW : Hid _ := h
  have HOWN : Hid (Own w B (.slice (some ⟨g, 0, none⟩) L gc) zs) := hO
  have HBURN := burn_yes D _ _ f false w h hf hf2
  clear h hO hP hok hL hm
  go_enter Try.func36, Try.ntmps36
  go_wp2_with fail
  refine HBURN.mono ?_
  clear HBURN HROW
  rintro e w1 ⟨rfl, hr1, hw1⟩
  obtain ⟨F, hF⟩ : ∃ F, stF f = F := ⟨_, rfl⟩
  rw [hF] at hr1
  have HF : Hid (stF f = F) := hF
  clear hF
  have st1 : YS w w1 D g L gc B (.slice ca m cc) F (syL zs ps 0) := ⟨YR.of_wr hw1, hr1, Own.keep HOWN.out (fun k e => hw1.block k (by simp [Value.ownBlock] at e; omega))⟩
  obtain ⟨c0, c1, c2, c3⟩ := row4 st1.row
  have HS1 : Hid (YS w w1 D g L gc B (.slice ca m cc) F (syL zs ps 0)) := st1
  clear st1 hr1 hw1 HOWN
  go_wp2
  have st1 := HS1.out
  clear HS1 c0 c1 c2 c3
  go_loopw [11] (fun i wr => ∃ k : Nat, k ≤ m ∧ i = .int .i64 k ∧ YS w wr D g L gc B (.slice ca m cc) F (syL zs ps k)) (fun i _ => m - (intOf i).toNat)
  case atStart => exact ⟨0, Nat.zero_le _, rfl, st1⟩
  case round =>
    obtain ⟨k, hk, rfl, st⟩ := hrel
    clear st1
    have hlen := HLN.out k hk
    by_cases hlt : k < m
    · obtain ⟨s, hs, hsl, hd⟩ := PsOk.at_ HOK.out v1 (i := k) (by rw [HHL.out.2]; exact hlt)
      have hPr : PMine B1 U wr ca ps := PMine.keep HP.out (fun j hj hj' => st.yr.block j (by omega) (by omega) (by omega)) st.yr.size
      obtain ⟨b5, o5, b6, o6, c6, rfl, hb5, q1, q2, q3, q4⟩ := hPr.entry (i := k) (by rw [HHL.out.2]; exact hlt) (by rw [hd]; decide)
      have hnew := syL_succ (zs := zs) (by rw [HHL.out.2]; exact hlt) hs hd
      rw [hs] at q1
      rw [hd] at q2
      have hb6 : PMine B1 U wr (some ⟨b5, o5, none⟩) ps := hPr
      have hlt' : (k : Int) < m := by omega
      have HST : Hid (YS w wr D g L gc B (.slice (some ⟨b5, o5, none⟩) m cc) F (syL zs ps k)) := st
      have HNEW : Hid (syL zs ps (k + 1) = overL (syL zs ps k) s (ps.getD k (0, [])).2) := hnew
      have HD : Hid ((ps.getD k (0, [])).2.length = 64) := hd
      have HLK : Hid ((syL zs ps k).length = L) := hlen
      have HPR : Hid (PMine B1 U wr (some ⟨b5, o5, none⟩) ps) := hPr
      have HSEC : Hid (∀ ww : World, At .u8 ww (some ⟨b6, o6, none⟩) (ps.getD k (0, [])).2 → Calls Try.prog 30 #[.slice (some ⟨b6, o6, none⟩) 64 c6] ww fun e w' => e = .returned (secV ((ps.getD k (0, [])).2.take 64)) ∧ Below ww.heap.size ww w') := fun ww h1 => sectorOf_any (some ⟨b6, o6, none⟩) 64 c6 (ps.getD k (0, [])).2 ww hd (Nat.le_refl _) h1
      have HQ4 : Hid (At .u8 wr (some ⟨b6, o6, none⟩) (ps.getD k (0, [])).2) := q4
      have hgw' : g < wr.heap.size := by have := st.yr.size; omega
      have hb6b : ∃ j6, j6 = b6 ∧ b6 ≠ g := by
        refine ⟨b6, rfl, ?_⟩
        rcases hPr with h | ⟨gg, oo, X, C, e1, e2, e3, e4, e5, e6⟩
        · have := HHL.out.2; rw [h] at this; simp at this; omega
        · obtain ⟨p1, p2, p3, p4, p5, p6, p7⟩ := e5 k (by rw [HHL.out.2]; exact hlt)
          cases e1
          rw [p3, hd] at q2
          simp at q2
          have := p6 ⟨b6, o6, none⟩ q2.1
          have h1 : B1 ≤ b6 := this.1
          omega
      obtain ⟨_, _, hb6g⟩ := hb6b
      clear st hnew hd hlen q4 hPr hb6 hs
      go_wp2_with (refine wpList_storeW rfl 44 (.tmp 3) (.tmp 14) rfl wr.heap.size #[.int .i64 s, .slice (some ⟨b6, o6, none⟩) 64 c6] rfl rfl 44 _ (heap_alloc_new wr _) HSP.out rfl (all2p _ _ _ _) ?_)
      intro w3 hr3 hw3
      have hb3 : Below wr.heap.size wr w3 := ((Below.refl _ _).alloc (Nat.le_refl _) _).trans (hw3.below (Nat.le_refl _))
      have hPl : wr.heap.size < w3.heap.size := (Array.getElem?_eq_some_iff.1 hr3).1
      have HX3 : Hid (YX w w3 D g L gc B (.slice (some ⟨b5, o5, none⟩) m cc) F wr.heap.size s #[.int .i64 s, .slice (some ⟨b6, o6, none⟩) 64 c6] (syL zs ps k)) :=
        ⟨⟨_, YS.grow HST.out hb3, HLK.out, rfl, rfl⟩, hr3, hgw'⟩
      have HA3 : Hid (At .u8 w3 (some ⟨b6, o6, none⟩) (ps.getD k (0, [])).2) := At.below HQ4.out hb3
      clear hr3 hw3 hb3 HST HQ4 q1 q2 hb5
      generalize wr.heap.size = P at *
      have hdl : ((ps.getD k (0, [])).2.take 64).length = 64 := by rw [List.length_take, HD.out]; rfl
      have HDL : Hid (((ps.getD k (0, [])).2.take 64).length = 64) := hdl
      have HMIX : Hid (∀ yy : List Int, yy.length = L → yy.take (s * 64) = (syL zs ps k).take (s * 64) → yy.drop (s * 64 + 64) = (syL zs ps k).drop (s * 64 + 64) → overL yy s ((ps.getD k (0, [])).2.take 64) = syL zs ps (k + 1)) := by
        intro yy h1 h2 h3
        have hdt : (ps.getD k (0, [])).2.take 64 = (ps.getD k (0, [])).2 := List.take_of_length_le (by rw [HD.out]; exact Nat.le_refl _)
        rw [HNEW.out, hdt]
        unfold overL; rw [HD.out, h2, h3]
      obtain ⟨Y, hY⟩ : ∃ Y, syL zs ps (k + 1) = Y := ⟨_, rfl⟩
      obtain ⟨dz, hdz⟩ : ∃ dz, (ps.getD k (0, [])).2.take 64 = dz := ⟨_, rfl⟩
      rw [hdz] at HDL HSEC
      rw [hdz, hY] at HMIX
      have HY : Hid (syL zs ps (k + 1) = Y) := hY
      clear hlt' HNEW hdl hY hdz HLK
      go_wp2_with fail
      refine wp_region_any (by kernel_rfl) ?_
      refine wpAny_slots2 (frame := (fun (c0 c1 c2 c3 c4 c5 c6 c7 c8 c9 c10 c11 c12 c13 c14 c22 c23 c24 c25 : Value) => fun (t : Nat → Value) => ({ tmps := List.toArray (c0 :: c1 :: c2 :: c3 :: c4 :: c5 :: c6 :: c7 :: c8 :: c9 :: c10 :: c11 :: c12 :: c13 :: c14 :: t 0 :: t 1 :: t 2 :: t 3 :: t 4 :: t 5 :: t 6 :: c22 :: c23 :: c24 :: c25 :: []), defers := [] } : Act)) _ _ _ _ _ _ _ _ _ _ _ _ _ _ _ _ _ _ _)
        (Ext := fun w' => YX w w' D g L gc B (.slice (some ⟨b5, o5, none⟩) m cc) F P s #[.int .i64 s, .slice (some ⟨b6, o6, none⟩) 64 c6] (syL zs ps k) ∧ At .u8 w' (some ⟨b6, o6, none⟩) (ps.getD k (0, [])).2) (Good := GZ w D g L gc B (.slice (some ⟨b5, o5, none⟩) m cc) F P s b6 o6 c6 dz Y) (M := fun i w w' => i ≠ 6 → Below w.heap.size w w') ?hstab (by kernel_rfl) ?hop ?hdone _ _ ((fun (x0 x1 x2 x3 x4 x5 x6 : Value) => fun (i : Nat) => if i = 0 then x0 else if i = 1 then x1 else if i = 2 then x2 else if i = 3 then x3 else if i = 4 then x4 else if i = 5 then x5 else if i = 6 then x6 else undef) _ _ _ _ _ _ _) _ (by simp) ?ext ?start ?clo (by simp)
      case start => intro i hi h; exact absurd h (by rw [Array.getD_eq_getD_getElem?, Array.getElem?_replicate]; split <;> simp)
      case clo => intro i o ho h; exact absurd h (by rw [Array.getD_eq_getD_getElem?, Array.getElem?_replicate]; split <;> simp)
      case ext => exact ⟨YX.grow HX3.out (Below.refl _ _).drew, At.below HA3.out (Below.refl _ _).drew⟩
      case hstab =>
        intro j o w1 w2 u i v ho hM hij _ hg
        have hj : j < 7 := (Array.getElem?_eq_some_iff.1 ho).1
        obtain rfl | rfl | rfl | rfl | rfl | rfl | rfl : j = 0 ∨ j = 1 ∨ j = 2 ∨ j = 3 ∨ j = 4 ∨ j = 5 ∨ j = 6 := by omega
        all_goals simp only [GZ] at hg ⊢
        all_goals first
          | (rw [upd_ne2 hij]; exact hg)
          | exact hg.grow (hM hij)
      case hdone =>
        intro t w2 hx hg
        have h9 := hg 6 (by decide)
        have H9 : Hid _ := h9
        clear hg hx h9
        dsimp only
        generalize t 0 = t0
        generalize t 1 = t1
        generalize t 2 = t2
        generalize t 3 = t3
        generalize t 4 = t4
        generalize t 5 = t5
        generalize t 6 = t6
        go_wp2
        go_roundw
        case rel => exact ⟨k + 1, by omega, by go_num, by rw [HY.out]; exact H9.out⟩
        case measure => simp [intOf]; omega
      case hop =>
        intro i o t w' ho hx hdep K hK
        obtain ⟨hx, hAx⟩ := hx
        have hi : i < 7 := (Array.getElem?_eq_some_iff.1 ho).1
        obtain ⟨p0, p1⟩ := row2 hx.pbx
        obtain ⟨yy, hil, hyl, hy1, hy2⟩ := hx.st
        have HIL : Hid (YS w w' D g L gc B (.slice (some ⟨b5, o5, none⟩) m cc) F yy) := hil
        clear hil
        obtain rfl | rfl | rfl | rfl | rfl | rfl | rfl : i = 0 ∨ i = 1 ∨ i = 2 ∨ i = 3 ∨ i = 4 ∨ i = 5 ∨ i = 6 := by omega
        all_goals (simp at ho; subst ho)
        · clear hdep
          go_simp
          exact hK w' (.pointer (some ⟨D, 0, none⟩)) rfl ⟨hx, hAx⟩ (fun _ => Below.refl _ _)
        · clear hdep
          go_simp
          exact hK w' (.pointer (some ⟨P, 0, none⟩)) rfl ⟨hx, hAx⟩ (fun _ => Below.refl _ _)
        · have d1 : t 1 = _ := hdep ⟨1, .data⟩ (by simp) rfl
          clear hdep
          go_simp
          simpa [upd, d1] using hK w' (.int .i64 s) rfl ⟨hx, hAx⟩ (fun _ => Below.refl _ _)
        · clear hdep
          go_simp
          exact hK w' (.pointer (some ⟨P, 1, none⟩)) rfl ⟨hx, hAx⟩ (fun _ => Below.refl _ _)
        · have d3 : t 3 = _ := hdep ⟨3, .data⟩ (by simp) rfl
          clear hdep
          go_simp
          simpa [upd, d3] using hK w' (.slice (some ⟨b6, o6, none⟩) 64 c6) rfl ⟨hx, hAx⟩ (fun _ => Below.refl _ _)
        · have d4 : t 4 = _ := hdep ⟨4, .data⟩ (by simp) rfl
          clear hdep
          have e := HSEC.out w' hAx
          go_simp
          refine e.mono ?_
          rintro e w9 ⟨rfl, hb9⟩
          have hK' := hK w9 (secV dz) rfl ⟨hx.grow hb9, hAx.below hb9⟩ (fun _ => hb9)
          clear hK
          go_simp
          simpa [upd, d4] using hK'
        · have d0 : t 0 = _ := hdep ⟨0, .data⟩ (by simp) rfl
          have d2 : t 2 = _ := hdep ⟨2, .data⟩ (by simp) rfl
          have d5 : t 5 = _ := hdep ⟨5, .data⟩ (by simp) rfl
          clear hdep
          have hmix := HMIX.out yy hyl hy1 hy2
          have hdl := HDL.out
          have hst := store_any D g L gc (some ⟨b5, o5, none⟩) m cc F false s B yy dz w' HIL.out.row HIL.out.own hyl hz hdl hsl
          have hov : (overL yy s dz).length = L := by rw [overL_len _ _ _ (by omega)]; exact hyl
          have htk : (overL yy s dz).take (s * 64) = yy.take (s * 64) := by
            unfold overL; rw [List.take_append_of_le_length (by simp; omega), List.take_take, Nat.min_self]
          have hdr : (overL yy s dz).drop (s * 64 + 64) = yy.drop (s * 64 + 64) := by
            unfold overL; rw [hdl, ← List.append_assoc, List.drop_append_of_le_length (by rw [List.length_append, hdl, List.length_take]; omega), List.drop_eq_nil_of_le (by rw [List.length_append, hdl, List.length_take]; omega)]; simp
          rw [hmix] at hst hov htk hdr
          rw [hy1] at htk
          rw [hy2] at hdr
          have HFIN : Hid _ := And.intro hov (And.intro htk hdr)
          clear hov htk hdr hmix hdl hy1 hy2
          go_simp
          refine hst.mono ?_
          rintro e w9 ⟨rfl, ho9, hc9⟩
          have st9 := YS.turn HIL.out hc9 hDg ho9
          have hPl' : P < w'.heap.size := (Array.getElem?_eq_some_iff.1 hx.pbx).1
          have hgp := hx.gp
          have hX9 : YX w w9 D g L gc B (.slice (some ⟨b5, o5, none⟩) m cc) F P s #[.int .i64 s, .slice (some ⟨b6, o6, none⟩) 64 c6] (syL zs ps k) :=
            ⟨⟨_, st9, HFIN.out.1, HFIN.out.2.1, HFIN.out.2.2⟩, by rw [hc9.block _ hPl' (.inr (by omega))]; exact hx.pbx, hgp⟩
          have hA9 : At .u8 w9 (some ⟨b6, o6, none⟩) (ps.getD k (0, [])).2 := hAx.keep (fun ad e => by
            cases e
            rcases hAx with h | ⟨bb, oo, e1, e2, _⟩
            · have := HD.out; rw [h] at this; simp at this
            · cases e1; exact hc9.block b6 e2 (by omega)) hc9.size
          have hK' := hK w9 (.tuple #[]) st9 ⟨hX9, hA9⟩ (fun h => absurd rfl h)
          clear hK
          go_simp
          simpa [upd, d0, d2, d5] using hK'
    · have hkm : k = m := by omega
      subst hkm
      have hlt' : ¬ (k : Int) < k := by omega
      obtain ⟨c0, c1, c2, c3⟩ := row4 st.row
      have f1 := frozen_of_row wr D 1 _ _ st.row
      have HR : Hid ((wr.setCell ⟨D, 1, none⟩ (.slice none 0 0)).heap[D]? = some (.cells #[.slice (some ⟨g, 0, none⟩) L gc, .slice none 0 0, .int .i64 F, .bool false] 29 (0, 0))) := row_setCell (i := 1) _ st.row rfl
      have hwr : Wr D wr (wr.setCell ⟨D, 1, none⟩ (.slice none 0 0)) := (Wr.refl D wr).setCell 1 _
      have HO : Hid (Own (wr.setCell ⟨D, 1, none⟩ (.slice none 0 0)) B (.slice (some ⟨g, 0, none⟩) L gc) (syL zs ps k)) := st.own.keep (fun j e => hwr.block j (by simp [Value.ownBlock] at e; omega))
      have HY : Hid (YR D g w (wr.setCell ⟨D, 1, none⟩ (.slice none 0 0))) := st.yr.trans (YR.of_wr hwr)
      clear st hwr hlen
      go_wp2
      first | go_end0 | go_ret
      exact ⟨rfl, by rw [HF.out]; exact HR.out, HO.out, HY.out⟩
end Go.Proofs.Ytiignammhieidaa
