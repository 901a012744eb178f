/-
  Own work: the model's crash.
-/
import Derived.Test.YthghkfncpdnpoadCrsM
import Derived.Test.YthghkfncpdnpoadQRow
import Derived.Test.YthghkfncpdnpoadDevLaw
import Derived.Test.YthghkfncpdnpoadReg4
namespace Go.Proofs.Ythghkfncpdnpoad
open Go.ChangeShapes Go.WideShapes Go.ChangeAt Go.RowKit
set_option linter.unusedVariables false

/-- The boxes of the two parameters stand. -/
structure BX (w wr : World) (C1 C2 : Array Value) : Prop where
  below : Below w.heap.size w wr
  b1 : wr.heap[w.heap.size]? = some (.cells C1 69 (0, 0))
  b2 : wr.heap[w.heap.size + 1]? = some (.cells C2 72 (0, 0))
  b3 : wr.heap[w.heap.size + 1 + 1]? = some (.cells #[.slice none 0 0, .slice none 0 0, .int .i64 0, .bool false] 69 (0, 0))
theorem BX.grow {w wr w' : World} {C1 C2 : Array Value} (h : BX w wr C1 C2) (hb : Below wr.heap.size wr w') : BX w w' C1 C2 :=
  ⟨h.below.trans (hb.mono h.below.size), by rw [hb.block _ (Array.getElem?_eq_some_iff.1 h.b1).1]; exact h.b1, by rw [hb.block _ (Array.getElem?_eq_some_iff.1 h.b2).1]; exact h.b2, by rw [hb.block _ (Array.getElem?_eq_some_iff.1 h.b3).1]; exact h.b3⟩
theorem BX.start (w : World) (C1 C2 : Array Value) : BX w (((w.alloc (.cells C1 69)).alloc (.cells C2 72)).alloc (.cells #[.slice none 0 0, .slice none 0 0, .int .i64 0, .bool false] 69)) C1 C2 := by
  have h2 := (Below.refl _ (w.alloc (.cells C1 69))).alloc (Nat.le_refl _) (.cells C2 72)
  have h3 := (Below.refl _ ((w.alloc (.cells C1 69)).alloc (.cells C2 72))).alloc (Nat.le_refl _) (.cells #[.slice none 0 0, .slice none 0 0, .int .i64 0, .bool false] 69)
  refine ⟨(((Below.refl w.heap.size w).alloc (Nat.le_refl _) (.cells C1 69)).alloc (by simp) (.cells C2 72)).alloc (by simp; omega) (.cells #[.slice none 0 0, .slice none 0 0, .int .i64 0, .bool false] 69), ?_, ?_, ?_⟩
  · rw [h3.block _ (by simp; omega), h2.block _ (by simp)]; exact heap_alloc_new w _
  · rw [h3.block _ (by simp)]
    have := heap_alloc_new (w.alloc (.cells C1 69)) (.cells C2 72)
    simpa using this
  · have := heap_alloc_new ((w.alloc (.cells C1 69)).alloc (.cells C2 72)) (.cells #[.slice none 0 0, .slice none 0 0, .int .i64 0, .bool false] 69)
    simpa using this
theorem row3 {w : World} {g : Nat} {t : TypeId} {a0 a1 a2 : Value} (h : w.heap[g]? = some (.cells #[a0, a1, a2] t (0, 0))) :
    w.cell? ⟨g, 0, none⟩ = some a0 ∧ w.cell? ⟨g, 1, none⟩ = some a1 ∧ w.cell? ⟨g, 2, none⟩ = some a2 :=
  ⟨cell_of_row _ _ _ _ _ _ h, cell_of_row _ _ _ _ _ _ h, cell_of_row _ _ _ _ _ _ h⟩
theorem all4e (a a' : Option Addr) (l l' c c' : Nat) (f : Int) (d : Bool) : (#[Value.slice a l c, .slice a' l' c', .int .i64 f, .bool d].all (fun v => v.oneCell')) = true := by simp [Value.oneCell']
theorem Try.sizeDv : (Try.prog.info? 69).map (·.size) = some 4 := by kernel_rfl
theorem crZ_no {zs : List Int} {ps : List PD} {f : Int} {bs : List Bool} {t u : Int} (h : validB zs.length ps f = false) : crZ zs ps f bs t u = [] ∧ crF zs.length ps f = 0 := by unfold crZ crF; rw [h]; exact ⟨rfl, rfl⟩
theorem crZ_yes {zs : List Int} {ps : List PD} {f : Int} {bs : List Bool} {t u : Int} (h : validB zs.length ps f = true) : crZ zs ps f bs t u = crL zs ps bs t u ps.length ∧ crF zs.length ps f = -1 := by unfold crZ crF; rw [h]; exact ⟨rfl, rfl⟩

theorem PMine.entry {B U : Nat} {w : World} {a : Option Addr} {ps : List PD} (h : PMine B U w a ps) {i : Nat} (hi : i < ps.length) (hz : 0 < (ps.getD i (0, [])).2.length) :
    ∃ b off b' off' c, a = some ⟨b, off, none⟩ ∧ b < w.heap.size ∧ w.cell? ⟨b, off + i * 2, none⟩ = some (.int .i64 (ps.getD i (0, [])).1) ∧
      w.cell? ⟨b, off + i * 2 + 1, none⟩ = some (.slice (some ⟨b', off', none⟩) (ps.getD i (0, [])).2.length c) ∧ (ps.getD i (0, [])).2.length ≤ c ∧ At .u8 w (some ⟨b', off', none⟩) (ps.getD i (0, [])).2 := by
  rcases h with h | ⟨g, o, X, C, ha, hB, hg, hU, h1, h2⟩
  · subst h; simp at hi
  · obtain ⟨p1, p2, p3, p4, p5, p6, p7⟩ := h1 i hi
    obtain ⟨b', off', e, _, _⟩ := p4.get hz
    rw [e] at p3 p4
    exact ⟨g, o, b', off', C i, ha, by omega, p1, p3, p7, p4⟩
theorem At.take {k : IntKind} {w : World} {a : Option Addr} {zs : List Int} (h : At k w a zs) (n : Nat) : At k w a (zs.take n) := by
  rcases h with h | ⟨b, off, e, hl, hc⟩
  · left; simp [h]
  · exact .inr ⟨b, off, e, hl, fun i hi => by
      have hi' : i < n ∧ i < zs.length := by simp at hi; omega
      rw [hc i hi'.2]; simp [List.getD, hi'.1]⟩

/-- A device without pending writes, its disk of the call's own. -/
def DPl (w : World) (B : Nat) (r : Value) (R : List Int) (F : Int) : Prop := ∃ dv, r = .agg #[dv, .slice none 0 0, .int .i64 F, .bool false] ∧ OwnN w B dv R
theorem DPl.mine {w : World} {B : Nat} {r : Value} {R : List Int} {F : Int} (h : DPl w B r R F) (hB : B ≤ w.heap.size) : DMine B w.heap.size w r R [] F false := by
  obtain ⟨dv, rfl, ⟨rfl, rfl⟩ | h⟩ := h
  · exact DMine.nil _ _ _ hB (Nat.le_refl _) _ _
  · exact DMine.plain _ _ h rfl

/-- The state of the model's loop. -/
structure SL (w wr : World) (C1 C2 : Array Value) (dv : Value) (y : List Int) : Prop where
  box : BX w wr C1 C2
  own : Own wr w.heap.size dv y

theorem SL.grow {w wr w' : World} {C1 C2 : Array Value} {dv : Value} {y : List Int} (h : SL w wr C1 C2 dv y) (hb : Below wr.heap.size wr w') : SL w w' C1 C2 dv y :=
  ⟨h.box.grow hb, h.own.keep (fun k hk => hb.block k (ownsRow_lt h.own.1 k hk).2.1)⟩
def GC (D g L gc b5 o5 m cx k s b6 o6 c6 : Nat) : Nat → Value → Prop
  | 0, v => v = .slice (some ⟨g, 0, none⟩) L gc
  | 1, v => v = .pointer (some ⟨D, 1, none⟩)
  | 2, v => v = .slice (some ⟨b5, o5, none⟩) m cx
  | 3, v => v = .int .i64 k
  | 4, v => v = .pointer (some ⟨b5, o5 + k * 2, none⟩)
  | 5, v => v = .pointer (some ⟨b5, o5 + k * 2, none⟩)
  | 6, v => v = .int .i64 s
  | 7, v => v = .pointer (some ⟨D, 1, none⟩)
  | 8, v => v = .slice (some ⟨b5, o5, none⟩) m cx
  | 9, v => v = .int .i64 k
  | 10, v => v = .pointer (some ⟨b5, o5 + k * 2, none⟩)
  | 11, v => v = .pointer (some ⟨b5, o5 + k * 2 + 1, none⟩)
  | _, v => v = .slice (some ⟨b6, o6, none⟩) 64 c6
def GT (D g L gc b5 o5 m cx k s b6 o6 c6 n0 B : Nat) (Y : List Int) (i : Nat) (w : World) (v : Value) : Prop :=
  match i with
  | 13 => v = .int .i64 n0
  | 14 => v = .slice (some ⟨b6, o6, none⟩) n0 c6
  | 15 => Own w B v Y
  | i => GC D g L gc b5 o5 m cx k s b6 o6 c6 i v
def GK (D g L gc b5 o5 m cx k s b6 o6 c6 B : Nat) (Y : List Int) (i : Nat) (w : World) (v : Value) : Prop :=
  match i with
  | 13 => Own w B v Y
  | i => GC D g L gc b5 o5 m cx k s b6 o6 c6 i v
theorem Own.grow {w w' : World} {B : Nat} {v : Value} {zs : List Int} (h : Own w B v zs) (hb : Below w.heap.size w w') : Own w' B v zs := h.keep (fun k hk => hb.block k (ownsRow_lt h.1 k hk).2.1)
theorem GT_mono (D g L gc b5 o5 m cx k s b6 o6 c6 n0 B : Nat) (Y : List Int) (i : Nat) (w w' : World) (v : Value) (hm : Below w.heap.size w w') (h : GT D g L gc b5 o5 m cx k s b6 o6 c6 n0 B Y i w v) : GT D g L gc b5 o5 m cx k s b6 o6 c6 n0 B Y i w' v := by
  unfold GT at *
  split at h <;> first | exact h | exact h.grow hm
theorem GK_mono (D g L gc b5 o5 m cx k s b6 o6 c6 B : Nat) (Y : List Int) (i : Nat) (w w' : World) (v : Value) (hm : Below w.heap.size w w') (h : GK D g L gc b5 o5 m cx k s b6 o6 c6 B Y i w v) : GK D g L gc b5 o5 m cx k s b6 o6 c6 B Y i w' v := by
  unfold GK at *
  split at h <;> first | exact h | exact h.grow hm

set_option maxHeartbeats 4000000 in
set_option maxRecDepth 100000 in
theorem scr_any (v vc : Value) (zs : List Int) (ps : List PD) (f : Int) (d : Bool) (bs : List Bool) (tt u : Int) (B U : Nat) (w : World) (h : DMine B U w v zs ps f d) (hc : CAt w vc bs tt u) (hz : zs.length ≤ 1048576) (hn : ps.length ≤ 1048576) (hps : ∀ i, (ps.getD i (0, [])).2.length ≤ 1048576) (hbs : bs.length ≤ 1048576) :
    Calls Try.prog 23 #[v, vc] w fun e w' => ∃ r, e = .returned r ∧ DPl w' w.heap.size r (crZ zs ps f bs tt u) (crF zs.length ps f) ∧ Below w.heap.size w w' := by
  have HSD : Hid _ := Try.sizeDv
  have HV := sval_any v zs ps f d
  have hD := h.at_
  obtain ⟨a, cap, x, cx, B1, rfl, hA, _, _, _, _, _, hP, hcap⟩ := h
  obtain ⟨y, cy, rfl, hB⟩ := hc
  have HNO : Hid (validB zs.length ps f = false → crZ zs ps f bs tt u = [] ∧ crF zs.length ps f = 0) := crZ_no
  have HYES : Hid (validB zs.length ps f = true → crZ zs ps f bs tt u = crL zs ps bs tt u ps.length ∧ crF zs.length ps f = -1) := crZ_yes
  have HVO : Hid (validB zs.length ps f = true → vBase zs.length ps.length f ∧ PsOk zs.length ps) := validB_of
  generalize hL : zs.length = L at *
  generalize hm : ps.length = m at *
  generalize hq : bs.length = q at *
  have HS0 : Hid _ := BX.start w #[.slice a L cap, .slice x m cx, .int .i64 f, .bool d] #[.slice y q cy, .int .i64 tt, .int .i64 u]
  cases hval : validB L ps f with
  | false =>
    obtain ⟨e1, e2⟩ := HNO.out hval
    rw [e1, e2]
    clear e1 e2 HNO HYES HVO
    go_enter Try.func23, Try.ntmps23
    go_wp2_with fail
    refine (HV _ (hD.below HS0.out.below) hz hn hps).mono ?_
    clear HV hD
    rintro e w1 ⟨rfl, hb1⟩
    have st1 := BX.grow HS0.out hb1
    rw [hval]
    have HB3 : Hid _ := st1.b3
    have HBL : Hid _ := st1.below
    clear HS0 hb1 st1
    go_wp2_with (refine wpList_store_row rfl 69 (.tmp 4) (.tmp 11) rfl (w.heap.size + 1 + 1) #[.slice none 0 0, .slice none 0 0, .int .i64 0, .bool false] rfl rfl 69 _ HB3.out HSD.out rfl (all4e _ _ _ _ _ _ _ _) ?_)
    (try simp only [Exit.inBlock, Exit.then])
    refine bodyPost_ret (v := .agg #[.slice none 0 0, .slice none 0 0, .int .i64 0, .bool false]) (results_cell_row rfl _ _ (w.heap.size + 1 + 1) 69 _ (0, 0) _ rfl (setRow_heap _ _ _ _ _ _ HB3.out) Try.underlying69 rfl HSD.out) rfl ⟨_, rfl, ?_, ?_⟩
    · have hsz : w.heap.size ≤ (w1.setRow (w.heap.size + 1 + 1) #[.slice none 0 0, .slice none 0 0, .int .i64 0, .bool false]).heap.size := by rw [size_setRow]; exact HBL.out.size
      exact ⟨_, rfl, .inl ⟨rfl, rfl⟩⟩
    · exact HBL.out.trans ((Wr.setRow _ _ _).below (by omega))
  | true =>
    obtain ⟨e1, e2⟩ := HYES.out hval
    obtain ⟨⟨v1, v2, v3, v4, v5, v6⟩, hok⟩ := HVO.out hval
    rw [e1, e2]
    clear e1 e2 HNO HYES HVO
    obtain ⟨b, off, rfl, hbl, hAc⟩ := hA.get (by omega)
    go_enter Try.func23, Try.ntmps23
    go_wp2_with fail
    refine (HV _ (hD.below HS0.out.below) hz hn hps).mono ?_
    clear HV hD
    rintro e w1 ⟨rfl, hb1⟩
    have st1 := BX.grow HS0.out hb1
    rw [hval]
    clear HS0 hb1
    obtain ⟨c0, c1, c2, c3⟩ := row4 st1.b1
    obtain ⟨k0, k1, k2⟩ := row3 st1.b2
    have hs1 := st1.below.size
    have hs1' : w.heap.size + 1 + 1 < w1.heap.size := (Array.getElem?_eq_some_iff.1 st1.b3).1
    have c0' : (w1.alloc (.cells #[] 5)).cell? ⟨w.heap.size, 0, none⟩ = some (.slice (some ⟨b, off, none⟩) L cap) := by
      rw [((Below.refl w1.heap.size w1).alloc (Nat.le_refl _) _).cell (p := ⟨w.heap.size, 0, none⟩) (by show w.heap.size < w1.heap.size; omega)]; exact c0
    have HS1 : Hid _ := st1
    have hN : ∀ j, j < L → (w1.alloc (.cells #[] 5)).cell? ((⟨b, off, none⟩ : Addr).add j) = some (.int .u8 (zs.getD j 0)) := by
      intro j hj
      have hb2 := st1.below.trans (((Below.refl w1.heap.size w1).alloc (Nat.le_refl _) (.cells #[] 5)).mono hs1)
      rw [Addr.add_lit, hb2.cell (p := ⟨b, off + j, none⟩) hbl]
      exact hAc j (by omega)
    have HN : Hid _ := hN
    have HP : Hid (PMine B1 U w x ps) := hP
    have HB : Hid (BAt w y bs) := hB
    have HOK : Hid (PsOk L ps) := hok
    have HRT : Hid _ := fun (i : Nat) (hi : (i : Int) = tt) => rch_tear (bs := bs) (u := u) hi
    have HRK : Hid _ := fun (i : Nat) (hi : ¬ (i : Int) = tt) (hk : bs.getD i false = true) => rch_keep (u := u) hi hk
    have HRN : Hid _ := fun (i : Nat) (hi : ¬ (i : Int) = tt) (hk : bs.getD i false = false) => rch_no (u := u) hi hk
    have HLEN : Hid _ := fun k hk => crL_len (zs := zs) (bs := bs) (t := tt) (u := u) (by rw [hL]; exact hok) (by rw [hL]; exact v1) k hk
    have HHL : Hid _ := hL
    have HHM : Hid _ := hm
    have HHQ : Hid _ := hq
    clear hN hP hB hok hAc st1 hL hm hq
    obtain ⟨n0, hn0, hn1, hcase⟩ : ∃ n0 : Nat, n0 ≤ 64 ∧ (min (max u 0) 64).toNat = n0 ∧ ((u < 0 ∧ n0 = 0) ∨ u = n0 ∨ (64 < u ∧ n0 = 64)) := ⟨_, by omega, rfl, by omega⟩
    have HN1 : Hid _ := hn1
    clear hn1
    rcases hcase with ⟨hu, hn2⟩ | hu | ⟨hu, hn2⟩
    all_goals (
      try (have hu3 : ¬ u > 64 := by omega)
      try (have hu4 : ¬ u < 0 := by omega)
      try (have H5' : Hid (u = (n0 : Int)) := hu; clear hu)
      go_wp2_with (at_builtin; refine wpList_app _ rfl _ _ rfl w1.heap.size _ _ rfl (Own.empty w1 w1.heap.size (Nat.le_refl _)) ⟨b, off, none⟩ L cap zs rfl HHL.out HN.out ?c2 ?c3 ?_)
      (try (case c2 => first | omega | (simp; omega)))
      (try (case c3 => first | omega | (simp; try omega)))
      intro v2 w2 ho2 hb2 _
      have st2 : SL w w2 #[.slice (some ⟨b, off, none⟩) L cap, .slice x m cx, .int .i64 f, .bool d] #[.slice y q cy, .int .i64 tt, .int .i64 u] v2 zs :=
        ⟨BX.grow HS1.out (((Below.refl _ w1).alloc (Nat.le_refl _) _).trans hb2), Own.mono (by simpa using ho2) hs1⟩
      have HS2 : Hid _ := st2
      clear ho2 hb2 st2 HS1 c0 c1 c2 c3 k0 k1 k2 HN c0'
      go_wp2
      have st2 := HS2.out
      go_loopw [6, 7] (fun dv i wr => ∃ k : Nat, k ≤ m ∧ i = .int .i64 k ∧ SL w wr #[.slice (some ⟨b, off, none⟩) L cap, .slice x m cx, .int .i64 f, .bool d] #[.slice y q cy, .int .i64 tt, .int .i64 u] dv (crL zs ps bs tt u k)) (fun _ i _ => m - (intOf i).toNat)
      case atStart => exact ⟨0, Nat.zero_le _, rfl, st2⟩
      case round =>
        obtain ⟨k, hk, rfl, st⟩ := hrel
        clear st2 HS2
        obtain ⟨c0, c1, c2, c3⟩ := row4 st.box.b1
        obtain ⟨k0, k1, k2⟩ := row3 st.box.b2
        obtain ⟨g, gc, rfl, hg1, hg2, hg3⟩ := st.own.base
        have hlen := HLEN.out k (by rw [HHM.out]; exact hk)
        rw [HHL.out] at hlen
        rw [hlen] at st hg3 ⊢
        by_cases hlt : k < m
        · obtain ⟨s, hs, hsl, hd⟩ := PsOk.at_ HOK.out v1 (i := k) (by rw [HHM.out]; exact hlt)
          obtain ⟨b5, o5, b6, o6, c6, rfl, hb5, q1, q2, q3, q4⟩ := (PMine.below HP.out st.box.below).entry (i := k) (by rw [HHM.out]; exact hlt) (by rw [hd]; decide)
          rw [hs] at q1
          rw [hd] at q2 q3
          have hlt' : (k : Int) < m := by omega
          have hnew : crL zs ps bs tt u (k + 1) = overL (crL zs ps bs tt u k) s ((ps.getD k (0, [])).2.take (rch bs tt u k)) := by
            show overL _ _ _ = _
            rw [hs]; simp
          have HST : Hid (SL w wr #[.slice (some ⟨b, off, none⟩) L cap, .slice (some ⟨b5, o5, none⟩) m cx, .int .i64 f, .bool d] #[.slice y q cy, .int .i64 tt, .int .i64 u] (.slice (some ⟨g, 0, none⟩) L gc) (crL zs ps bs tt u k)) := st
          have HNEW : Hid _ := hnew
          have HLN : Hid _ := hlen
          have HD : Hid _ := hd
          have HQ4 : Hid (At .u8 wr (some ⟨b6, o6, none⟩) (ps.getD k (0, [])).2) := q4
          clear st hnew hlen hd q4 hs
          by_cases ht : (k : Int) = tt
          · have hr := HRT.out k ht
            rw [HN1.out] at hr
            subst ht
            have HR : Hid _ := hr
            clear hr
            have hc6 : (64 : Int) ≤ c6 := by omega
            go_wp2_with fail
            clear hlt'
            first
              | (have H5 : Hid ((0 : Int) = n0) := by (show (0 : Int) = n0); omega)
              | (have H5 : Hid (u = (n0 : Int)) := H5')
              | (have H5 : Hid ((64 : Int) = n0) := by (show (64 : Int) = n0); omega)
            (try clear hn2)
            (try clear hu)
            (try clear hu3)
            (try clear hu4)
            refine wp_region_any (by kernel_rfl) ?_
            refine wpAny_slotsL 16 (fun w w' => Below w.heap.size w w') (frame := (fun (c0 c1 c2 c3 c4 c5 c6 c7 c8 c9 c10 c11 c12 c13 c14 c15 c16 c17 c18 c19 c20 c21 c22 c23 c24 c25 c26 c27 c28 c29 c30 c31 c32 c49 c50 c51 c52 c53 c54 c55 c56 c57 c58 c59 c60 c61 c62 c63 c64 c65 c66 c67 c68 c69 c70 c71 c72 c73 c74 c75 c76 : Value) => fun (t : Nat → Value) => ({ tmps := List.toArray (c0 :: c1 :: c2 :: c3 :: c4 :: c5 :: c6 :: c7 :: c8 :: c9 :: c10 :: c11 :: c12 :: c13 :: c14 :: c15 :: c16 :: c17 :: c18 :: c19 :: c20 :: c21 :: c22 :: c23 :: c24 :: c25 :: c26 :: c27 :: c28 :: c29 :: c30 :: c31 :: c32 :: t 0 :: t 1 :: t 2 :: t 3 :: t 4 :: t 5 :: t 6 :: t 7 :: t 8 :: t 9 :: t 10 :: t 11 :: t 12 :: t 13 :: t 14 :: t 15 :: c49 :: c50 :: c51 :: c52 :: c53 :: c54 :: c55 :: c56 :: c57 :: c58 :: c59 :: c60 :: c61 :: c62 :: c63 :: c64 :: c65 :: c66 :: c67 :: c68 :: c69 :: c70 :: c71 :: c72 :: c73 :: c74 :: c75 :: c76 :: []), defers := [] } : Act)) _ _ _ _ _ _ _ _ _ _ _ _ _ _ _ _ _ _ _ _ _ _ _ _ _ _ _ _ _ _ _ _ _ _ _ _ _ _ _ _ _ _ _ _ _ _ _ _ _ _ _ _ _ _ _ _ _ _ _ _ _)
              (Ext := fun w' => SL w w' #[.slice (some ⟨b, off, none⟩) L cap, .slice (some ⟨b5, o5, none⟩) m cx, .int .i64 f, .bool d] #[.slice y q cy, .int .i64 k, .int .i64 u] (.slice (some ⟨g, 0, none⟩) L gc) (crL zs ps bs k u k) ∧ Below wr.heap.size wr w') (Good := GT w.heap.size g L gc b5 o5 m cx k s b6 o6 c6 n0 wr.heap.size (crL zs ps bs k u (k + 1))) (by rfl) (by kernel_rfl) (GT_mono _ _ _ _ _ _ _ _ _ _ _ _ _ _ _ _) (by kernel_rfl) (by kernel_rfl) ?hop ?hend _ _ ((fun (x0 x1 x2 x3 x4 x5 x6 x7 x8 x9 x10 x11 x12 x13 x14 x15 : Value) => fun (i : Nat) => if i = 0 then x0 else if i = 1 then x1 else if i = 2 then x2 else if i = 3 then x3 else if i = 4 then x4 else if i = 5 then x5 else if i = 6 then x6 else if i = 7 then x7 else if i = 8 then x8 else if i = 9 then x9 else if i = 10 then x10 else if i = 11 then x11 else if i = 12 then x12 else if i = 13 then x13 else if i = 14 then x14 else if i = 15 then x15 else undef) _ _ _ _ _ _ _ _ _ _ _ _ _ _ _ _) _ (by simp) (by simp) ?ext ?start (by simp)
            case start => intro i hi h; exact absurd h (by rw [Array.getD_eq_getD_getElem?, Array.getElem?_replicate]; split <;> simp)
            case ext => exact ⟨SL.grow HST.out (Below.refl _ _).drew, (Below.refl _ _).drew⟩
            case hend =>
              intro o t w' ho hx hg K hK
              simp at ho; subst ho
              have hY := hg 15 (by decide)
              have st' : SL w w' #[.slice (some ⟨b, off, none⟩) L cap, .slice (some ⟨b5, o5, none⟩) m cx, .int .i64 f, .bool d] #[.slice y q cy, .int .i64 k, .int .i64 u] (t 15) (crL zs ps bs k u k.succ) := ⟨hx.1.box, Own.mono hY (by have := (SL.box HST.out).below.size; omega)⟩
              have HS' : Hid _ := st'
              clear hg hY st' hx
              go_simp
              apply hK
              generalize t 15 = tY at *
              generalize t 0 = t0
              generalize t 1 = t1
              generalize t 2 = t2
              generalize t 3 = t3
              generalize t 4 = t4
              generalize t 5 = t5
              generalize t 6 = t6
              generalize t 7 = t7
              generalize t 8 = t8
              generalize t 9 = t9
              generalize t 10 = t10
              generalize t 11 = t11
              generalize t 12 = t12
              generalize t 13 = t13
              generalize t 14 = t14
              (try simp only [Exit.inBlock, Exit.then])
              go_wp2
              go_roundw
              case rel => exact ⟨k + 1, by omega, by go_num, HS'.out⟩
              case measure => simp [intOf]; omega
            case hop =>
              intro i o t w' hil ho hx hdep K hK
              obtain ⟨hx, hxb⟩ := hx
              obtain ⟨c0, c1, c2, c3⟩ := row4 hx.box.b1
              have q1' : w'.cell? ⟨b5, o5 + k * 2, none⟩ = some (.int .i64 s) := by rw [hxb.cell (p := ⟨b5, o5 + k * 2, none⟩) hb5]; exact q1
              have q2' : w'.cell? ⟨b5, o5 + k * 2 + 1, none⟩ = some (.slice (some ⟨b6, o6, none⟩) 64 c6) := by rw [hxb.cell (p := ⟨b5, o5 + k * 2 + 1, none⟩) hb5]; exact q2
              clear q1 q2
              obtain rfl | rfl | rfl | rfl | rfl | rfl | rfl | rfl | rfl | rfl | rfl | rfl | rfl | rfl | rfl | rfl : i = 0 ∨ i = 1 ∨ i = 2 ∨ i = 3 ∨ i = 4 ∨ i = 5 ∨ i = 6 ∨ i = 7 ∨ i = 8 ∨ i = 9 ∨ i = 10 ∨ i = 11 ∨ i = 12 ∨ i = 13 ∨ i = 14 ∨ i = 15 := by omega
              all_goals (simp at ho; subst ho)
              · clear hdep
                go_simp
                exact hK w' (.slice (some ⟨g, 0, none⟩) L gc) rfl ⟨hx, hxb⟩ (Below.refl _ _)
              · clear hdep
                go_simp
                exact hK w' (.pointer (some ⟨w.heap.size, 1, none⟩)) rfl ⟨hx, hxb⟩ (Below.refl _ _)
              · have d1 : t 1 = _ := hdep ⟨1, .data⟩ (by simp) rfl
                clear hdep
                go_simp
                simpa [upd, d1] using hK w' (.slice (some ⟨b5, o5, none⟩) m cx) rfl ⟨hx, hxb⟩ (Below.refl _ _)
              · clear hdep
                go_simp
                exact hK w' (.int .i64 k) rfl ⟨hx, hxb⟩ (Below.refl _ _)
              · have d2 : t 2 = _ := hdep ⟨2, .data⟩ (by simp) rfl
                have d3 : t 3 = _ := hdep ⟨3, .data⟩ (by simp) rfl
                clear hdep
                go_simp
                simpa [upd, d2, d3] using hK w' (.pointer (some ⟨b5, o5 + k * 2, none⟩)) rfl ⟨hx, hxb⟩ (Below.refl _ _)
              · have d4 : t 4 = _ := hdep ⟨4, .data⟩ (by simp) rfl
                clear hdep
                go_simp
                simpa [upd, d4] using hK w' (.pointer (some ⟨b5, o5 + k * 2, none⟩)) rfl ⟨hx, hxb⟩ (Below.refl _ _)
              · have d5 : t 5 = _ := hdep ⟨5, .data⟩ (by simp) rfl
                clear hdep
                go_simp
                simpa [upd, d5] using hK w' (.int .i64 s) rfl ⟨hx, hxb⟩ (Below.refl _ _)
              · clear hdep
                go_simp
                exact hK w' (.pointer (some ⟨w.heap.size, 1, none⟩)) rfl ⟨hx, hxb⟩ (Below.refl _ _)
              · have d7 : t 7 = _ := hdep ⟨7, .data⟩ (by simp) rfl
                clear hdep
                go_simp
                simpa [upd, d7] using hK w' (.slice (some ⟨b5, o5, none⟩) m cx) rfl ⟨hx, hxb⟩ (Below.refl _ _)
              · clear hdep
                go_simp
                exact hK w' (.int .i64 k) rfl ⟨hx, hxb⟩ (Below.refl _ _)
              · have d8 : t 8 = _ := hdep ⟨8, .data⟩ (by simp) rfl
                have d9 : t 9 = _ := hdep ⟨9, .data⟩ (by simp) rfl
                clear hdep
                go_simp
                simpa [upd, d8, d9] using hK w' (.pointer (some ⟨b5, o5 + k * 2, none⟩)) rfl ⟨hx, hxb⟩ (Below.refl _ _)
              · have d10 : t 10 = _ := hdep ⟨10, .data⟩ (by simp) rfl
                clear hdep
                go_simp
                simpa [upd, d10] using hK w' (.pointer (some ⟨b5, o5 + k * 2 + 1, none⟩)) rfl ⟨hx, hxb⟩ (Below.refl _ _)
              · have d11 : t 11 = _ := hdep ⟨11, .data⟩ (by simp) rfl
                clear hdep
                go_simp
                simpa [upd, d11] using hK w' (.slice (some ⟨b6, o6, none⟩) 64 c6) rfl ⟨hx, hxb⟩ (Below.refl _ _)
              · clear hdep
                go_simp
                exact hK w' _ (congrArg (Value.int .i64) H5.out) ⟨hx, hxb⟩ (Below.refl _ _)
              · have d12 : t 12 = _ := hdep ⟨12, .data⟩ (by simp) rfl
                have d13 : t 13 = _ := hdep ⟨13, .data⟩ (by simp) rfl
                clear hdep
                have hnc : (n0 : Int) ≤ c6 := by omega
                go_simp
                simpa [upd, d12, d13] using hK w' (.slice (some ⟨b6, o6, none⟩) n0 c6) rfl ⟨hx, hxb⟩ (Below.refl _ _)
              · have d0 : t 0 = _ := hdep ⟨0, .data⟩ (by simp) rfl
                have d6 : t 6 = _ := hdep ⟨6, .data⟩ (by simp) rfl
                have d14 : t 14 = _ := hdep ⟨14, .data⟩ (by simp) rfl
                clear hdep
                go_simp
                have hAt : At .u8 w' (some ⟨g, 0, none⟩) (crL zs ps bs k u k) := by
                  obtain ⟨g', c', hv, _, _, _, hAA, _⟩ := hx.own.at_
                  cases hv; exact hAA
                have e1 : ((ps.getD k (0, [])).2.take n0).length = n0 := by rw [List.length_take, HD.out]; omega
                have e2 : s * 64 + n0 ≤ L := by omega
                have e3 := (At.below HQ4.out hxb).take n0
                have e4 : (crL zs ps bs k u k).length = L := HLN.out
                have e := overS_any g 0 L gc s b6 o6 n0 c6 (crL zs ps bs k u k) ((ps.getD k (0, [])).2.take n0) w' e4 e1 hz hg3 e2 hAt e3
                refine e.mono ?_
                rintro e w9 ⟨v9, rfl, ho9, hb9⟩
                rw [← HR.out, ← HNEW.out] at ho9
                go_simp
                simpa [upd, d0, d6, d14] using hK w9 v9 (ho9.mono hxb.size) ⟨hx.grow hb9, hxb.trans (hb9.mono hxb.size)⟩ hb9
          · have hkt : ((k : Int) == tt) = false := by simpa using ht
            cases hkk : bs.getD k false with
            | true =>
              have hr := HRK.out k ht hkk
              have hkq : k < q := by
                rw [← HHQ.out]
                by_cases h : k < bs.length
                · exact h
                · rw [List.getD_eq_getElem?_getD, List.getElem?_eq_none (by omega)] at hkk; cases hkk
              obtain ⟨b7, o7, rfl, hb7, hc7⟩ := (BAt.below HB.out HST.out.box.below).get (by rw [HHQ.out]; omega)
              have r7 := hc7 k (by rw [HHQ.out]; exact hkq)
              rw [hkk] at r7
              have hkq' : (k : Int) < q := by omega
              have HR : Hid _ := hr
              clear hr hc7
              go_wp2_with fail
              clear hlt' hkq'
              (try clear hn2)
              (try clear hu)
              (try clear hu3)
              (try clear hu4)
              refine wp_region_any (by kernel_rfl) ?_
              refine wpAny_slotsL 14 (fun w w' => Below w.heap.size w w') (frame := (fun (c0 c1 c2 c3 c4 c5 c6 c7 c8 c9 c10 c11 c12 c13 c14 c15 c16 c17 c18 c19 c20 c21 c22 c23 c24 c25 c26 c27 c28 c29 c30 c31 c32 c33 c34 c35 c36 c37 c38 c39 c40 c41 c42 c43 c44 c45 c46 c47 c48 c49 c50 c51 c52 c53 c54 c55 c56 c57 c58 c59 c60 c75 c76 : Value) => fun (t : Nat → Value) => ({ tmps := List.toArray (c0 :: c1 :: c2 :: c3 :: c4 :: c5 :: c6 :: c7 :: c8 :: c9 :: c10 :: c11 :: c12 :: c13 :: c14 :: c15 :: c16 :: c17 :: c18 :: c19 :: c20 :: c21 :: c22 :: c23 :: c24 :: c25 :: c26 :: c27 :: c28 :: c29 :: c30 :: c31 :: c32 :: c33 :: c34 :: c35 :: c36 :: c37 :: c38 :: c39 :: c40 :: c41 :: c42 :: c43 :: c44 :: c45 :: c46 :: c47 :: c48 :: c49 :: c50 :: c51 :: c52 :: c53 :: c54 :: c55 :: c56 :: c57 :: c58 :: c59 :: c60 :: t 0 :: t 1 :: t 2 :: t 3 :: t 4 :: t 5 :: t 6 :: t 7 :: t 8 :: t 9 :: t 10 :: t 11 :: t 12 :: t 13 :: c75 :: c76 :: []), defers := [] } : Act)) _ _ _ _ _ _ _ _ _ _ _ _ _ _ _ _ _ _ _ _ _ _ _ _ _ _ _ _ _ _ _ _ _ _ _ _ _ _ _ _ _ _ _ _ _ _ _ _ _ _ _ _ _ _ _ _ _ _ _ _ _ _ _)
                (Ext := fun w' => SL w w' #[.slice (some ⟨b, off, none⟩) L cap, .slice (some ⟨b5, o5, none⟩) m cx, .int .i64 f, .bool d] #[.slice (some ⟨b7, o7, none⟩) q cy, .int .i64 tt, .int .i64 u] (.slice (some ⟨g, 0, none⟩) L gc) (crL zs ps bs tt u k) ∧ Below wr.heap.size wr w') (Good := GK w.heap.size g L gc b5 o5 m cx k s b6 o6 c6 wr.heap.size (crL zs ps bs tt u (k + 1))) (by rfl) (by kernel_rfl) (GK_mono _ _ _ _ _ _ _ _ _ _ _ _ _ _ _) (by kernel_rfl) (by kernel_rfl) ?hop ?hend _ _ ((fun (x0 x1 x2 x3 x4 x5 x6 x7 x8 x9 x10 x11 x12 x13 : Value) => fun (i : Nat) => if i = 0 then x0 else if i = 1 then x1 else if i = 2 then x2 else if i = 3 then x3 else if i = 4 then x4 else if i = 5 then x5 else if i = 6 then x6 else if i = 7 then x7 else if i = 8 then x8 else if i = 9 then x9 else if i = 10 then x10 else if i = 11 then x11 else if i = 12 then x12 else if i = 13 then x13 else undef) _ _ _ _ _ _ _ _ _ _ _ _ _ _) _ (by simp) (by simp) ?ext ?start (by simp)
              case start => intro i hi h; exact absurd h (by rw [Array.getD_eq_getD_getElem?, Array.getElem?_replicate]; split <;> simp)
              case ext => exact ⟨SL.grow HST.out (Below.refl _ _).drew, (Below.refl _ _).drew⟩
              case hend =>
                intro o t w' ho hx hg K hK
                simp at ho; subst ho
                have hY := hg 13 (by decide)
                have st' : SL w w' #[.slice (some ⟨b, off, none⟩) L cap, .slice (some ⟨b5, o5, none⟩) m cx, .int .i64 f, .bool d] #[.slice (some ⟨b7, o7, none⟩) q cy, .int .i64 tt, .int .i64 u] (t 13) (crL zs ps bs tt u k.succ) := ⟨hx.1.box, Own.mono hY (by have := (SL.box HST.out).below.size; omega)⟩
                have HS' : Hid _ := st'
                clear hg hY st' hx
                go_simp
                apply hK
                generalize t 13 = tY at *
                generalize t 0 = t0
                generalize t 1 = t1
                generalize t 2 = t2
                generalize t 3 = t3
                generalize t 4 = t4
                generalize t 5 = t5
                generalize t 6 = t6
                generalize t 7 = t7
                generalize t 8 = t8
                generalize t 9 = t9
                generalize t 10 = t10
                generalize t 11 = t11
                generalize t 12 = t12
                (try simp only [Exit.inBlock, Exit.then])
                go_wp2
                go_roundw
                case rel => exact ⟨k + 1, by omega, by go_num, HS'.out⟩
                case measure => simp [intOf]; omega
              case hop =>
                intro i o t w' hil ho hx hdep K hK
                obtain ⟨hx, hxb⟩ := hx
                obtain ⟨c0, c1, c2, c3⟩ := row4 hx.box.b1
                have q1' : w'.cell? ⟨b5, o5 + k * 2, none⟩ = some (.int .i64 s) := by rw [hxb.cell (p := ⟨b5, o5 + k * 2, none⟩) hb5]; exact q1
                have q2' : w'.cell? ⟨b5, o5 + k * 2 + 1, none⟩ = some (.slice (some ⟨b6, o6, none⟩) 64 c6) := by rw [hxb.cell (p := ⟨b5, o5 + k * 2 + 1, none⟩) hb5]; exact q2
                clear q1 q2
                obtain rfl | rfl | rfl | rfl | rfl | rfl | rfl | rfl | rfl | rfl | rfl | rfl | rfl | rfl : i = 0 ∨ i = 1 ∨ i = 2 ∨ i = 3 ∨ i = 4 ∨ i = 5 ∨ i = 6 ∨ i = 7 ∨ i = 8 ∨ i = 9 ∨ i = 10 ∨ i = 11 ∨ i = 12 ∨ i = 13 := by omega
                all_goals (simp at ho; subst ho)
                · clear hdep
                  go_simp
                  exact hK w' (.slice (some ⟨g, 0, none⟩) L gc) rfl ⟨hx, hxb⟩ (Below.refl _ _)
                · clear hdep
                  go_simp
                  exact hK w' (.pointer (some ⟨w.heap.size, 1, none⟩)) rfl ⟨hx, hxb⟩ (Below.refl _ _)
                · have d1 : t 1 = _ := hdep ⟨1, .data⟩ (by simp) rfl
                  clear hdep
                  go_simp
                  simpa [upd, d1] using hK w' (.slice (some ⟨b5, o5, none⟩) m cx) rfl ⟨hx, hxb⟩ (Below.refl _ _)
                · clear hdep
                  go_simp
                  exact hK w' (.int .i64 k) rfl ⟨hx, hxb⟩ (Below.refl _ _)
                · have d2 : t 2 = _ := hdep ⟨2, .data⟩ (by simp) rfl
                  have d3 : t 3 = _ := hdep ⟨3, .data⟩ (by simp) rfl
                  clear hdep
                  go_simp
                  simpa [upd, d2, d3] using hK w' (.pointer (some ⟨b5, o5 + k * 2, none⟩)) rfl ⟨hx, hxb⟩ (Below.refl _ _)
                · have d4 : t 4 = _ := hdep ⟨4, .data⟩ (by simp) rfl
                  clear hdep
                  go_simp
                  simpa [upd, d4] using hK w' (.pointer (some ⟨b5, o5 + k * 2, none⟩)) rfl ⟨hx, hxb⟩ (Below.refl _ _)
                · have d5 : t 5 = _ := hdep ⟨5, .data⟩ (by simp) rfl
                  clear hdep
                  go_simp
                  simpa [upd, d5] using hK w' (.int .i64 s) rfl ⟨hx, hxb⟩ (Below.refl _ _)
                · clear hdep
                  go_simp
                  exact hK w' (.pointer (some ⟨w.heap.size, 1, none⟩)) rfl ⟨hx, hxb⟩ (Below.refl _ _)
                · have d7 : t 7 = _ := hdep ⟨7, .data⟩ (by simp) rfl
                  clear hdep
                  go_simp
                  simpa [upd, d7] using hK w' (.slice (some ⟨b5, o5, none⟩) m cx) rfl ⟨hx, hxb⟩ (Below.refl _ _)
                · clear hdep
                  go_simp
                  exact hK w' (.int .i64 k) rfl ⟨hx, hxb⟩ (Below.refl _ _)
                · have d8 : t 8 = _ := hdep ⟨8, .data⟩ (by simp) rfl
                  have d9 : t 9 = _ := hdep ⟨9, .data⟩ (by simp) rfl
                  clear hdep
                  go_simp
                  simpa [upd, d8, d9] using hK w' (.pointer (some ⟨b5, o5 + k * 2, none⟩)) rfl ⟨hx, hxb⟩ (Below.refl _ _)
                · have d10 : t 10 = _ := hdep ⟨10, .data⟩ (by simp) rfl
                  clear hdep
                  go_simp
                  simpa [upd, d10] using hK w' (.pointer (some ⟨b5, o5 + k * 2 + 1, none⟩)) rfl ⟨hx, hxb⟩ (Below.refl _ _)
                · have d11 : t 11 = _ := hdep ⟨11, .data⟩ (by simp) rfl
                  clear hdep
                  go_simp
                  simpa [upd, d11] using hK w' (.slice (some ⟨b6, o6, none⟩) 64 c6) rfl ⟨hx, hxb⟩ (Below.refl _ _)
                · have d0 : t 0 = _ := hdep ⟨0, .data⟩ (by simp) rfl
                  have d6 : t 6 = _ := hdep ⟨6, .data⟩ (by simp) rfl
                  have d12 : t 12 = _ := hdep ⟨12, .data⟩ (by simp) rfl
                  clear hdep
                  go_simp
                  have hAt : At .u8 w' (some ⟨g, 0, none⟩) (crL zs ps bs tt u k) := by
                    obtain ⟨g', c', hv, _, _, _, hAA, _⟩ := hx.own.at_
                    cases hv; exact hAA
                  have e1 : ((ps.getD k (0, [])).2.take 64).length = 64 := by rw [List.length_take, HD.out]; rfl
                  have e2 : s * 64 + 64 ≤ L := by omega
                  have e3 := (At.below HQ4.out hxb).take 64
                  have e4 : (crL zs ps bs tt u k).length = L := HLN.out
                  have e := overS_any g 0 L gc s b6 o6 64 c6 (crL zs ps bs tt u k) ((ps.getD k (0, [])).2.take 64) w' e4 e1 hz hg3 e2 hAt e3
                  refine e.mono ?_
                  rintro e w9 ⟨v9, rfl, ho9, hb9⟩
                  rw [← HR.out, ← HNEW.out] at ho9
                  go_simp
                  simpa [upd, d0, d6, d12] using hK w9 v9 (ho9.mono hxb.size) ⟨hx.grow hb9, hxb.trans (hb9.mono hxb.size)⟩ hb9
            | false =>
              have hr := HRN.out k ht hkk
              have hstep : crL zs ps bs tt u (k + 1) = crL zs ps bs tt u k := by rw [HNEW.out, hr, List.take_zero, overL_nil]
              have HS' : Hid (SL w wr #[.slice (some ⟨b, off, none⟩) L cap, .slice (some ⟨b5, o5, none⟩) m cx, .int .i64 f, .bool d] #[.slice y q cy, .int .i64 tt, .int .i64 u] (.slice (some ⟨g, 0, none⟩) L gc) (crL zs ps bs tt u (k + 1))) := by
                unfold Hid; rw [hstep]; exact HST.out
              clear hr hstep
              by_cases hkq : k < q
              · obtain ⟨b7, o7, rfl, hb7, hc7⟩ := (BAt.below HB.out HST.out.box.below).get (by rw [HHQ.out]; omega)
                have r7 := hc7 k (by rw [HHQ.out]; exact hkq)
                rw [hkk] at r7
                have hkq' : (k : Int) < q := by omega
                clear hc7
                go_wp2
                go_roundw
                case rel => exact ⟨k + 1, by omega, by go_num, HS'.out⟩
                case measure => simp [intOf]; omega
              · have hkq' : ¬ (k : Int) < q := by omega
                go_wp2
                go_roundw
                case rel => exact ⟨k + 1, by omega, by go_num, HS'.out⟩
                case measure => simp [intOf]; omega
        · have hkm : k = m := by omega
          subst hkm
          have hlt' : ¬ (k : Int) < k := by omega
          have HB3 : Hid (wr.heap[w.heap.size + 1 + 1]? = some (.cells #[.slice none 0 0, .slice none 0 0, .int .i64 0, .bool false] 69 (0, 0))) := st.box.b3
          have HBL : Hid (Below w.heap.size w wr) := st.box.below
          have HO : Hid (Own wr w.heap.size (.slice (some ⟨g, 0, none⟩) L gc) (crL zs ps bs tt u k)) := st.own
          have hgb : g ≠ w.heap.size + 1 + 1 := by
            intro e
            obtain ⟨_, _, cur, h3⟩ := ownsRow_lt st.own.1 g rfl
            rw [e, st.box.b3] at h3
            simp at h3
          clear st
          go_wp2_with (refine wpList_store_row rfl 69 (.tmp 4) (.tmp 76) rfl (w.heap.size + 1 + 1) #[.slice (some ⟨g, 0, none⟩) L gc, .slice none 0 0, .int .i64 (-1), .bool false] rfl rfl 69 _ HB3.out HSD.out rfl (all4e _ _ _ _ _ _ _ _) ?_)
          (try simp only [Exit.inBlock, Exit.then])
          refine bodyPost_ret (v := .agg #[.slice (some ⟨g, 0, none⟩) L gc, .slice none 0 0, .int .i64 (-1), .bool false]) (results_cell_row rfl _ _ (w.heap.size + 1 + 1) 69 _ (0, 0) _ rfl (setRow_heap _ _ _ _ _ _ HB3.out) Try.underlying69 rfl HSD.out) rfl ⟨_, rfl, ?_, ?_⟩
          · refine ⟨_, rfl, .inr (HO.out.keep (fun j hj => ?_))⟩
            have hjg : j = g := by simp [Value.ownBlock] at hj; exact hj.symm
            rw [hjg]; exact (Wr.setRow _ _ _).block g hgb
          · exact HBL.out.trans ((Wr.setRow _ _ _).below (by omega)))
end Go.Proofs.Ythghkfncpdnpoad
