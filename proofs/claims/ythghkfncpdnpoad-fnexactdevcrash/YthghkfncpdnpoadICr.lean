/-
  Own work: the program's crash.
-/
import Derived.Test.YthghkfncpdnpoadSCr
import Derived.Test.YthghkfncpdnpoadReach
import Derived.Test.YthghkfncpdnpoadStoreI
import Derived.Test.YthghkfncpdnpoadDevValI
namespace Go.Proofs.Ythghkfncpdnpoad
open Go.ChangeShapes Go.WideShapes Go.ChangeAt Go.RowKit
set_option linter.unusedVariables false

/-- A whole row stored: the world behind it by what is known of it. -/
theorem wpList_storeW {ops : Array Oper} {rest : List Oper} {o : Oper} {a : Act} {w : World} {Q : Exit → Act → World → Prop} (hgd : o.guard = none) (ty : TypeId) (x y : Operand) (ho : o.op = .store ty x y)
    (g : Nat) (cells : Array Value) (hx : a.eval x = .pointer (some ⟨g, 0, none⟩)) (hy : a.eval y = .agg cells)
    (t : TypeId) (old : Array Value) (hg : w.heap[g]? = some (.cells old t (0, 0))) (hi : (Try.prog.info? ty).map (·.size) = some cells.size)
    (hold : old.size = cells.size) (h1 : cells.all (·.oneCell') = true)
    (h : ∀ w', w'.heap[g]? = some (.cells cells t (0, 0)) → Wr g w w' → wpList Try.prog ops Q rest (a.put o.dst undef) w') : wpList Try.prog ops Q (o :: rest) a w :=
  wpList_store_row hgd ty x y ho g cells hx hy t old hg hi hold h1 (h _ (setRow_heap _ _ _ _ _ _ hg) (Wr.setRow _ _ _))
theorem all2p (s : Int) (a : Option Addr) (l c : Nat) : (#[Value.int .i64 s, .slice a l c].all (fun v => v.oneCell')) = true := by simp [Value.oneCell']
theorem Try.sizePd : (Try.prog.info? 112).map (·.size) = some 2 := by kernel_rfl
theorem row2 {w : World} {g : Nat} {t : TypeId} {a0 a1 : Value} (h : w.heap[g]? = some (.cells #[a0, a1] t (0, 0))) :
    w.cell? ⟨g, 0, none⟩ = some a0 ∧ w.cell? ⟨g, 1, none⟩ = some a1 :=
  ⟨cell_of_row _ _ _ _ _ _ h, cell_of_row _ _ _ _ _ _ h⟩

/-- The state of the program's loop. -/
structure IL (w wr : World) (C1 C2 : Array Value) (A g L gc : Nat) (y : List Int) : Prop where
  box : BX w wr C1 C2
  aft : wr.heap[A]? = some (.cells #[.slice (some ⟨g, 0, none⟩) L gc, .slice none 0 0, .int .i64 (-1), .bool false] 69 (0, 0))
  own : Own wr (w.heap.size + 3) (.slice (some ⟨g, 0, none⟩) L gc) y
  ga : g < A
theorem IL.grow {w wr w' : World} {C1 C2 : Array Value} {A g L gc : Nat} {y : List Int} (h : IL w wr C1 C2 A g L gc y) (hb : Below wr.heap.size wr w') : IL w w' C1 C2 A g L gc y :=
  ⟨h.box.grow hb, by rw [hb.block _ (Array.getElem?_eq_some_iff.1 h.aft).1]; exact h.aft, h.own.grow hb, h.ga⟩
theorem IL.g3 {w wr : World} {C1 C2 : Array Value} {A g L gc : Nat} {y : List Int} (h : IL w wr C1 C2 A g L gc y) : w.heap.size + 3 ≤ g ∧ g < wr.heap.size := by
  have := ownsRow_lt h.own.1 g rfl
  exact ⟨this.1, this.2.1⟩
/-- The disk's own block turns. -/
theorem IL.turn {w wr w' : World} {C1 C2 : Array Value} {A g L gc : Nat} {y z : List Int} (h : IL w wr C1 C2 A g L gc y) (hc : Ch g (g + 1) wr w') (ho : Own w' (w.heap.size + 3) (.slice (some ⟨g, 0, none⟩) L gc) z) : IL w w' C1 C2 A g L gc z := by
  obtain ⟨h1, h2⟩ := h.g3
  have hA := (Array.getElem?_eq_some_iff.1 h.aft).1
  have hs := h.box.below.size
  exact ⟨⟨h.box.below.trans ((hc.below (by omega)).mono (by omega)), by rw [hc.block _ (by omega) (.inl (by omega))]; exact h.box.b1, by rw [hc.block _ (by omega) (.inl (by omega))]; exact h.box.b2, by rw [hc.block _ (by omega) (.inl (by omega))]; exact h.box.b3⟩,
    by rw [hc.block _ hA (.inr h.ga)]; exact h.aft, ho, h.ga⟩

/-- The state while a round stores. -/
structure IX (w w' : World) (C1 C2 : Array Value) (A g L gc P O s : Nat) (pc : Array Value) (zo y0 : List Int) : Prop where
  st : ∃ y, IL w w' C1 C2 A g L gc y ∧ y.length = L ∧ y.take (s * 64) = y0.take (s * 64) ∧ y.drop (s * 64 + 64) = y0.drop (s * 64 + 64)
  pbx : w'.heap[P]? = some (.cells pc 112 (0, 0))
  obx : Row w' O 117 zo
  gp : g < P ∧ g < O
theorem IX.grow {w wr w' : World} {C1 C2 : Array Value} {A g L gc P O s : Nat} {pc : Array Value} {zo y0 : List Int} (h : IX w wr C1 C2 A g L gc P O s pc zo y0) (hb : Below wr.heap.size wr w') : IX w w' C1 C2 A g L gc P O s pc zo y0 := by
  obtain ⟨y, h1, h2⟩ := h.st
  exact ⟨⟨y, h1.grow hb, h2⟩, by rw [hb.block _ (Array.getElem?_eq_some_iff.1 h.pbx).1]; exact h.pbx, by unfold Row; rw [hb.block _ h.obx.lt]; exact h.obx, h.gp⟩

def GR (w : World) (C1 C2 : Array Value) (A g L gc P s b6 o6 c6 k r : Nat) (zo dz Y : List Int) : Nat → World → (Nat → Value) → Prop
  | 0, _, u => u 0 = .pointer (some ⟨P, 0, none⟩)
  | 1, _, u => u 1 = .int .i64 s
  | 2, _, u => u 2 = secV zo
  | 3, _, u => u 3 = .pointer (some ⟨P, 1, none⟩)
  | 4, _, u => u 4 = .slice (some ⟨b6, o6, none⟩) 64 c6
  | 5, _, u => u 5 = secV dz
  | 6, _, u => u 6 = .int .i64 k
  | 7, _, u => u 7 = .int .i64 r
  | 8, _, u => u 8 = secV (dz.take r ++ zo.drop r)
  | _, w', _ => IL w w' C1 C2 A g L gc Y

theorem PAt.entry {w : World} {a : Option Addr} {ps : List PD} (h : PAt w a ps) {i : Nat} (hi : i < ps.length) (hz : 0 < (ps.getD i (0, [])).2.length) :
    ∃ b off b' off' c, a = some ⟨b, off, none⟩ ∧ b < w.heap.size ∧ w.cell? ⟨b, off + i * 2, none⟩ = some (.int .i64 (ps.getD i (0, [])).1) ∧
      w.cell? ⟨b, off + i * 2 + 1, none⟩ = some (.slice (some ⟨b', off', none⟩) (ps.getD i (0, [])).2.length c) ∧ At .u8 w (some ⟨b', off', none⟩) (ps.getD i (0, [])).2 := by
  obtain ⟨b, off, ha, hl, hc⟩ := h.get (by omega)
  obtain ⟨x, c, h1, h2, h3⟩ := hc i hi
  obtain ⟨b', off', e, _, _⟩ := h3.get hz
  rw [e] at h2 h3
  exact ⟨b, off, b', off', c, ha, hl, h1, h2, h3⟩

set_option maxHeartbeats 2000000 in
set_option maxRecDepth 100000 in
theorem icr_any (v vc : Value) (zs : List Int) (ps : List PD) (f : Int) (d : Bool) (bs : List Bool) (t u : Int) (w : World) (h : DAt w v zs ps f d) (hc : CAt w vc bs t u) (hz : zs.length ≤ 1048576) (hn : ps.length ≤ 1048576) (hps : ∀ i, (ps.getD i (0, [])).2.length ≤ 1048576) (hbs : bs.length ≤ 1048576) :
    Calls Try.prog 26 #[v, vc] w fun e w' => ∃ r, e = .returned r ∧ DPl w' w.heap.size r (crZ zs ps f bs t u) (crF zs.length ps f) ∧ Below w.heap.size w w' := by
  have HSD : Hid _ := Try.sizeDv
  have HSP : Hid _ := Try.sizePd
  have HSS : Hid (∀ y : List Int, y.length = 64 → (Try.prog.info? 117).map (·.size) = some ((y.map (Value.int .u8)).toArray).size) := fun y hy => by rw [Try.sizeSec]; simp [hy]
  have HV := ival_any v zs ps f d
  have hD := h
  obtain ⟨a, cap, x, cx, rfl, hA, hP, hcap⟩ := h
  obtain ⟨y, cy, rfl, hB⟩ := hc
  have HNO : Hid (validB zs.length ps f = false → crZ zs ps f bs t u = [] ∧ crF zs.length ps f = 0) := crZ_no
  have HYES : Hid (validB zs.length ps f = true → crZ zs ps f bs t u = crL zs ps bs t u ps.length ∧ crF zs.length ps f = -1) := crZ_yes
  have HVO : Hid (validB zs.length ps f = true → vBase zs.length ps.length f ∧ PsOk zs.length ps) := validB_of
  generalize hL : zs.length = L at *
  generalize hm : ps.length = m at *
  generalize hq : bs.length = q at *
  have HS0 : Hid _ := BX.start w #[.slice a L cap, .slice x m cx, .int .i64 f, .bool d] #[.slice y q cy, .int .i64 t, .int .i64 u]
  cases hval : validB L ps f with
  | false =>
    obtain ⟨e1, e2⟩ := HNO.out hval
    rw [e1, e2]
    clear e1 e2 HNO HYES HVO
    go_enter Try.func26, Try.ntmps26
    go_wp2_with fail
    refine (HV _ (hD.below HS0.out.below) hz hn hps).mono ?_
    clear HV hD
    rintro e w1 ⟨rfl, hb1⟩
    have st1 := BX.grow HS0.out hb1
    rw [hval]
    have HB3 : Hid _ := st1.b3
    have HBL : Hid _ := st1.below
    clear HS0 hb1 st1
    go_wp2_with (refine wpList_store_row rfl 69 (.tmp 4) (.tmp 12) rfl (w.heap.size + 1 + 1) #[.slice none 0 0, .slice none 0 0, .int .i64 0, .bool false] rfl rfl 69 _ HB3.out HSD.out rfl (all4e _ _ _ _ _ _ _ _) ?_)
    (try simp only [Exit.inBlock, Exit.then])
    refine bodyPost_ret (v := .agg #[.slice none 0 0, .slice none 0 0, .int .i64 0, .bool false]) (results_cell_row rfl _ _ (w.heap.size + 1 + 1) 69 _ (0, 0) _ rfl (setRow_heap _ _ _ _ _ _ HB3.out) Try.underlying69 rfl HSD.out) rfl ⟨_, rfl, ?_, ?_⟩
    · have hsz : w.heap.size ≤ (w1.setRow (w.heap.size + 1 + 1) #[.slice none 0 0, .slice none 0 0, .int .i64 0, .bool false]).heap.size := by rw [size_setRow]; exact HBL.out.size
      exact ⟨_, rfl, .inl ⟨rfl, rfl⟩⟩
    · exact HBL.out.trans ((Wr.setRow _ _ _).below (by omega))
  | true =>
    obtain ⟨e1, e2⟩ := HYES.out hval
    obtain ⟨⟨v1, v2, v3, v4, v5, v6⟩, hok⟩ := HVO.out hval
    rw [e1, e2]
    clear e1 e2 HNO HYES HVO
    obtain ⟨b, off, rfl, hbl, hAc⟩ := hA.get (by omega)
    clear hAc
    have HLEN : Hid (∀ k, k ≤ ps.length → (crL zs ps bs t u k).length = zs.length) := fun k hk => crL_len (zs := zs) (bs := bs) (t := t) (u := u) (by rw [hL]; exact hok) (by rw [hL]; exact v1) k hk
    have HHL : Hid (zs.length = L) := hL
    have HHM : Hid (ps.length = m) := hm
    have HHQ : Hid (bs.length = q) := hq
    have HP : Hid (PAt w x ps) := hP
    have HB : Hid (BAt w y bs) := hB
    have HOK : Hid (PsOk L ps) := hok
    go_enter Try.func26, Try.ntmps26
    go_wp2_with fail
    refine (HV _ (hD.below HS0.out.below) hz hn hps).mono ?_
    clear HV hD
    rintro e w1 ⟨rfl, hb1⟩
    have st1 := BX.grow HS0.out hb1
    rw [hval]
    clear HS0 hb1
    obtain ⟨c0, c1, c2, c3⟩ := row4 st1.b1
    have hs1' : w.heap.size + 1 + 1 < w1.heap.size := (Array.getElem?_eq_some_iff.1 st1.b3).1
    have HS1 : Hid (BX w w1 #[.slice (some ⟨b, off, none⟩) L cap, .slice x m cx, .int .i64 f, .bool d] #[.slice y q cy, .int .i64 t, .int .i64 u]) := st1
    have HA1 : Hid (At .u8 w1 (some ⟨b, off, none⟩) zs) := hA.below st1.below
    clear st1 hL hm hq hP hB hok hA
    go_wp2_with fail
    refine (clone_any (some ⟨b, off, none⟩) L cap zs w1 HHL.out hz HA1.out (fun h => by cases h)).mono ?_
    rintro e w2 ⟨v2', rfl, ho2, hb2⟩
    have ho2' : Own w2 w1.heap.size v2' zs := by
      rcases ho2 with ⟨_, h0⟩ | h
      · have := HHL.out; rw [h0] at this; simp at this; omega
      · exact h
    obtain ⟨g, gc, hv, hg1, hg2, hg3⟩ := ho2'.base
    rw [HHL.out] at hv hg3
    subst hv
    have st2 := BX.grow HS1.out hb2
    have hs12 := hb2.size
    have HO2 : Hid (Own w2 w1.heap.size (.slice (some ⟨g, 0, none⟩) L gc) zs) := ho2'
    have HS2 : Hid (BX w w2 #[.slice (some ⟨b, off, none⟩) L cap, .slice x m cx, .int .i64 f, .bool d] #[.slice y q cy, .int .i64 t, .int .i64 u]) := st2
    clear ho2 ho2' hb2 HS1 HA1 st2 c0 c1 c2 c3
    go_wp2_with (refine wpList_storeW rfl 69 (.tmp 5) (.tmp 16) rfl w2.heap.size #[.slice (some ⟨g, 0, none⟩) L gc, .slice none 0 0, .int .i64 (-1), .bool false] rfl rfl 69 _ (heap_alloc_new w2 _) HSD.out rfl (all4e _ _ _ _ _ _ _ _) ?_)
    intro w3 hr3 hw3
    have hb3 : Below w2.heap.size w2 w3 := ((Below.refl _ _).alloc (Nat.le_refl _) _).trans (hw3.below (Nat.le_refl _))
    have st3 : IL w w3 #[.slice (some ⟨b, off, none⟩) L cap, .slice x m cx, .int .i64 f, .bool d] #[.slice y q cy, .int .i64 t, .int .i64 u] w2.heap.size g L gc (crL zs ps bs t u 0) := ⟨BX.grow HS2.out hb3, hr3, Own.mono (Own.grow HO2.out hb3) (by omega), hg2⟩
    obtain ⟨c0, c1, c2, c3⟩ := row4 st3.box.b1
    have HS3 : Hid (IL w w3 #[.slice (some ⟨b, off, none⟩) L cap, .slice x m cx, .int .i64 f, .bool d] #[.slice y q cy, .int .i64 t, .int .i64 u] w2.heap.size g L gc (crL zs ps bs t u 0)) := st3
    clear hr3 hw3 hb3 st3 HO2 HS2
    generalize w2.heap.size = A at *
    clear hg1 hs12 hg2
    go_wp2
    have st3 := HS3.out
    clear HS3 c0 c1 c2 c3
    go_loopw [20] (fun i wr => ∃ k : Nat, k ≤ m ∧ i = .int .i64 k ∧ IL w wr #[.slice (some ⟨b, off, none⟩) L cap, .slice x m cx, .int .i64 f, .bool d] #[.slice y q cy, .int .i64 t, .int .i64 u] A g L gc (crL zs ps bs t u k)) (fun i _ => m - (intOf i).toNat)
    case atStart => exact ⟨0, Nat.zero_le _, rfl, st3⟩
    case round =>
      obtain ⟨k, hk, rfl, st⟩ := hrel
      clear st3
      have hlen : (crL zs ps bs t u k).length = L := by rw [HLEN.out k (by rw [HHM.out]; exact hk), HHL.out]
      have HLN : Hid ((crL zs ps bs t u k).length = L) := hlen
      clear hlen
      by_cases hlt : k < m
      · obtain ⟨s, hs, hsl, hd⟩ := PsOk.at_ HOK.out v1 (i := k) (by rw [HHM.out]; exact hlt)
        obtain ⟨b5, o5, b6, o6, c6, rfl, hb5, q1, q2, q4⟩ := PAt.entry HP.out (i := k) (by rw [HHM.out]; exact hlt) (by rw [hd]; decide)
        rw [hs, ← st.box.below.cell (p := ⟨b5, o5 + k * 2, none⟩) hb5] at q1
        rw [hd, ← st.box.below.cell (p := ⟨b5, o5 + k * 2 + 1, none⟩) hb5] at q2
        have hlt' : (k : Int) < m := by omega
        have hnew : crL zs ps bs t u (k + 1) = overL (crL zs ps bs t u k) s ((ps.getD k (0, [])).2.take (rch bs t u k)) := by
          show overL _ _ _ = _
          rw [hs]; simp
        have HST : Hid (IL w wr #[.slice (some ⟨b, off, none⟩) L cap, .slice (some ⟨b5, o5, none⟩) m cx, .int .i64 f, .bool d] #[.slice y q cy, .int .i64 t, .int .i64 u] A g L gc (crL zs ps bs t u k)) := st
        have HNEW : Hid _ := hnew
        have HD : Hid ((ps.getD k (0, [])).2.length = 64) := hd
        have HQ4 : Hid (At .u8 w (some ⟨b6, o6, none⟩) (ps.getD k (0, [])).2) := q4
        clear st hnew hd q4 hs
        go_wp2_with (refine wpList_storeW rfl 112 (.tmp 7) (.tmp 24) rfl wr.heap.size #[.int .i64 s, .slice (some ⟨b6, o6, none⟩) 64 c6] rfl rfl 112 _ (heap_alloc_new wr _) HSP.out rfl (all2p _ _ _ _) ?_)
        intro w3 hr3 hw3
        have hb3 : Below wr.heap.size wr w3 := ((Below.refl _ _).alloc (Nat.le_refl _) _).trans (hw3.below (Nat.le_refl _))
        have st3 := IL.grow HST.out hb3
        have hgw := (IL.g3 HST.out).2
        obtain ⟨p0, p1⟩ := row2 hr3
        have hPl : wr.heap.size < w3.heap.size := (Array.getElem?_eq_some_iff.1 hr3).1
        have HST3 : Hid (IL w w3 #[.slice (some ⟨b, off, none⟩) L cap, .slice (some ⟨b5, o5, none⟩) m cx, .int .i64 f, .bool d] #[.slice y q cy, .int .i64 t, .int .i64 u] A g L gc (crL zs ps bs t u k)) := st3
        have HR3 : Hid (w3.heap[wr.heap.size]? = some (.cells #[.int .i64 s, .slice (some ⟨b6, o6, none⟩) 64 c6] 112 (0, 0))) := hr3
        clear hr3 hw3 hb3 st3 HST q1 q2 hb5
        generalize wr.heap.size = P at *
        go_wp2_with fail
        obtain ⟨g', c', hv', _, _, _, hAg, _⟩ := (IL.own HST3.out).at_
        have hAg' : At .u8 w3 (some ⟨g, 0, none⟩) (crL zs ps bs t u k) := by cases hv'; exact hAg
        refine (dur_any A (some ⟨g, 0, none⟩) none L gc 0 0 (-1) s false (crL zs ps bs t u k) w3 (IL.aft HST3.out) hz hg3 HLN.out hsl hAg').mono ?_
        clear hAg hAg' hv'
        rintro e w4 ⟨rfl, hb4⟩
        have st4 := IL.grow HST3.out hb4
        have hs34 := hb4.size
        have hzl : (((crL zs ps bs t u k).drop (s * 64)).take 64).length = 64 := by have := HLN.out; simp; omega
        have HZL : Hid ((((crL zs ps bs t u k).drop (s * 64)).take 64).length = 64) := hzl
        have HST4 : Hid (IL w w4 #[.slice (some ⟨b, off, none⟩) L cap, .slice (some ⟨b5, o5, none⟩) m cx, .int .i64 f, .bool d] #[.slice y q cy, .int .i64 t, .int .i64 u] A g L gc (crL zs ps bs t u k)) := st4
        have HR4 : Hid (w4.heap[P]? = some (.cells #[.int .i64 s, .slice (some ⟨b6, o6, none⟩) 64 c6] 112 (0, 0))) := by unfold Hid; rw [hb4.block _ hPl]; exact HR3.out
        clear st4 hzl hb4 HST3 HR3 p0 p1
        obtain ⟨zo, hzo⟩ : ∃ zo, ((crL zs ps bs t u k).drop (s * 64)).take 64 = zo := ⟨_, rfl⟩
        rw [hzo] at HZL ⊢
        have HZO : Hid (((crL zs ps bs t u k).drop (s * 64)).take 64 = zo) := hzo
        clear hzo
        go_wp2_with (refine wpList_storeW rfl 117 (.tmp 8) (.tmp 27) rfl w4.heap.size ((zo.map (Value.int .u8)).toArray) rfl rfl 117 _ (heap_alloc_new w4 _) (HSS.out zo HZL.out) (by simp [HZL.out]) (all_oneCell_toArray (ints_oneCell _ _)) ?_)
        intro w5 hr5 hw5
        have hb5 : Below w4.heap.size w4 w5 := ((Below.refl _ _).alloc (Nat.le_refl _) _).trans (hw5.below (Nat.le_refl _))
        have hOl : w4.heap.size < w5.heap.size := (Array.getElem?_eq_some_iff.1 hr5).1
        have HX5 : Hid (IX w w5 #[.slice (some ⟨b, off, none⟩) L cap, .slice (some ⟨b5, o5, none⟩) m cx, .int .i64 f, .bool d] #[.slice y q cy, .int .i64 t, .int .i64 u] A g L gc P w4.heap.size s #[.int .i64 s, .slice (some ⟨b6, o6, none⟩) 64 c6] zo (crL zs ps bs t u k)) :=
          ⟨⟨_, IL.grow HST4.out hb5, HLN.out, rfl, rfl⟩, by rw [hb5.block _ (by omega)]; exact HR4.out, hr5, by omega, by omega⟩
        clear hr5 hw5 hb5 HST4 HR4
        generalize w4.heap.size = O at *
        have hr64 := rch_le bs t u k
        have HMIX : Hid (∀ yy : List Int, yy.length = L → yy.take (s * 64) = (crL zs ps bs t u k).take (s * 64) → yy.drop (s * 64 + 64) = (crL zs ps bs t u k).drop (s * 64 + 64) → overL yy s (((ps.getD k (0, [])).2.take 64).take (rch bs t u k) ++ zo.drop (rch bs t u k)) = crL zs ps bs t u (k + 1)) := by
          intro yy h1 h2 h3
          have hlz : (((ps.getD k (0, [])).2.take 64).take (rch bs t u k) ++ zo.drop (rch bs t u k)).length = 64 := by rw [List.length_append, List.length_take, List.length_take, HD.out, List.length_drop, HZL.out]; omega
          have e1 : overL yy s (((ps.getD k (0, [])).2.take 64).take (rch bs t u k) ++ zo.drop (rch bs t u k)) = overL (crL zs ps bs t u k) s (((ps.getD k (0, [])).2.take 64).take (rch bs t u k) ++ zo.drop (rch bs t u k)) := by
            unfold overL; rw [hlz, h2, h3]
          rw [e1, ← HZO.out, overL_mix _ _ _ _ hr64 (by rw [List.length_take, HD.out]; rfl) (by rw [HLN.out]; exact hsl), HNEW.out, List.take_take, Nat.min_eq_left hr64]
        have HRE : Hid (∀ ww : World, ww.heap[w.heap.size + 1]? = some (.cells #[.slice y q cy, .int .i64 t, .int .i64 u] 72 (0, 0)) → BAt ww y bs → Calls Try.prog 69 #[.pointer (some ⟨w.heap.size + 1, 0, none⟩), .int .i64 k] ww fun e w' => e = .returned (.int .i64 ((rch bs t u k : Nat) : Int)) ∧ Below ww.heap.size ww w') :=
          fun ww h1 h2 => reach_any (w.heap.size + 1) y q cy bs t u k ww h1 h2 HHQ.out hbs (by omega)
        have hdl : ((ps.getD k (0, [])).2.take 64).length = 64 := by rw [List.length_take, HD.out]; rfl
        have HDL : Hid (((ps.getD k (0, [])).2.take 64).length = 64) := hdl
        have HSEC : Hid (∀ ww : World, At .u8 ww (some ⟨b6, o6, none⟩) (ps.getD k (0, [])).2 → Calls Try.prog 68 #[.slice (some ⟨b6, o6, none⟩) 64 c6] ww fun e w' => e = .returned (secV ((ps.getD k (0, [])).2.take 64)) ∧ Below ww.heap.size ww w') := fun ww h1 => sectorOf_any (some ⟨b6, o6, none⟩) 64 c6 (ps.getD k (0, [])).2 ww HD.out (Nat.le_refl _) h1
        obtain ⟨r, hr⟩ : ∃ r, rch bs t u k = r := ⟨_, rfl⟩
        obtain ⟨Y, hY⟩ : ∃ Y, crL zs ps bs t u (k + 1) = Y := ⟨_, rfl⟩
        obtain ⟨dz, hdz⟩ : ∃ dz, (ps.getD k (0, [])).2.take 64 = dz := ⟨_, rfl⟩
        rw [hr] at hr64 HRE
        rw [hdz] at HDL HSEC
        rw [hr, hdz, hY] at HMIX
        have HY : Hid (crL zs ps bs t u (k + 1) = Y) := hY
        clear hlt' HLN HNEW HZO hdl hr hY hdz
        go_wp2_with fail
        refine wp_region_any (by kernel_rfl) ?_
        refine wpAny_slots2 (frame := (fun (c0 c1 c2 c3 c4 c5 c6 c7 c8 c9 c10 c11 c12 c13 c14 c15 c16 c17 c18 c19 c20 c21 c22 c23 c24 c25 c26 c27 c38 c39 : Value) => fun (t : Nat → Value) => ({ tmps := List.toArray (c0 :: c1 :: c2 :: c3 :: c4 :: c5 :: c6 :: c7 :: c8 :: c9 :: c10 :: c11 :: c12 :: c13 :: c14 :: c15 :: c16 :: c17 :: c18 :: c19 :: c20 :: c21 :: c22 :: c23 :: c24 :: c25 :: c26 :: c27 :: t 0 :: t 1 :: t 2 :: t 3 :: t 4 :: t 5 :: t 6 :: t 7 :: t 8 :: t 9 :: c38 :: c39 :: []), defers := [] } : Act)) _ _ _ _ _ _ _ _ _ _ _ _ _ _ _ _ _ _ _ _ _ _ _ _ _ _ _ _ _ _)
          (Ext := fun w' => IX w w' #[.slice (some ⟨b, off, none⟩) L cap, .slice (some ⟨b5, o5, none⟩) m cx, .int .i64 f, .bool d] #[.slice y q cy, .int .i64 t, .int .i64 u] A g L gc P O s #[.int .i64 s, .slice (some ⟨b6, o6, none⟩) 64 c6] zo (crL zs ps bs t u k)) (Good := GR w #[.slice (some ⟨b, off, none⟩) L cap, .slice (some ⟨b5, o5, none⟩) m cx, .int .i64 f, .bool d] #[.slice y q cy, .int .i64 t, .int .i64 u] A g L gc P s b6 o6 c6 k r zo dz Y) (M := fun i w w' => i ≠ 9 → Below w.heap.size w w') ?hstab (by kernel_rfl) ?hop ?hdone _ _ ((fun (x0 x1 x2 x3 x4 x5 x6 x7 x8 x9 : Value) => fun (i : Nat) => if i = 0 then x0 else if i = 1 then x1 else if i = 2 then x2 else if i = 3 then x3 else if i = 4 then x4 else if i = 5 then x5 else if i = 6 then x6 else if i = 7 then x7 else if i = 8 then x8 else if i = 9 then x9 else undef) _ _ _ _ _ _ _ _ _ _) _ (by simp) ?ext ?start ?clo (by simp)
        case start => intro i hi h; exact absurd h (by rw [Array.getD_eq_getD_getElem?, Array.getElem?_replicate]; split <;> simp)
        case clo => intro i o ho h; exact absurd h (by rw [Array.getD_eq_getD_getElem?, Array.getElem?_replicate]; split <;> simp)
        case ext => exact IX.grow HX5.out (Below.refl _ _).drew
        case hstab =>
          intro j o w1 w2 u i v ho hM hij _ hg
          have hj : j < 10 := (Array.getElem?_eq_some_iff.1 ho).1
          obtain rfl | rfl | rfl | rfl | rfl | rfl | rfl | rfl | rfl | rfl : j = 0 ∨ j = 1 ∨ j = 2 ∨ j = 3 ∨ j = 4 ∨ j = 5 ∨ j = 6 ∨ j = 7 ∨ j = 8 ∨ j = 9 := by omega
          all_goals simp only [GR] at hg ⊢
          all_goals first
            | (rw [upd_ne2 hij]; exact hg)
            | exact hg.grow (hM hij)
        case hdone =>
          intro t w2 hx hg
          have h9 := hg 9 (by decide)
          have H9 : Hid _ := h9
          clear hg hx h9
          generalize t 0 = t0
          generalize t 1 = t1
          generalize t 2 = t2
          generalize t 3 = t3
          generalize t 4 = t4
          generalize t 5 = t5
          generalize t 6 = t6
          generalize t 7 = t7
          generalize t 8 = t8
          generalize t 9 = t9
          go_wp2
          go_roundw
          case rel => exact ⟨k + 1, by omega, by go_num, by rw [HY.out]; exact H9.out⟩
          case measure => simp [intOf]; omega
        case hop =>
          intro i o t w' ho hx hdep K hK
          have hi : i < 10 := (Array.getElem?_eq_some_iff.1 ho).1
          obtain ⟨p0, p1⟩ := row2 hx.pbx
          obtain ⟨yy, hil, hyl, hy1, hy2⟩ := hx.st
          have HIL : Hid _ := hil
          obtain rfl | rfl | rfl | rfl | rfl | rfl | rfl | rfl | rfl | rfl : i = 0 ∨ i = 1 ∨ i = 2 ∨ i = 3 ∨ i = 4 ∨ i = 5 ∨ i = 6 ∨ i = 7 ∨ i = 8 ∨ i = 9 := by omega
          all_goals (simp at ho; subst ho)
          · clear hdep
            go_simp
            exact hK w' (.pointer (some ⟨P, 0, none⟩)) rfl hx (fun _ => Below.refl _ _)
          · have d0 : t 0 = _ := hdep ⟨0, .data⟩ (by simp) rfl
            clear hdep
            go_simp
            simpa [upd, d0] using hK w' (.int .i64 s) rfl hx (fun _ => Below.refl _ _)
          · clear hdep
            rw [if_pos (by rfl)]
            refine wp_load_row 117 (.tmp 8) rfl O rfl 117 _ (0, 0) _ hx.obx Try.underlying117 rfl (HSS.out zo HZL.out) ?_
            exact hK w' (secV zo) rfl hx (fun _ => Below.refl _ _)
          · clear hdep
            go_simp
            exact hK w' (.pointer (some ⟨P, 1, none⟩)) rfl hx (fun _ => Below.refl _ _)
          · have d3 : t 3 = _ := hdep ⟨3, .data⟩ (by simp) rfl
            clear hdep
            go_simp
            simpa [upd, d3] using hK w' (.slice (some ⟨b6, o6, none⟩) 64 c6) rfl hx (fun _ => Below.refl _ _)
          · have d4 : t 4 = _ := hdep ⟨4, .data⟩ (by simp) rfl
            clear hdep
            have hAt := At.below HQ4.out hil.box.below
            clear hil
            go_simp
            refine (HSEC.out w' hAt).mono ?_
            rintro e w9 ⟨rfl, hb9⟩
            go_simp
            simpa [upd, d4] using hK w9 (secV dz) rfl (hx.grow hb9) (fun _ => hb9)
          · clear hdep
            go_simp
            exact hK w' (.int .i64 k) rfl hx (fun _ => Below.refl _ _)
          · have d6 : t 6 = _ := hdep ⟨6, .data⟩ (by simp) rfl
            clear hdep
            have hb2 := hil.box.b2
            have hBt := BAt.below HB.out hil.box.below
            have HB2 : Hid _ := hb2
            clear hil hb2
            go_simp
            refine (HRE.out w' HB2.out hBt).mono ?_
            rintro e w9 ⟨rfl, hb9⟩
            go_simp
            simpa [upd, d6] using hK w9 (.int .i64 r) rfl (hx.grow hb9) (fun _ => hb9)
          · have d2 : t 2 = _ := hdep ⟨2, .data⟩ (by simp) rfl
            have d5 : t 5 = _ := hdep ⟨5, .data⟩ (by simp) rfl
            have d7 : t 7 = _ := hdep ⟨7, .data⟩ (by simp) rfl
            clear hdep hil
            go_simp
            refine (overw_any zo dz r w' HZL.out HDL.out hr64).mono ?_
            rintro e w9 ⟨rfl, hb9⟩
            generalize hfin : secV (dz.take r ++ zo.drop r) = fin
            have hK' := hK w9 fin (by simp only [GR]; unfold upd; simp [hfin]) (hx.grow hb9) (fun _ => hb9)
            clear hfin hK
            go_simp
            simpa [upd, d2, d5, d7] using hK'
          · have d1 : t 1 = _ := hdep ⟨1, .data⟩ (by simp) rfl
            have d8 : t 8 = _ := hdep ⟨8, .data⟩ (by simp) rfl
            clear hdep
            have hlz : (dz.take r ++ zo.drop r).length = 64 := by rw [List.length_append, List.length_take, HDL.out, List.length_drop, HZL.out]; omega
            have hmix := HMIX.out yy hyl hy1 hy2
            have hst := store_any A g L gc none 0 0 (-1) false s (w.heap.size + 3) yy (dz.take r ++ zo.drop r) w' hil.aft hil.own hyl hz hlz hsl
            have hov : (overL yy s (dz.take r ++ zo.drop r)).length = L := by rw [overL_len _ _ _ (by omega)]; exact hyl
            have htk : (overL yy s (dz.take r ++ zo.drop r)).take (s * 64) = yy.take (s * 64) := by
              unfold overL; rw [List.take_append_of_le_length (by simp; omega), List.take_take, Nat.min_self]
            have hdr : (overL yy s (dz.take r ++ zo.drop r)).drop (s * 64 + 64) = yy.drop (s * 64 + 64) := by
              unfold overL; rw [hlz, ← List.append_assoc, List.drop_append_of_le_length (by rw [List.length_append, hlz, List.length_take]; omega), List.drop_eq_nil_of_le (by rw [List.length_append, hlz, List.length_take]; omega)]; simp
            rw [hmix] at hst hov htk hdr
            rw [hy1] at htk
            rw [hy2] at hdr
            have HFIN : Hid _ := And.intro hov (And.intro htk hdr)
            clear hil hov htk hdr hmix hlz hy1 hy2
            generalize hfin : secV (dz.take r ++ zo.drop r) = fin at *
            clear hfin
            go_simp
            refine hst.mono ?_
            rintro e w9 ⟨rfl, ho9, hc9⟩
            have st9 := IL.turn HIL.out hc9 ho9
            have hgl := (IL.g3 HIL.out).2
            have hPl : P < w'.heap.size := (Array.getElem?_eq_some_iff.1 hx.pbx).1
            have hOl := hx.obx.lt
            have hgp := hx.gp
            have hX9 : IX w w9 _ _ A g L gc P O s #[.int .i64 s, .slice (some ⟨b6, o6, none⟩) 64 c6] zo (crL zs ps bs _ u k) :=
              ⟨⟨_, st9, HFIN.out.1, HFIN.out.2.1, HFIN.out.2.2⟩, by rw [hc9.block _ hPl (.inr (by omega))]; exact hx.pbx, by unfold Row; rw [hc9.block _ hOl (.inr (by omega))]; exact hx.obx, hgp⟩
            have hK' := hK w9 (.tuple #[]) st9 hX9 (fun h => absurd rfl h)
            clear hK
            go_simp
            simpa [upd, d1, d8] using hK'
      · have hkm : k = m := by omega
        subst hkm
        have hlt' : ¬ (k : Int) < k := by omega
        obtain ⟨a0, a1, a2, a3⟩ := row4 st.aft
        have HB3 : Hid (wr.heap[w.heap.size + 1 + 1]? = some (.cells #[.slice none 0 0, .slice none 0 0, .int .i64 0, .bool false] 69 (0, 0))) := st.box.b3
        have HBL : Hid (Below w.heap.size w wr) := st.box.below
        have HO : Hid (Own wr (w.heap.size + 3) (.slice (some ⟨g, 0, none⟩) L gc) (crL zs ps bs t u k)) := st.own
        have hgb := st.g3
        clear st HLN
        go_wp2_with (refine wpList_store_row rfl 69 (.tmp 4) (.tmp 39) rfl (w.heap.size + 1 + 1) #[.slice (some ⟨g, 0, none⟩) L gc, .slice none 0 0, .int .i64 (-1), .bool false] rfl rfl 69 _ HB3.out HSD.out rfl (all4e _ _ _ _ _ _ _ _) ?_)
        (try simp only [Exit.inBlock, Exit.then])
        refine bodyPost_ret (v := .agg #[.slice (some ⟨g, 0, none⟩) L gc, .slice none 0 0, .int .i64 (-1), .bool false]) (results_cell_row rfl _ _ (w.heap.size + 1 + 1) 69 _ (0, 0) _ rfl (setRow_heap _ _ _ _ _ _ HB3.out) Try.underlying69 rfl HSD.out) rfl ⟨_, rfl, ?_, ?_⟩
        · refine ⟨_, rfl, .inr (Own.mono (Own.keep HO.out (fun j hj => ?_)) (by omega))⟩
          have hjg : j = g := by simp [Value.ownBlock] at hj; exact hj.symm
          rw [hjg]; exact (Wr.setRow _ _ _).block g (by omega)
        · exact HBL.out.trans ((Wr.setRow _ _ _).below (by omega))
end Go.Proofs.Ythghkfncpdnpoad
