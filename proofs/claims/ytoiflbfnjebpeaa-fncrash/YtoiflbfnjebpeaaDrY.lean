/-
  Own work: a drawn crash: l1Crash (written by wip/mkdry.py).
-/
import Derived.Test.YtoiflbfnjebpeaaDrX
import Derived.Test.YtoiflbfnjebpeaaMDevVal
namespace Go.Proofs.Ytoiflbfnjebpeaa
open Go.ChangeShapes Go.WideShapes Go.ChangeAt Go.RowKit
set_option linter.unusedVariables false

theorem Try.infoBoolC : (Try.prog.info? 4).map (fun i => (i.zero, i.size, i.bytes)) = some (some (.bool false), 1, 1) := by kernel_rfl
theorem Try.sizeCr : (Try.prog.info? 44).map (·.size) = some 3 := by kernel_rfl
theorem all3c (a : Option Addr) (l c : Nat) (t u : Int) : (#[Value.slice a l c, .int .i64 t, .int .i64 u].all (fun v => v.oneCell')) = true := by simp [Value.oneCell']
def BO (w : World) (B : Nat) (v : Value) (bs : List Bool) : Prop := w.ownsRow B 4 1 v bs.length (bs.map Value.bool)
theorem BO.lt {w : World} {B : Nat} {v : Value} {bs : List Bool} (h : BO w B v bs) : ∀ k, v.ownBlock = some k → B ≤ k ∧ k < w.heap.size ∧ ∃ cur, w.heap[k]? = some (.cells cur 4 (0, 0)) := ownsRow_lt h
theorem BO.keep {w w' : World} {B : Nat} {v : Value} {bs : List Bool} (h : BO w B v bs) (hk : ∀ k, v.ownBlock = some k → w'.heap[k]? = w.heap[k]?) : BO w' B v bs := ownsRow_keep h hk
theorem BO.sl {w : World} {B : Nat} {v : Value} {bs : List Bool} (h : BO w B v bs) : ∃ a c, v = .slice a bs.length c ∧ BAt w a bs := by
  obtain ⟨h1, ⟨h2, h3⟩ | ⟨g, cap, cur, h2, hg, hh, hc, hm, hs, ht⟩⟩ := h
  · exact ⟨none, 0, by rw [h2, h3], .inl (List.eq_nil_of_length_eq_zero h3)⟩
  · have hlt := (Array.getElem?_eq_some_iff.1 hh).1
    refine ⟨_, cap, h2, .inr ⟨g, 0, rfl, hlt, fun i hi => ?_⟩⟩
    have e1 : cur.toList[i]? = some (.bool (bs.getD i false)) := by
      have : (cur.toList.take (bs.length * 1))[i]? = (bs.map Value.bool)[i]? := by rw [ht]
      rw [List.getElem?_take_of_lt (by omega)] at this
      rw [this]; simp [hi]
    rw [cell_of_row w g (0 + i) cur _ (0, 0) hh, Nat.zero_add]
    simpa using e1
theorem wp_appBo (w : World) {o : Oper} {a : Act} {K : Act → World → Prop} {Q : Exit → Act → World → Prop} (s x : Operand) (hop : o.op = Op.call { callee := Callee.builtin Builtin.append, args := #[s, x], argTypes := #[42, 42] })
    (B : Nat) (v : Value) (bs : List Bool) (b : Bool) (hs : a.eval s = v) (hP : BO w B v bs) (KB : Nat) (hx : a.eval x = .slice (some ⟨KB, 0, none⟩) 1 1) (hB : w.heap[KB]? = some (.cells #[.bool b] 4 (0, 0))) (hBw : B ≤ w.heap.size) (hb : bs.length ≤ 1048576)
    (h : ∀ v' w', BO w' B v' (bs ++ [b]) → w.grownBy w' v.ownBlock → K (a.put o.dst v') w') : o.wp Try.prog a w K Q := by
  obtain ⟨i0, hi, hz0, hz1, hz2⟩ := info_parts Try.infoBoolC
  refine wp_append_own w s x 42 hop B 4 i0 (.bool false) 1 1 Try.underlying42 hi hz0 hz1 hz2 rfl (by decide) v bs.length _ hs hP ⟨KB, 0, none⟩ 1 1 [.bool b] hx rfl ?_ (by simp [Value.oneCell']) (by unfold maxLen; omega) (by omega) hBw ?_
  · intro j u hu
    rw [Addr.add_lit, cell_of_row w KB (0 + j) _ _ _ hB, Nat.zero_add]
    simpa using hu
  · intro v' w' h1 h2 _
    exact h v' w' (by unfold BO; rw [List.length_append, List.map_append]; exact h1) h2

structure CZ (w w' : World) (g : Nat) (x : Option Addr) (n cap R F : Nat) (v : Value) (bs : List Bool) (t u : Int) : Prop where
  cur : CurB w' g x n cap
  txt : CurT w' g x n
  res : w'.heap[R]? = some (.cells #[.slice none 0 0, .int .i64 0, .int .i64 0] 44 (0, 0))
  fr : w'.heap[F]? = some (.cells #[v, .int .i64 t, .int .i64 u] 44 (0, 0))
  wr : WrG g w w'
  own : BO w' w.heap.size v bs
  gl : g < w.heap.size
  rl : w.heap.size ≤ R
  fl : R ≠ F ∧ w.heap.size ≤ F
section
variable {w w' w'' : World} {g : Nat} {x : Option Addr} {n cap R F : Nat} {v : Value} {bs : List Bool} {t u : Int}
theorem CZ.flt (h : CZ w w' g x n cap R F v bs t u) : F < w'.heap.size ∧ R < w'.heap.size := ⟨(Array.getElem?_eq_some_iff.1 h.fr).1, (Array.getElem?_eq_some_iff.1 h.res).1⟩
theorem CZ.far (h : CZ w w' g x n cap R F v bs t u) (hg : WrG g w' w'') (hc : CurB w'' g x n cap) : CZ w w'' g x n cap R F v bs t u := by
  have h1 := h.gl
  have h2 := h.rl
  have h3 := h.fl
  have h4 := h.flt
  have h5 := h.wr.size
  exact ⟨hc, h.txt.wr (fun k hk => hg.block k (by omega) (by omega)), by rw [hg.block R (by omega) (by omega)]; exact h.res, by rw [hg.block F (by omega) (by omega)]; exact h.fr, h.wr.trans hg, h.own.keep (fun k e => hg.block k (h.own.lt k e).2.1 (by have := (h.own.lt k e).1; omega)), h.gl, h.rl, h.fl⟩
theorem CZ.cells (h : CZ w w' g x n cap R F v bs t u) : (w'.cell? ⟨F, 0, none⟩ = some v ∧ w'.cell? ⟨F, 1, none⟩ = some (.int .i64 t) ∧ w'.cell? ⟨F, 2, none⟩ = some (.int .i64 u)) ∧ (∀ i, w'.frozen? ⟨F, i, none⟩ = false) :=
  ⟨⟨cell_of_row _ _ _ _ _ _ h.fr, cell_of_row _ _ _ _ _ _ h.fr, cell_of_row _ _ _ _ _ _ h.fr⟩, fun i => frozen_of_row _ _ _ _ _ h.fr⟩
theorem CZ.put (h : CZ w w' g x n cap R F v bs t u) {v' : Value} {bs' : List Bool} {t' u' : Int} (ho : BO w' w.heap.size v' bs') (hw : w''.heap[F]? = some (.cells #[v', .int .i64 t', .int .i64 u'] 44 (0, 0)))
    (e1 : w''.os = w'.os) (e2 : w''.tape = w'.tape) (e3 : w''.output = w'.output) (hs : w''.heap.size = w'.heap.size) (hk : ∀ j, j ≠ F → w''.heap[j]? = w'.heap[j]?) : CZ w w'' g x n cap R F v' bs' t' u' := by
  have h1 := h.gl
  have h2 := h.rl
  have h3 := h.fl
  exact ⟨h.cur.keepS (hk g (by omega)), h.txt.wr (fun k hk' => hk k (by omega)), by rw [hk R h3.1]; exact h.res, hw, ⟨e1.trans h.wr.os, e2.trans h.wr.tape, e3.trans h.wr.output, by rw [hs]; exact h.wr.size, fun k hk' hg => (hk k (by omega)).trans (h.wr.block k hk' hg)⟩,
    ho.keep (fun k e => hk k (fun ek => by obtain ⟨_, _, cur, hh⟩ := ho.lt k e; rw [ek, h.fr] at hh; simp at hh)), h.gl, h.rl, h.fl⟩
theorem CZ.tear (h : CZ w w' g x n cap R F v bs t u) (t' : Int) : CZ w (w'.setCell ⟨F, 1, none⟩ (.int .i64 t')) g x n cap R F v bs t' u :=
  h.put h.own (heap_setCell_same w' F 1 _ _ _ h.fr) rfl rfl rfl (by simp [World.setCell]) (fun j hj => heap_setCell_other w' ⟨F, 1, none⟩ j _ hj)
theorem CZ.at_ (h : CZ w w' g x n cap R F v bs t u) (u' : Int) : CZ w (w'.setCell ⟨F, 2, none⟩ (.int .i64 u')) g x n cap R F v bs t u' :=
  h.put h.own (heap_setCell_same w' F 2 _ _ _ h.fr) rfl rfl rfl (by simp [World.setCell]) (fun j hj => heap_setCell_other w' ⟨F, 2, none⟩ j _ hj)
end
/-- The list with one more entry is put in. -/
theorem cz_app {w W w' : World} {g : Nat} {x : Option Addr} {n cap R F : Nat} {v v5 : Value} {bs bs' : List Bool} {t u : Int} (h : CZ w W g x n cap R F v bs t u) (hX : WX g v.ownBlock W w') (hc : CurB w' g x n cap) (hP : BO w' w.heap.size v5 bs') :
    CZ w (w'.setCell ⟨F, 0, none⟩ v5) g x n cap R F v5 bs' t u ∧ w'.heap[F]? = some (.cells #[v, .int .i64 t, .int .i64 u] 44 (0, 0)) := by
  have g1 := h.gl
  have g2 := h.rl
  have g3 := h.fl
  have g4 := h.flt
  have g5 := h.wr.size
  have hne : ∀ k cs, W.heap[k]? = some (.cells cs 44 (0, 0)) → some k ≠ v.ownBlock := fun k cs hk e => by
    obtain ⟨_, _, cur, hh⟩ := h.own.lt k e.symm
    rw [hk] at hh; simp at hh
  have hF : w'.heap[F]? = some (.cells #[v, .int .i64 t, .int .i64 u] 44 (0, 0)) := by rw [hX.block F g4.1 (by omega) (hne _ _ h.fr)]; exact h.fr
  have hR : w'.heap[R]? = some (.cells #[.slice none 0 0, .int .i64 0, .int .i64 0] 44 (0, 0)) := by rw [hX.block R g4.2 (by omega) (hne _ _ h.res)]; exact h.res
  have hwr : WrG g w w' := ⟨hX.os.trans h.wr.os, hX.tape.trans h.wr.tape, hX.output.trans h.wr.output, Nat.le_trans h.wr.size hX.size, fun k hk hg => (hX.block k (by omega) hg (fun er => by have := (h.own.lt _ er.symm).1; omega)).trans (h.wr.block k hk hg)⟩
  have ht : CurT w' g x n := h.txt.wr (fun k hk => hX.block k (by omega) (by omega) (fun er => by have := (h.own.lt _ er.symm).1; omega))
  have hs : (w'.setCell ⟨F, 0, none⟩ v5).heap.size = w'.heap.size := by simp [World.setCell]
  have hk : ∀ j, j ≠ F → (w'.setCell ⟨F, 0, none⟩ v5).heap[j]? = w'.heap[j]? := fun j hj => heap_setCell_other w' ⟨F, 0, none⟩ j _ hj
  refine ⟨⟨hc.keepS (hk g (by omega)), ht.wr (fun k hk' => hk k (by omega)), by rw [hk R g3.1]; exact hR, heap_setCell_same w' F 0 _ _ _ hF, ⟨hwr.os, hwr.tape, hwr.output, by rw [hs]; exact hwr.size, fun k hk' hg => (hk k (by omega)).trans (hwr.block k hk' hg)⟩, ?_, g1, g2, g3⟩, hF⟩
  exact hP.keep (fun k e => hk k (fun ek => by obtain ⟨_, _, cur, hh⟩ := hP.lt k e; rw [ek, hF] at hh; simp at hh))
def PB (w : World) (S : Nat) (v : Value) : Prop := ∃ (b : Bool) (K : Nat), v = .slice (some ⟨K, 0, none⟩) 1 1 ∧ S ≤ K ∧ w.heap[K]? = some (.cells #[.bool b] 4 (0, 0))
theorem PB.wx {g S : Nat} {r : Option Nat} {w w' : World} {v : Value} (h : PB w S v) (hw : WX g r w w') (hg : g < S) (hr : ∀ k, r = some k → k < S) : PB w' S v := by
  obtain ⟨b, K, e, hK, hh⟩ := h
  exact ⟨b, K, e, hK, by rw [hw.block K (Array.getElem?_eq_some_iff.1 hh).1 (by omega) (fun er => by have := hr K er.symm; omega)]; exact hh⟩
def PQ (w : World) (B : Nat) (bs : List Bool) (v : Value) : Prop := ∃ b : Bool, BO w B v (bs ++ [b])
theorem PQ.wr {g B : Nat} {w w' : World} {bs : List Bool} {v : Value} (h : PQ w B bs v) (hw : WrG g w w') (hg : g < B) : PQ w' B bs v := by
  obtain ⟨b, h⟩ := h
  exact ⟨b, h.keep (fun k e => hw.block k (h.lt k e).2.1 (by have := (h.lt k e).1; omega))⟩
/-- A crash whose list is of the call's own. -/
def CB (B : Nat) (w : World) (v : Value) (bs : List Bool) (t u : Int) : Prop := ∃ x c, v = .agg #[.slice x bs.length c, .int .i64 t, .int .i64 u] ∧ BO w B (.slice x bs.length c) bs
theorem CB.at_ {B : Nat} {w : World} {v : Value} {bs : List Bool} {t u : Int} (h : CB B w v bs t u) : CAt w v bs t u := by
  obtain ⟨x, c, e, h⟩ := h
  obtain ⟨a, c', e', hB⟩ := h.sl
  cases e'
  exact ⟨x, c, e, hB⟩
theorem CB.keep {B : Nat} {w w' : World} {v : Value} {bs : List Bool} {t u : Int} (h : CB B w v bs t u) (hk : ∀ k, B ≤ k → k < w.heap.size → w'.heap[k]? = w.heap[k]?) : CB B w' v bs t u := by
  obtain ⟨x, c, e, h⟩ := h
  exact ⟨x, c, e, h.keep (fun k ek => hk k (h.lt k ek).1 (h.lt k ek).2.1)⟩
/-- What l1Crash answers. -/
def CrPost (w : World) (g : Nat) (x : Option Addr) (n cap : Nat) (e : Ending) (w' : World) : Prop :=
  ∃ v bs t u, e = .returned v ∧ CB w.heap.size w' v bs t u ∧ bs.length ≤ 100 ∧ CurB w' g x n cap ∧ WrG g w w'

set_option maxRecDepth 100000 in
set_option maxHeartbeats 8000000 in
theorem crash_any (g : Nat) (x : Option Addr) (n cap : Nat) (m : Nat) (w : World) (hm8 : m ≤ 8) (hc : CurB w g x n cap) (ht : CurT w g x n) (hg : g < w.heap.size) :
    Calls Try.prog 53 #[.pointer (some ⟨g, 0, none⟩), .int .i64 (m : Int)] w (CrPost w g x n cap) := by
  have HSD : Hid _ := Try.sizeCr
  have hb0 : Below w.heap.size w ((w.alloc (.cells #[.slice none 0 0, .int .i64 0, .int .i64 0] 44)).alloc (.cells #[.slice none 0 0, .int .i64 0, .int .i64 0] 44)) := ((Below.refl _ _).alloc (Nat.le_refl _) _).alloc (by simp) _
  have HN2 : Hid (((w.alloc (.cells #[.slice none 0 0, .int .i64 0, .int .i64 0] 44)).alloc (.cells #[.slice none 0 0, .int .i64 0, .int .i64 0] 44)).heap[w.heap.size + 1]? = some (.cells #[.slice none 0 0, .int .i64 0, .int .i64 0] 44 (0, 0))) := by
    have := heap_alloc_new (w.alloc (.cells #[.slice none 0 0, .int .i64 0, .int .i64 0] 44)) (.cells #[.slice none 0 0, .int .i64 0, .int .i64 0] 44)
    rw [World.size_alloc] at this
    exact this
  have st0 : CZ w ((w.alloc (.cells #[.slice none 0 0, .int .i64 0, .int .i64 0] 44)).alloc (.cells #[.slice none 0 0, .int .i64 0, .int .i64 0] 44)) g x n cap w.heap.size (w.heap.size + 1) (.slice none 0 0) [] 0 0 :=
    ⟨hc.keepS (hb0.block g hg), ht.wr (fun k hk => hb0.block k (by omega)), by rw [Below.heap_alloc _ _ w.heap.size (by simp)]; exact heap_alloc_new w _, HN2.out, WrG.of_below hb0, ⟨rfl, .inl ⟨rfl, rfl⟩⟩, hg, Nat.le_refl _, by omega, by omega⟩
  have HST0 := hid_ofD (st0.put (w'' := ((w.alloc (.cells #[.slice none 0 0, .int .i64 0, .int .i64 0] 44)).alloc (.cells #[.slice none 0 0, .int .i64 0, .int .i64 0] 44)).setRow (w.heap.size + 1) #[.slice none 0 0, .int .i64 0, .int .i64 0]) (v' := .slice none 0 0) (bs' := []) (t' := 0) (u' := 0) st0.own (setRow_heap _ _ _ _ _ _ HN2.out) rfl rfl rfl (size_setRow _ _ _) (fun j hj => setRow_other _ _ _ _ hj))
  clear st0 hb0 hc ht
  go_enter Try.func53, Try.ntmps53
  go_wp2_with (first
    | (refine wpList_store_row rfl 44 (.tmp 5) (.tmp 9) rfl (w.heap.size + 1) #[.slice none 0 0, .int .i64 0, .int .i64 0] rfl rfl 44 _ HN2.out HSD.out rfl (all3c _ _ _ _ _) ?_)
    | fail)
  generalize ((w.alloc (.cells #[.slice none 0 0, .int .i64 0, .int .i64 0] 44)).alloc (.cells #[.slice none 0 0, .int .i64 0, .int .i64 0] 44)).setRow (w.heap.size + 1) #[.slice none 0 0, .int .i64 0, .int .i64 0] = w1 at *
  clear HN2
  obtain ⟨F, hF⟩ : ∃ F, F = w.heap.size + 1 := ⟨_, rfl⟩
  rw [← hF] at HST0 ⊢
  clear hF
  have hm2 : (m : Int) + 2 ≤ 16777216 := by omega
  go_wp2_with fail
  refine (below_any g x n cap ((m : Int) + 2) _ HST0.out.cur HST0.out.txt (by omega) hm2).mono ?_
  rintro e w2 ⟨m0, rfl, hm0, hm1, hc2, hw2⟩
  have HS2 := hid_ofD (HST0.out.far hw2.wrG hc2)
  clear HST0 hc2 hw2
  obtain ⟨k0, rfl⟩ := Int.eq_ofNat_of_zero_le hm0
  have hk9 : k0 ≤ 9 := by omega
  go_wp2
  go_loopw [7] (fun i wr => ∃ (j : Nat) (v : Value) (bs : List Bool) (t u : Int), j ≤ k0 ∧ i = .int .i64 j ∧ CZ w wr g x n cap w.heap.size F v bs t u ∧ bs.length = j) (fun i _ => k0 - (intOf i).toNat)
  case atStart => exact ⟨0, _, [], _, _, Nat.zero_le _, rfl, HS2.out, rfl⟩
  case round =>
    clear HS2
    obtain ⟨j, v, bs, t0, u0, hj, rfl, st, hbs⟩ := hrel
    have HBS := hid_ofD hbs
    obtain ⟨a, cp, rfl, _⟩ := st.own.sl
    obtain ⟨bl, hbl⟩ : ∃ b, b = bs.length := ⟨_, rfl⟩
    rw [← hbl] at st
    have HST := hid_ofD st
    have HBLL := hid_ofD hbl
    clear st hbs hbl
    by_cases hlt : j < k0
    · have hlt' : (j : Int) < k0 := by omega
      obtain ⟨W, rfl⟩ : ∃ y, y = wr := ⟨_, rfl⟩
      have HPW := hid_ofD HST.out.own
      have hws := HST.out.wr.size
      have HCU : Hid (CurB W.drew g x n cap) := HST.out.cur
      have HTX : Hid (CurT W g x n) := HST.out.txt
      have HGS : Hid (g < W.heap.size) := by show _ < _; omega
      have HGE : Hid (g < w.heap.size) := hg
      have HEW := hid_ofD hws
      have HRE : Hid (∀ k, (Value.slice a bl cp).ownBlock = some k → w.heap.size ≤ k) := fun k e => (BO.lt HPW.out k e).1
      have HRS : Hid (∀ k, (Value.slice a bl cp).ownBlock = some k → k < W.heap.size) := fun k e => (BO.lt HPW.out k e).2.1
      have HGR : Hid (some g ≠ (Value.slice a bl cp).ownBlock) := fun e => by have := HRE.out g e.symm; have := HGE.out; omega
      have HFL : Hid (F < W.heap.size ∧ F ≠ g ∧ some F ≠ (Value.slice a bl cp).ownBlock) := ⟨HST.out.flt.1, by have := HST.out.fl.2; omega, fun e => by
        obtain ⟨_, _, cur, hh⟩ := BO.lt HPW.out F e.symm
        rw [HST.out.fr] at hh; simp at hh⟩
      have HQL : Hid (bs.length ≤ 1048576) := by rw [HBS.out]; show _ ≤ _; omega
      go_wp2_with fail
      refine wp_region_any (by kernel_rfl) ?_
      refine wpAny_slotsK 7 (fun i wa wb => (i ≠ 5 → WrG g wa wb) ∧ WX g (Value.slice a bl cp).ownBlock wa wb) (frame := (fun (c0 c1 c2 c3 c4 c5 c6 c7 c8 c9 c10 c11 c12 c13 c14 c15 c16 c17 c18 c26 c27 c28 c29 c30 c31 c32 c33 c34 c35 c36 c37 c38 c39 c40 c41 c42 c43 c44 c45 c46 c47 c48 c49 : Value) => fun (t : Nat → Value) => ({ tmps := List.toArray (c0 :: c1 :: c2 :: c3 :: c4 :: c5 :: c6 :: c7 :: c8 :: c9 :: c10 :: c11 :: c12 :: c13 :: c14 :: c15 :: c16 :: c17 :: c18 :: t 0 :: t 1 :: t 2 :: t 3 :: t 4 :: t 5 :: t 6 :: c26 :: c27 :: c28 :: c29 :: c30 :: c31 :: c32 :: c33 :: c34 :: c35 :: c36 :: c37 :: c38 :: c39 :: c40 :: c41 :: c42 :: c43 :: c44 :: c45 :: c46 :: c47 :: c48 :: c49 :: []), defers := [] } : Act)) _ _ _ _ _ _ _ _ _ _ _ _ _ _ _ _ _ _ _ _ _ _ _ _ _ _ _ _ _ _ _ _ _ _ _ _ _ _ _ _ _ _ _)
        (Ext := fun Ls w' => SE W g x n cap (Value.slice a bl cp).ownBlock 5 Ls w') (Good := fun i Ls w' v => if i = 0 then v = .pointer (some ⟨F, 0, none⟩) else if i = 1 then v = .slice a bl cp else if i = 2 then v = .pointer (some ⟨g, 0, none⟩) else if i = 3 then (∃ y : Bool, v = .bool y) else if i = 4 then PB w' W.heap.size v else if i = 5 then PQ w' w.heap.size bs v else if i = 6 then v = .pointer (some ⟨F, 0, none⟩) else True) (by rfl) (by kernel_rfl) ?hstab (by kernel_rfl) (by kernel_rfl) ?hop ?hend _ _ ((fun (x0 x1 x2 x3 x4 x5 x6 : Value) => fun (i : Nat) => if i = 0 then x0 else if i = 1 then x1 else if i = 2 then x2 else if i = 3 then x3 else if i = 4 then x4 else if i = 5 then x5 else if i = 6 then x6 else undef) _ _ _ _ _ _ _) _ (by simp) (by simp) ?ext ?start (by simp)
      case start => intro i hi h; exact absurd h (by rw [Array.getD_eq_getD_getElem?, Array.getElem?_replicate]; split <;> simp)
      case ext => exact ⟨WX.of_wrG (WrG.refl _ _).drewS, fun _ => (WrG.refl _ _).drewS, HCU.out⟩
      case hstab =>
        intro j Ls w9 w' i v hM hij hLi h
        by_cases h4 : j = 4
        · subst h4
          simp at h ⊢
          exact h.wx hM.2 HGS.out HRS.out
        by_cases h5 : j = 5
        · subst h5
          simp at h ⊢
          exact h.wr (hM.1 hij) HGE.out
        simp only [if_neg h4, if_neg h5] at h ⊢
        exact h
      case hop =>
        intro i o Ls t w' hil ho hLi hx hdep K hK
        obtain rfl | rfl | rfl | rfl | rfl | rfl | rfl : i = 0 ∨ i = 1 ∨ i = 2 ∨ i = 3 ∨ i = 4 ∨ i = 5 ∨ i = 6 := by omega
        all_goals (simp at ho; subst ho)
        · clear hdep
          have hK' := hK w' (.pointer (some ⟨F, 0, none⟩)) (by simp) (hx.same 0 (by decide)) ⟨fun _ => WrG.refl _ _, WX.refl _ _ _⟩
          clear hK
          go_simp
          simpa [upd] using hK'
        · have d0 : t 0 = .pointer (some ⟨F, 0, none⟩) := by simpa using hdep ⟨0, .data⟩ (by simp) rfl
          clear hdep
          have haf : w'.heap[F]? = some (.cells #[.slice a bl cp, .int .i64 t0, .int .i64 u0] 44 (0, 0)) := by rw [hx.wx.block F HFL.out.1 HFL.out.2.1 HFL.out.2.2]; exact HST.out.fr
          have y0 : w'.cell? ⟨F, 0, none⟩ = some (.slice a bl cp) := cell_of_row _ _ _ _ _ _ haf
          clear haf
          have hK' := hK w' (.slice a bl cp) (by simp) (hx.same 1 (by decide)) ⟨fun _ => WrG.refl _ _, WX.refl _ _ _⟩
          clear hK
          go_simp
          simpa [upd, d0] using hK'
        · clear hdep
          have hK' := hK w' (.pointer (some ⟨g, 0, none⟩)) (by simp) (hx.same 2 (by decide)) ⟨fun _ => WrG.refl _ _, WX.refl _ _ _⟩
          clear hK
          go_simp
          simpa [upd] using hK'
        · have d2 : t 2 = .pointer (some ⟨g, 0, none⟩) := by simpa using hdep ⟨2, .data⟩ (by simp) rfl
          clear hdep
          have A := once_any g x n cap 2 w' hx.cur (HTX.out.wr (fun k hk => hx.wx.block k (by have := HGS.out; omega) (by omega) (fun e => by have := HRE.out k e.symm; have := HGE.out; omega))) (by decide) (by decide)
          have hK' : ∀ ww (y : Bool), WrG g w' ww → CurB ww g x n cap → K _ ww := fun ww y hb hc => hK ww (.bool y) (by simp) (hx.step 3 (by decide) hb hc) ⟨fun _ => hb, WX.of_wrG hb⟩
          clear hK
          go_simp
          try simp only [d2]
          refine A.mono ?_
          rintro e w9 ⟨y, rfl, hc9, hw9⟩
          have hK2 := hK' w9 y hw9.wrG hc9
          clear hK' A hc9 hw9
          go_simp
          simpa [upd, d2] using hK2
        · have f3 : (∃ y : Bool, (t 3) = .bool y) := by simpa using hdep ⟨3, .data⟩ (by simp) rfl
          clear hdep
          obtain ⟨y, d3⟩ := f3
          have hb9 := (Below.refl w'.heap.size w').alloc (Nat.le_refl _) (.cells #[.bool y] 4)
          have hw9 : WrG g w' (w'.alloc (.cells #[.bool y] 4)) := WrG.of_below hb9
          have hK' := hK (w'.alloc (.cells #[.bool y] 4)) (.slice (some ⟨w'.heap.size, 0, none⟩) 1 1) (by simp; exact ⟨y, w'.heap.size, rfl, hx.wx.size, heap_alloc_new w' _⟩) (hx.step 4 (by decide) hw9 (hx.cur.keepS (hb9.block g (by have := hx.wx.size; have := HGS.out; omega)))) ⟨fun _ => hw9, WX.of_wrG hw9⟩
          clear hK hb9 hw9
          go_simp
          simpa [upd, d3] using hK'
        · have d1 : t 1 = .slice a bl cp := by simpa using hdep ⟨1, .data⟩ (by simp) rfl
          have f4 : PB w' W.heap.size (t 4) := by simpa using hdep ⟨4, .data⟩ (by simp) rfl
          clear hdep
          obtain ⟨y, KB, e8, hKB, hbB⟩ := f4
          have hP9 := BO.keep HPW.out (fun k e => (hx.wg hLi).block k (BO.lt HPW.out k e).2.1 (by have := (BO.lt HPW.out k e).1; have := HGE.out; omega))
          refine wp_appBo w' (.tmp 20) (.tmp 23) rfl w.heap.size (.slice a bl cp) bs y d1 hP9 KB e8 hbB (by have := hx.wx.size; have := HEW.out; omega) HQL.out ?_
          intro v9 w9 hP9' hg9
          exact hK w9 v9 (by simp; exact ⟨y, hP9'⟩) (hx.app hg9 (hx.cur.keepS (hg9.block g (by have := hx.wx.size; have := HGS.out; omega) HGR.out))) ⟨fun h => absurd rfl h, WX.of_grown hg9⟩
        · clear hdep
          have hK' := hK w' (.pointer (some ⟨F, 0, none⟩)) (by simp) (hx.same 6 (by decide)) ⟨fun _ => WrG.refl _ _, WX.refl _ _ _⟩
          clear hK
          go_simp
          simpa [upd] using hK'
      case hend =>
        intro o Ls t w' ho hx hg K hK
        simp at ho; subst ho
        obtain ⟨y, hP9⟩ : PQ w' w.heap.size bs (t 5) := by simpa using hg 5 (by decide)
        have h11 : t 6 = .pointer (some ⟨F, 0, none⟩) := by simpa using hg 6 (by decide)
        clear hg
        obtain ⟨na, nc, e9, _⟩ := hP9.sl
        obtain ⟨bl', hbl'⟩ : ∃ b, b = (bs ++ [y]).length := ⟨_, rfl⟩
        rw [← hbl'] at e9
        rw [e9] at hP9
        obtain ⟨hDS, haf⟩ := cz_app HST.out hx.wx hx.cur hP9
        have HDS := hid_ofD hDS
        have HBL : Hid ((bs ++ [y]).length = j + 1) := by rw [List.length_append, HBS.out]; rfl
        have y0 : w'.cell? ⟨F, 0, none⟩ = some (.slice a bl cp) := cell_of_row _ _ _ _ _ _ haf
        have yf := frozen_of_row w' F 0 _ _ haf
        clear hDS hP9 hx hbl'
        go_simp
        apply hK
        clear e9 h11 y0 yf haf
        go_wp2
        go_roundw
        case rel => exact ⟨j + 1, _, _, _, _, by omega, by go_num, HDS.out, HBL.out⟩
        case measure => simp [intOf]; omega
    · obtain rfl : j = k0 := by omega
      have hlt' : ¬ ((j : Int) < j) := by omega
      go_wp2_with fail
      refine (below_any g x n cap ((m : Int) + 2) _ HST.out.cur HST.out.txt (by omega) hm2).mono ?_
      rintro e w3 ⟨t1, rfl, ht0, ht1, hc3, hw3⟩
      have HS3 := hid_ofD (HST.out.far hw3.wrG hc3)
      have HS4 := hid_ofD (HS3.out.tear (t1 - 1))
      obtain ⟨⟨y0, y1, y2⟩, yf⟩ := HS3.out.cells
      have yf1 := yf 1
      have hwr : IntKind.i64.wrap (t1 - 1) = t1 - 1 := by rw [IntKind.wrap_i64]; omega
      clear HST hc3 hw3 yf
      go_wp2_with fail
      clear HS3 y0 y1 y2 yf1 hwr
      generalize w3.setCell ⟨F, 1, none⟩ (.int .i64 (t1 - 1)) = w4 at *
      refine (below_any g x n cap 65 _ HS4.out.cur HS4.out.txt (by decide) (by decide)).mono ?_
      rintro e w5 ⟨u1, rfl, hu0, hu1, hc5, hw5⟩
      have HS5 := hid_ofD (HS4.out.far hw5.wrG hc5)
      have HS6 := hid_ofD (HS5.out.at_ u1)
      obtain ⟨⟨y0, y1, y2⟩, yf⟩ := HS5.out.cells
      have yf2 := yf 2
      clear HS4 hc5 hw5 yf
      go_wp2_with fail
      clear HS5 y0 y1 y2 yf2
      generalize w5.setCell ⟨F, 2, none⟩ (.int .i64 u1) = w6 at *
      refine (below_any g x n cap 8 _ HS6.out.cur HS6.out.txt (by decide) (by decide)).mono ?_
      rintro e w7 ⟨k, rfl, hk0, hk1, hc7, hw7⟩
      have HS7 := hid_ofD (HS6.out.far hw7.wrG hc7)
      clear HS6 hc7 hw7
      have FIN : Hid (∀ (w' : World) (u' : Int), CZ w w' g x n cap w.heap.size F (.slice a bl cp) bs (t1 - 1) u' → CrPost w g x n cap (.returned (.agg #[.slice a bl cp, .int .i64 (t1 - 1), .int .i64 u'])) (w'.setRow w.heap.size #[.slice a bl cp, .int .i64 (t1 - 1), .int .i64 u'])) := fun w' u' h => by
        have hgl := h.gl
        have hown := BO.keep (w' := w'.setRow w.heap.size #[.slice a bl cp, .int .i64 (t1 - 1), .int .i64 u']) h.own (fun k e => setRow_other _ _ _ _ (fun ek => by obtain ⟨_, _, cur, hh⟩ := h.own.lt k e; rw [ek, h.res] at hh; simp at hh))
        rw [HBLL.out] at hown
        exact ⟨_, bs, t1 - 1, u', rfl, ⟨a, cp, by rw [HBLL.out], by rw [HBLL.out]; exact hown⟩, by rw [HBS.out]; omega, h.cur.keepS (setRow_other _ _ _ _ (by omega)),
          ⟨h.wr.os, h.wr.tape, h.wr.output, by rw [size_setRow]; exact h.wr.size, fun j hj hg => (setRow_other _ _ _ _ (by omega)).trans (h.wr.block j hj hg)⟩⟩
      by_cases hk3 : k < 3
      · have hk3b : (k == 3) = false := by simp; omega
        go_wp2_with fail
        refine (below_any g x n cap 9 _ HS7.out.cur HS7.out.txt (by decide) (by decide)).mono ?_
        rintro e w8 ⟨u2, rfl, hu20, hu21, hc8, hw8⟩
        have HS8 := hid_ofD (HS7.out.far hw8.wrG hc8)
        have HS9 := hid_ofD (HS8.out.at_ (56 + u2))
        obtain ⟨⟨y0, y1, y2⟩, yf⟩ := HS8.out.cells
        have yf2 := yf 2
        obtain ⟨⟨z0, z1, z2⟩, zf⟩ := HS9.out.cells
        have HF := hid_ofD (FIN.out _ _ HS9.out)
        clear HS7 hc8 hw8 yf zf FIN
        go_wp2_with (first
          | (refine wpList_store_row rfl 44 (.tmp 4) (.tmp 49) rfl w.heap.size #[.slice a bl cp, .int .i64 (t1 - 1), .int .i64 (56 + u2)] rfl rfl 44 _ HS9.out.res HSD.out rfl (all3c _ _ _ _ _) ?_)
          | fail)
        (try simp only [Exit.inBlock, Exit.then])
        exact bodyPost_ret (v := .agg #[.slice a bl cp, .int .i64 (t1 - 1), .int .i64 (56 + u2)]) (results_cell_row rfl _ _ w.heap.size 44 _ (0, 0) _ rfl (setRow_heap _ _ _ _ _ _ HS9.out.res) Try.underlying44 rfl HSD.out) rfl HF.out
      · by_cases hk4 : k = 3
        · subst hk4
          go_wp2_with fail
          refine (below_any g x n cap 140 _ HS7.out.cur HS7.out.txt (by decide) (by decide)).mono ?_
          rintro e w8 ⟨u2, rfl, hu20, hu21, hc8, hw8⟩
          have HS8 := hid_ofD (HS7.out.far hw8.wrG hc8)
          have HS9 := hid_ofD (HS8.out.at_ (u2 - 40))
          obtain ⟨⟨y0, y1, y2⟩, yf⟩ := HS8.out.cells
          have yf2 := yf 2
          obtain ⟨⟨z0, z1, z2⟩, zf⟩ := HS9.out.cells
          have HF := hid_ofD (FIN.out _ _ HS9.out)
          clear HS7 hc8 hw8 yf zf FIN
          go_wp2_with (first
            | (refine wpList_store_row rfl 44 (.tmp 4) (.tmp 49) rfl w.heap.size #[.slice a bl cp, .int .i64 (t1 - 1), .int .i64 (u2 - 40)] rfl rfl 44 _ HS9.out.res HSD.out rfl (all3c _ _ _ _ _) ?_)
            | fail)
          (try simp only [Exit.inBlock, Exit.then])
          exact bodyPost_ret (v := .agg #[.slice a bl cp, .int .i64 (t1 - 1), .int .i64 (u2 - 40)]) (results_cell_row rfl _ _ w.heap.size 44 _ (0, 0) _ rfl (setRow_heap _ _ _ _ _ _ HS9.out.res) Try.underlying44 rfl HSD.out) rfl HF.out
        · have hk4b : (k == 3) = false := by simpa using hk4
          obtain ⟨⟨z0, z1, z2⟩, zf⟩ := HS7.out.cells
          have HF := hid_ofD (FIN.out _ _ HS7.out)
          clear zf FIN hm1 hm2 hm8 hj
          go_wp2_with (first
            | (refine wpList_store_row rfl 44 (.tmp 4) (.tmp 49) rfl w.heap.size #[.slice a bl cp, .int .i64 (t1 - 1), .int .i64 u1] rfl rfl 44 _ HS7.out.res HSD.out rfl (all3c _ _ _ _ _) ?_)
            | fail)
          (try simp only [Exit.inBlock, Exit.then])
          exact bodyPost_ret (v := .agg #[.slice a bl cp, .int .i64 (t1 - 1), .int .i64 u1]) (results_cell_row rfl _ _ w.heap.size 44 _ (0, 0) _ rfl (setRow_heap _ _ _ _ _ _ HS7.out.res) Try.underlying44 rfl HSD.out) rfl HF.out
end Go.Proofs.Ytoiflbfnjebpeaa
