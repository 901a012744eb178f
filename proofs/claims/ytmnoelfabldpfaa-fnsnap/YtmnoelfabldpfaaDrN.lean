/-
  Own work: drawn snaps (written by wip/mkdrn.py).
-/
import Derived.Test.YtmnoelfabldpfaaDrS
import Derived.Deep.WholeRow
import Derived.Deep.Cut
namespace Go.Proofs.Ytmnoelfabldpfaa
open Go.ChangeShapes Go.WideShapes Go.ChangeAt Go.RowKit
set_option linter.unusedVariables false

/-- While a snap is drawn. -/
structure DN0 (w : World) (g : Nat) (x : Option Addr) (n cap : Nat) (vD vU : Value) (D U : List Int) (wr : World) : Prop where
  wg : WrG g w wr
  cb : CurB wr g x n cap
  bx : wr.heap[w.heap.size]? = some (.cells #[.int .u32 0, .int .u32 0, .slice none 0 0, .slice none 0 0] 26 (0, 0))
  hg : g < w.heap.size
  d : Iow (w.heap.size + 1) wr vD D
  u : Iow (w.heap.size + 1) wr vU U
  ap : ApV vD vU
section
variable {w wr w' : World} {g : Nat} {x : Option Addr} {n cap q : Nat} {vD vU v : Value} {D U : List Int} {row : Option Nat}
theorem DN0.lt (h : DN0 w g x n cap vD vU D U wr) : w.heap.size < wr.heap.size := (Array.getElem?_eq_some_iff.1 h.bx).1
theorem DN0.ct (h : DN0 w g x n cap vD vU D U wr) (ht : CurT w g x n) : CurT wr g x n := ht.wr (fun q hq => h.wg.block q (Nat.lt_trans hq h.hg) (Nat.ne_of_lt hq))
theorem DN0.cur (h : DN0 w g x n cap vD vU D U wr) (hc : CurB w' g x n cap) (hw : Wr g wr w') : DN0 w g x n cap vD vU D U w' :=
  ⟨h.wg.trans hw.wrG, hc, by rw [hw.block _ (Nat.ne_of_gt h.hg)]; exact h.bx, h.hg, h.d.wr hw (by have := h.hg; omega), h.u.wr hw (by have := h.hg; omega), h.ap⟩
theorem DN0.call (h : DN0 w g x n cap vD vU D U wr) (b : Below wr.heap.size wr w') : DN0 w g x n cap vD vU D U w' :=
  ⟨h.wg.trans (WrG.of_below b), h.cb.keep (b.block g h.cb.lt), by rw [b.block _ h.lt]; exact h.bx, h.hg, h.d.below b, h.u.below b, h.ap⟩
/-- A box of another kind is written. -/
theorem DN0.box (h : DN0 w g x n cap vD vU D U wr) (hw : Wr q wr w') {cs : Array Value} {T : TypeId} (hq : wr.heap[q]? = some (.cells cs T (0, 0))) (hT : T ≠ 2) (hl : w.heap.size < q) : DN0 w g x n cap vD vU D U w' := by
  have h1 := h.hg
  exact ⟨⟨hw.os.trans h.wg.os, hw.tape.trans h.wg.tape, hw.output.trans h.wg.output, by rw [hw.size]; exact h.wg.size, fun p hp hpg => (hw.block p (by omega)).trans (h.wg.block p hp hpg)⟩, h.cb.keep (hw.block g (by omega)), by rw [hw.block _ (by omega)]; exact h.bx, h.hg, h.d.keepN hq hT hw, h.u.keepN hq hT hw, h.ap⟩
theorem Iow.ownlt {B : Nat} {xs : List Int} (h : Iow B wr v xs) : ∀ q, v.ownBlock = some q → B ≤ q ∧ q < wr.heap.size := fun q hq => by
  rcases h.2 with ⟨h', _⟩ | ⟨b, c, cur, h', hb, hh, _⟩
  · rw [h'] at hq; simp [Value.ownBlock] at hq
  · rw [h'] at hq; simp [Value.ownBlock] at hq; subst hq; exact ⟨hb, (Array.getElem?_eq_some_iff.1 hh).1⟩
theorem Iow.grown {B : Nat} {xs : List Int} (h : Iow B wr v xs) (hg : wr.grownBy w' row) (hne : ∀ q, v.ownBlock = some q → row ≠ some q) : Iow B w' v xs := by
  refine ⟨h.1, ?_⟩
  rcases h.2 with h' | ⟨b, c, cur, h1, h2, h3, h4⟩
  · exact .inl h'
  · exact .inr ⟨b, c, cur, h1, h2, by rw [hg.block b (Array.getElem?_eq_some_iff.1 h3).1 (fun e => hne b (by rw [h1]; rfl) e.symm)]; exact h3, h4⟩
end
/-- append of one serial; only the list's own block is written. -/
theorem wpList_app1g (w : World) {ops : Array Oper} {rest : List Oper} {o : Oper} {a : Act} {Q : Exit → Act → World → Prop} (hg : o.guard = none) (sx x : Operand)
    (hop : o.op = Op.call { callee := Callee.builtin Builtin.append, args := #[sx, x], argTypes := #[24, 24] }) (B : Nat) (v : Value) (xs : List Int) (hs : a.eval sx = v) (hown : Iow B w v xs)
    (wb : World) (z : Int) (hw : w = wb.alloc (.cells #[.int .i64 z] 2)) (hx : a.eval x = .slice (some ⟨wb.heap.size, 0, none⟩) 1 1) (hm : xs.length ≤ 1048576) (hB : B ≤ w.heap.size)
    (hK : ∀ v' w', Iow B w' v' (xs ++ [z]) → w.grownBy w' v.ownBlock → (v'.ownBlock = v.ownBlock ∨ v'.ownBlock = some w.heap.size) → wpList Try.prog ops Q rest (a.put o.dst v') w') :
    wpList Try.prog ops Q (o :: rest) a w := by
  obtain ⟨i0, hi, hz0, hz1, hz2⟩ := info_parts Try.infoI64q
  refine wpList_append_own_at w hg sx x 24 hop B 2 i0 (.int .i64 0) 1 8 Try.underlying24 hi hz0 hz1 hz2 rfl (by decide) v xs.length _ hs hown ⟨wb.heap.size, 0, none⟩ 1 1 [.int .i64 z] hx rfl (by rw [hw]; exact cell_one_new wb _ _) (by simp [Value.oneCell']) (by unfold maxLen; omega) (by omega) hB ?_
  intro v' w' h1 h2 _ h5
  refine hK v' w' ?_ h2 h5
  unfold Iow
  rw [List.map_append, List.length_append]; exact h1
/-- What l6DrawSnap and l6SpoilSnap give; V: what is known of the numbers. -/
def DSnP (V : Int → Int → List Int → List Int → Prop) (lo : Nat) (w : World) (g : Nat) (x : Option Addr) (n cap : Nat) (v : Value) (w' : World) : Prop :=
  ∃ gn tl aD nD cD aU nU cU D U, v = .agg #[.int .u32 gn, .int .u32 tl, .slice aD nD cD, .slice aU nU cU] ∧ U32 gn ∧ U32 tl ∧ V gn tl D U ∧ D.length ≤ 300 ∧ U.length ≤ 300 ∧ Iow lo w' (.slice aD nD cD) D ∧ Iow lo w' (.slice aU nU cU) U ∧ ApV (.slice aD nD cD) (.slice aU nU cU) ∧ CurB w' g x n cap ∧ WrG g w w'
theorem all4n (gn tl : Int) (aD aU : Option Addr) (nD cD nU cU : Nat) : (#[.int .u32 gn, .int .u32 tl, .slice aD nD cD, .slice aU nU cU] : Array Value).all (fun x => x.oneCell') = true := by simp [Value.oneCell']
theorem all4t (k : Int) (aD aU aT : Option Addr) (nD cD nU cU nT cT : Nat) : (#[.slice aD nD cD, .slice aU nU cU, .int .i64 k, .slice aT nT cT] : Array Value).all (fun x => x.oneCell') = true := by simp [Value.oneCell']
set_option maxRecDepth 100000 in
set_option maxHeartbeats 8000000 in
theorem drawSn_any (g : Nat) (x : Option Addr) (n cap : Nat) (w : World) (hc : CurB w g x n cap) (ht : CurT w g x n) :
    Calls Try.prog 26 #[.pointer (some ⟨g, 0, none⟩)] w fun e w' => ∃ v, e = .returned v ∧ DSnP SnP w.heap.size w g x n cap v w' := by
  have HCT : Hid (CurT w g x n) := ht
  have hg := hc.lt
  have b1 := below_new w (.cells #[.int .u32 0, .int .u32 0, .slice none 0 0, .slice none 0 0] 26)
  have HC1 : Hid (CurB (w.alloc (.cells #[.int .u32 0, .int .u32 0, .slice none 0 0, .slice none 0 0] 26)) g x n cap ∧ CurT (w.alloc (.cells #[.int .u32 0, .int .u32 0, .slice none 0 0, .slice none 0 0] 26)) g x n) := ⟨hc.keep (b1.block g hg), ht.wr (fun q hq => b1.block q (by omega))⟩
  have HN : Hid ((w.alloc (.cells #[.int .u32 0, .int .u32 0, .slice none 0 0, .slice none 0 0] 26)).heap[w.heap.size]? = some (.cells #[.int .u32 0, .int .u32 0, .slice none 0 0, .slice none 0 0] 26 (0, 0))) := heap_alloc_new w _
  have HSN : Hid ((Try.prog.info? 26).map (·.size) = some 4) := by show _ = _; kernel_rfl
  have HST : Hid ((Try.prog.info? 74).map (·.size) = some 4) := by show _ = _; kernel_rfl
  have HB1 := hid_of b1
  have hz1 : (w.alloc (.cells #[.int .u32 0, .int .u32 0, .slice none 0 0, .slice none 0 0] 26)).heap.size = w.heap.size + 1 := by simp
  clear hc ht b1
  go_enter Try.func26, Try.ntmps26
  go_wp2_with fail
  refine (drawSt_any g x n cap _ HC1.out.1 HC1.out.2).mono ?_
  rintro e w2 ⟨v, rfl, hv⟩
  obtain ⟨aD, nD, cD, aU, nU, cU, k, aT, nT, cT, D, U, T, rfl, i1, i2, _, pD, lD, pU, _, ap, cb, wg⟩ := hv
  rw [hz1] at i1 i2
  have HPD : Hid (SerP D ∧ D.length ≤ 16 ∧ SerP U) := ⟨pD, lD, pU⟩
  have HD2 : Hid (DN0 w g x n cap (.slice aD nD cD) (.slice aU nU cU) D U w2) := ⟨(WrG.of_below HB1.out).trans wg, cb, by rw [wg.block _ (by rw [hz1]; omega) (by omega)]; exact HN.out, hg, i1, i2, ap⟩
  clear i1 i2 pD lD pU ap cb wg HC1 HN HB1 hz1
  generalize (w.alloc (.cells #[.int .u32 0, .int .u32 0, .slice none 0 0, .slice none 0 0] 26)) = w1 at *
  have HWE : Hid ((w2.alloc (.cells #[.slice none 0 0, .slice none 0 0, .int .i64 0, .slice none 0 0] 74)).setRow w2.heap.size #[.slice aD nD cD, .slice aU nU cU, .int .i64 k, .slice aT nT cT] = (w2.alloc (.cells #[.slice aD nD cD, .slice aU nU cU, .int .i64 k, .slice aT nT cT] 74))) := World.setRow_alloc_new _ _ _ _
  have HNB : Hid ((w2.alloc (.cells #[.slice none 0 0, .slice none 0 0, .int .i64 0, .slice none 0 0] 74)).heap[w2.heap.size]? = some (.cells #[.slice none 0 0, .slice none 0 0, .int .i64 0, .slice none 0 0] 74 (0, 0))) := heap_alloc_new w2 _
  have HD3 : Hid (DN0 w g x n cap (.slice aD nD cD) (.slice aU nU cU) D U (w2.alloc (.cells #[.slice aD nD cD, .slice aU nU cU, .int .i64 k, .slice aT nT cT] 74))) := HD2.out.call (below_new w2 _)
  have HX3 : Hid ((w2.alloc (.cells #[.slice aD nD cD, .slice aU nU cU, .int .i64 k, .slice aT nT cT] 74)).heap[w2.heap.size]? = some (.cells #[.slice aD nD cD, .slice aU nU cU, .int .i64 k, .slice aT nT cT] 74 (0, 0))) := heap_alloc_new w2 _
  have HLB : Hid (w.heap.size < w2.heap.size) := HD2.out.lt
  go_upto_region 2 with (first
    | (refine wpList_store_row rfl 74 (.tmp 3) (.tmp 8) rfl w2.heap.size #[.slice aD nD cD, .slice aU nU cU, .int .i64 k, .slice aT nT cT] rfl rfl 74 _ HNB.out HST.out rfl (all4t _ _ _ _ _ _ _ _ _ _) ?_)
    | fail)
  rw [HWE.out]
  clear HWE HNB HD2
  generalize (w2.alloc (.cells #[.slice aD nD cD, .slice aU nU cU, .int .i64 k, .slice aT nT cT] 74)) = w3 at *
  generalize w2.heap.size = Bb at *
  go_wp2_with fail
  refine (below_any g x n cap 20 w3 HD3.out.cb (HD3.out.ct HCT.out) (by decide) (by decide)).mono ?_
  rintro e w4 ⟨gq, rfl, g0, g1, hc4, hw4⟩
  have HD4 : Hid (DN0 w g x n cap (.slice aD nD cD) (.slice aU nU cU) D U w4) := HD3.out.cur hc4 hw4
  have HX4 : Hid (w4.heap[Bb]? = some (.cells #[.slice aD nD cD, .slice aU nU cU, .int .i64 k, .slice aT nT cT] 74 (0, 0))) := by show _ = _; rw [hw4.block Bb (by have := HLB.out; omega)]; exact HX3.out
  clear hc4 hw4 HD3 HX3
  go_wp2_with fail
  refine (below_any g x n cap 30 w4 HD4.out.cb (HD4.out.ct HCT.out) (by decide) (by decide)).mono ?_
  rintro e w5 ⟨tq, rfl, t0, t1, hc5, hw5⟩
  have HD5 : Hid (DN0 w g x n cap (.slice aD nD cD) (.slice aU nU cU) D U w5) := HD4.out.cur hc5 hw5
  have HX5 : Hid (w5.heap[Bb]? = some (.cells #[.slice aD nD cD, .slice aU nU cU, .int .i64 k, .slice aT nT cT] 74 (0, 0))) := by show _ = _; rw [hw5.block Bb (by have := HLB.out; omega)]; exact HX4.out
  clear hc5 hw5 HD4 HX4
  have c0 : w5.cell? ⟨Bb, 0, none⟩ = some (.slice aD nD cD) := cell_of_row _ _ _ _ _ _ HX5.out
  have c1 : w5.cell? ⟨Bb, 1, none⟩ = some (.slice aU nU cU) := cell_of_row _ _ _ _ _ _ HX5.out
  obtain ⟨tr, htr⟩ : ∃ tr : Int, 1 + tq = tr := ⟨_, rfl⟩
  have hg4 : gq % 4294967296 = gq := by omega
  have ht4 : tr % 4294967296 = tr := by omega
  have HV : Hid (U32 gq ∧ U32 tr ∧ 1 ≤ tr ∧ tr ≤ 4000000000 ∧ gq ≤ 4000000000) := ⟨⟨by omega, by omega⟩, ⟨by omega, by omega⟩, by omega, by omega, by omega⟩
  have HWE : Hid ((w5.alloc (.cells #[.int .u32 0, .int .u32 0, .slice none 0 0, .slice none 0 0] 26)).setRow w5.heap.size #[.int .u32 gq, .int .u32 tr, .slice aD nD cD, .slice aU nU cU] = w5.alloc (.cells #[.int .u32 gq, .int .u32 tr, .slice aD nD cD, .slice aU nU cU] 26)) := World.setRow_alloc_new _ _ _ _
  have HNB : Hid ((w5.alloc (.cells #[.int .u32 0, .int .u32 0, .slice none 0 0, .slice none 0 0] 26)).heap[w5.heap.size]? = some (.cells #[.int .u32 0, .int .u32 0, .slice none 0 0, .slice none 0 0] 26 (0, 0))) := heap_alloc_new w5 _
  have HD6 : Hid (DN0 w g x n cap (.slice aD nD cD) (.slice aU nU cU) D U (w5.alloc (.cells #[.int .u32 gq, .int .u32 tr, .slice aD nD cD, .slice aU nU cU] 26))) := HD5.out.call (below_new w5 _)
  have HX6 : Hid ((w5.alloc (.cells #[.int .u32 gq, .int .u32 tr, .slice aD nD cD, .slice aU nU cU] 26)).heap[w5.heap.size]? = some (.cells #[.int .u32 gq, .int .u32 tr, .slice aD nD cD, .slice aU nU cU] 26 (0, 0))) := heap_alloc_new w5 _
  have HLO : Hid (w.heap.size < w5.heap.size) := HD5.out.lt
  go_upto_region 5 with (first
    | (refine wpList_store_row rfl 26 (.tmp 6) (.tmp 22) rfl w5.heap.size #[.int .u32 gq, .int .u32 tr, .slice aD nD cD, .slice aU nU cU] rfl rfl 26 _ HNB.out HSN.out rfl (all4n _ _ _ _ _ _ _ _) ?_)
    | fail)
  rw [HWE.out]
  clear HWE HNB HD5 HX5 c0 c1 htr hg4 ht4
  generalize w5.alloc (.cells #[.int .u32 gq, .int .u32 tr, .slice aD nD cD, .slice aU nU cU] 26) = w6 at *
  generalize w5.heap.size = O at *
  go_wp2_with fail
  refine (once_any g x n cap 8 w6 HD6.out.cb (HD6.out.ct HCT.out) (by decide) (by decide)).mono ?_
  rintro e w7 ⟨b7, rfl, hc7, hw7⟩
  have HD7 : Hid (DN0 w g x n cap (.slice aD nD cD) (.slice aU nU cU) D U w7) := HD6.out.cur hc7 hw7
  have HX7 : Hid (w7.heap[O]? = some (.cells #[.int .u32 gq, .int .u32 tr, .slice aD nD cD, .slice aU nU cU] 26 (0, 0))) := by show _ = _; rw [hw7.block O (by have := HLO.out; omega)]; exact HX6.out
  clear hc7 hw7 HD6 HX6
  cases b7
  · have HO9 := HX7
    have HD9 := HD7
    generalize w7 = w9 at *
    go_wp2_with (first
      | (refine wpList_load_row rfl 26 (.tmp 6) rfl O rfl 26 _ (0, 0) _ HO9.out Try.underlying26 rfl HSN.out ?_)
      | (refine wpList_store_row rfl 26 (.tmp 2) (.tmp 27) rfl w.heap.size #[.int .u32 gq, .int .u32 tr, .slice aD nD cD, .slice aU nU cU] rfl rfl 26 _ HD9.out.bx HSN.out rfl (all4n _ _ _ _ _ _ _ _) ?_)
      | fail)
    (try simp only [Exit.inBlock, Exit.then])
    refine bodyPost_ret (v := .agg #[.int .u32 gq, .int .u32 tr, .slice aD nD cD, .slice aU nU cU]) (results_cell_row rfl _ _ w.heap.size 26 _ (0, 0) _ rfl (setRow_heap _ _ _ _ _ _ HD9.out.bx) Try.underlying26 rfl HSN.out) rfl ⟨_, rfl, ?_⟩
    have hw := Wr.setRow w.heap.size w9 #[.int .u32 gq, .int .u32 tr, .slice aD nD cD, .slice aU nU cU]
    have h1 := HD9.out.hg
    refine ⟨gq, tr, aD, nD, cD, aU, nU, cU, D, U, rfl, HV.out.1, HV.out.2.1, ⟨HV.out.2.2.2.2, HV.out.2.2.1, HV.out.2.2.2.1, HPD.out.1, HPD.out.2.1, HPD.out.2.2⟩, Nat.le_trans HPD.out.2.1 (by omega), Nat.le_trans HPD.out.2.2.len (by omega), Iow.mono (HD9.out.d.wr hw (by omega)) (by omega), Iow.mono (HD9.out.u.wr hw (by omega)) (by omega), HD9.out.ap, HD9.out.cb.keep (hw.block g (by omega)), ?_⟩
    exact ⟨hw.os.trans HD9.out.wg.os, hw.tape.trans HD9.out.wg.tape, hw.output.trans HD9.out.wg.output, by rw [hw.size]; exact HD9.out.wg.size, fun p hp hpg => (hw.block p (by omega)).trans (HD9.out.wg.block p hp hpg)⟩
  · have d0 : w7.cell? ⟨O, 0, none⟩ = some (.int .u32 gq) := cell_of_row _ _ _ _ _ _ HX7.out
    have f0 : w7.frozen? ⟨O, 0, none⟩ = false := frozen_of_row _ _ _ _ _ HX7.out
    have hA : (w7.setCell ⟨O, 0, none⟩ (.int .u32 4000000000)).heap[O]? = some (.cells #[.int .u32 4000000000, .int .u32 tr, .slice aD nD cD, .slice aU nU cU] 26 (0, 0)) := heap_setCell_same _ _ _ _ _ _ HX7.out
    have d1 : (w7.setCell ⟨O, 0, none⟩ (.int .u32 4000000000)).cell? ⟨O, 1, none⟩ = some (.int .u32 tr) := cell_of_row _ _ _ _ _ _ hA
    have f1 : (w7.setCell ⟨O, 0, none⟩ (.int .u32 4000000000)).frozen? ⟨O, 1, none⟩ = false := frozen_of_row _ _ _ _ _ hA
    have HO9 : Hid (((w7.setCell ⟨O, 0, none⟩ (.int .u32 4000000000)).setCell ⟨O, 1, none⟩ (.int .u32 4000000000)).heap[O]? = some (.cells #[.int .u32 4000000000, .int .u32 4000000000, .slice aD nD cD, .slice aU nU cU] 26 (0, 0))) := heap_setCell_same _ _ _ _ _ _ hA
    have HD9 : Hid (DN0 w g x n cap (.slice aD nD cD) (.slice aU nU cU) D U ((w7.setCell ⟨O, 0, none⟩ (.int .u32 4000000000)).setCell ⟨O, 1, none⟩ (.int .u32 4000000000))) := HD7.out.box (q := O) (((Wr.refl O w7).setCell 0 _).setCell 1 _) HX7.out (by decide) HLO.out
    clear hA
    go_upto_region 8 with fail
    clear d0 f0 d1 f1 HX7 HD7
    generalize (w7.setCell ⟨O, 0, none⟩ (.int .u32 4000000000)).setCell ⟨O, 1, none⟩ (.int .u32 4000000000) = w9 at *
    go_wp2_with (first
      | (refine wpList_load_row rfl 26 (.tmp 6) rfl O rfl 26 _ (0, 0) _ HO9.out Try.underlying26 rfl HSN.out ?_)
      | (refine wpList_store_row rfl 26 (.tmp 2) (.tmp 27) rfl w.heap.size #[.int .u32 4000000000, .int .u32 4000000000, .slice aD nD cD, .slice aU nU cU] rfl rfl 26 _ HD9.out.bx HSN.out rfl (all4n _ _ _ _ _ _ _ _) ?_)
      | fail)
    (try simp only [Exit.inBlock, Exit.then])
    refine bodyPost_ret (v := .agg #[.int .u32 4000000000, .int .u32 4000000000, .slice aD nD cD, .slice aU nU cU]) (results_cell_row rfl _ _ w.heap.size 26 _ (0, 0) _ rfl (setRow_heap _ _ _ _ _ _ HD9.out.bx) Try.underlying26 rfl HSN.out) rfl ⟨_, rfl, ?_⟩
    have hw := Wr.setRow w.heap.size w9 #[.int .u32 4000000000, .int .u32 4000000000, .slice aD nD cD, .slice aU nU cU]
    have h1 := HD9.out.hg
    refine ⟨4000000000, 4000000000, aD, nD, cD, aU, nU, cU, D, U, rfl, ⟨by decide, by decide⟩, ⟨by decide, by decide⟩, ⟨by decide, by decide, by decide, HPD.out.1, HPD.out.2.1, HPD.out.2.2⟩, Nat.le_trans HPD.out.2.1 (by omega), Nat.le_trans HPD.out.2.2.len (by omega), Iow.mono (HD9.out.d.wr hw (by omega)) (by omega), Iow.mono (HD9.out.u.wr hw (by omega)) (by omega), HD9.out.ap, HD9.out.cb.keep (hw.block g (by omega)), ?_⟩
    exact ⟨hw.os.trans HD9.out.wg.os, hw.tape.trans HD9.out.wg.tape, hw.output.trans HD9.out.wg.output, by rw [hw.size]; exact HD9.out.wg.size, fun p hp hpg => (hw.block p (by omega)).trans (HD9.out.wg.block p hp hpg)⟩
end Go.Proofs.Ytmnoelfabldpfaa
