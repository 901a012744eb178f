/-
  Own work: copies of structs, as the laws make them: what lies where.
-/
import Derived.Test.YthghkfncpdnpoadSvG
import Derived.Test.YthghkfncpdnpoadApx
namespace Go.Proofs.Ythghkfncpdnpoad
open Go.ChangeShapes Go.WideShapes Go.ChangeAt Go.RowKit
set_option linter.unusedVariables false

/-- A copy under way: the argument's box, the answer's cells, the copy. -/
structure CE (w : World) (tb tr : TypeId) (sc zs vs : Array Value) (wr : World) : Prop where
  below : Below w.heap.size w wr
  box : wr.heap[w.heap.size]? = some (.cells sc tb (0, 0))
  res : wr.heap[w.heap.size + 1]? = some (.cells zs tr (0, 0))
  var : wr.heap[w.heap.size + 1 + 1]? = some (.cells vs tr (0, 0))
theorem CE.lt {w wr : World} {tb tr : TypeId} {sc zs vs : Array Value} (h : CE w tb tr sc zs vs wr) : w.heap.size + 1 + 1 < wr.heap.size := (Array.getElem?_eq_some_iff.1 h.var).1
theorem CE.call {w wr w' : World} {tb tr : TypeId} {sc zs vs : Array Value} (h : CE w tb tr sc zs vs wr) (b : Below wr.heap.size wr w') : CE w tb tr sc zs vs w' := by
  have := h.lt
  exact ⟨h.below.trans (b.mono h.below.size), by rw [b.block _ (by omega)]; exact h.box, by rw [b.block _ (by omega)]; exact h.res, by rw [b.block _ (by omega)]; exact h.var⟩
theorem CE.put {w wr : World} {tb tr : TypeId} {sc zs vs : Array Value} (h : CE w tb tr sc zs vs wr) (i : Nat) (v : Value) : CE w tb tr sc zs (vs.setIfInBounds i v) (wr.setCell ⟨w.heap.size + 1 + 1, i, none⟩ v) := by
  have hw : Wr (w.heap.size + 1 + 1) wr (wr.setCell ⟨w.heap.size + 1 + 1, i, none⟩ v) := (Wr.refl _ _).setCell _ _
  exact ⟨h.below.trans (hw.below (by omega)), (hw.block _ (by omega)).trans h.box, (hw.block _ (by omega)).trans h.res, heap_setCell_same _ _ _ _ _ _ h.var⟩
theorem CE.start (w : World) (tb tr : TypeId) (sc zs vs : Array Value) : CE w tb tr sc zs vs (((w.alloc (.cells sc tb)).alloc (.cells zs tr)).alloc (.cells vs tr)) := by
  refine ⟨(((Below.refl _ _).alloc (Nat.le_refl _) _).alloc (by simp) _).alloc (by simp; omega) _, ?_, ?_, ?_⟩
  · rw [Below.heap_alloc _ _ w.heap.size (by simp; omega), Below.heap_alloc _ _ w.heap.size (by simp)]; exact heap_alloc_new w _
  · rw [Below.heap_alloc _ _ (w.heap.size + 1) (by simp)]
    have := heap_alloc_new (w.alloc (.cells sc tb)) (.cells zs tr)
    rwa [show (w.alloc (.cells sc tb)).heap.size = w.heap.size + 1 by simp] at this
  · have := heap_alloc_new ((w.alloc (.cells sc tb)).alloc (.cells zs tr)) (.cells vs tr)
    rwa [show ((w.alloc (.cells sc tb)).alloc (.cells zs tr)).heap.size = w.heap.size + 1 + 1 by simp] at this
/-- Block g is a row. -/
def RowV (w : World) (g : Nat) (t : TypeId) (cs : Array Value) : Prop := w.heap[g]? = some (.cells cs t (0, 0))
theorem RowV.lt {w : World} {g : Nat} {t : TypeId} {cs : Array Value} (h : RowV w g t cs) : g < w.heap.size := (Array.getElem?_eq_some_iff.1 h).1
theorem RowV.below {w w' : World} {g : Nat} {t : TypeId} {cs : Array Value} (h : RowV w g t cs) (b : Below w.heap.size w w') : RowV w' g t cs := by unfold RowV; rw [b.block g h.lt]; exact h
theorem RowV.wr {w w' : World} {g V : Nat} {t : TypeId} {cs : Array Value} (h : RowV w g t cs) (hw : Wr V w w') (hne : V < g) : RowV w' g t cs := by unfold RowV; rw [hw.block g (by omega)]; exact h
def iC (xs : List Int) : Array Value := (xs.map (Value.int .i64)).toArray
theorem RowV.i64 {w : World} {g : Nat} {t : TypeId} {xs : List Int} (h : RowV w g t (iC xs)) : At .i64 w (some ⟨g, 0, none⟩) xs :=
  .inr ⟨g, 0, rfl, h.lt, fun i hi => by rw [Nat.zero_add, cell_of_row w g i _ _ _ h]; simp [iC, hi]⟩
theorem RowV.fz {w : World} {g : Nat} {t : TypeId} {cs : Array Value} (h : RowV w g t cs) (i : Nat) : w.frozen? ⟨g, i, none⟩ = false := frozen_of_row w g i _ _ h
theorem RowV.of_owns {w : World} {B g n : Nat} {xs : List Int} (h : w.ownsRow B 2 1 (.slice (some ⟨g, 0, none⟩) n n) n (xs.map (Value.int .i64))) : RowV w g 2 (iC xs) := by
  rcases h.2 with ⟨h', _⟩ | ⟨g', cap, cur, h', hb, hh, hc, hm, hs, ht⟩
  · cases h'
  · cases h'
    unfold RowV
    rw [hh]
    have : cur = iC xs := by
      apply Array.toList_inj.1
      rw [List.take_of_length_le (by rw [Array.length_toList, hs]; exact Nat.le_refl _)] at ht
      rw [ht]; simp [iC]
    rw [this]
set_option maxHeartbeats 400000 in
theorem toIR_any (a : Option Addr) (n cap : Nat) (zs : List Int) (w : World) (hn : zs.length = n) (hm : n ≤ 1048576) (ha : At .i64 w a zs) :
    Calls Try.prog 45 #[.slice a n cap] w fun e w' => e = .returned (.slice (some ⟨w.heap.size, 0, none⟩) n n) ∧ RowV w' w.heap.size 2 (iC zs) ∧ Below w.heap.size w w' :=
  (toI_any a n cap zs w hn hm ha).mono (fun e w' ⟨h1, h2, h3⟩ => ⟨h1, RowV.of_owns h2, h3⟩)
theorem row_full {cur : Array Value} {xs : List Int} {m : Nat} (hs : cur.size = m) (hl : xs.length = m) (h : ∀ i, i < m → cur[i]? = some (.int .i64 (xs.getD i 0))) : cur = iC xs := by
  apply Array.ext_getElem?
  intro i
  by_cases hi : i < m
  · rw [h i hi]; simp [iC, show i < xs.length by omega]
  · rw [Array.getElem?_eq_none (by omega), Array.getElem?_eq_none (by simp [iC]; omega)]
set_option maxHeartbeats 1000000 in
theorem toTR_any (a : Option Addr) (n cap : Nat) (T : List Int) (w : World) (hl : T.length = n * 2) (hn : n ≤ 1048576) (ha : At .i64 w a T) :
    Calls Try.prog 46 #[.slice a n cap] w fun e w' => e = .returned (.slice (some ⟨w.heap.size, 0, none⟩) n n) ∧ RowV w' w.heap.size 92 (iC T) ∧ Below w.heap.size w w' := by
  obtain ⟨i0, hi, hz0, hz1, hz2⟩ := info_parts Try.infoTap
  have HI : Hid (i0.bytes = 16) := hz2
  have HLT : Hid (T.length = n * 2) := hl
  have HA : Hid (At .i64 w a T) := ha
  clear hz2 hl ha
  go_enter Try.func46, Try.ntmps46
  go_wp2_with (first
    | (at_make; refine wpList_make_full _ rfl _ _ 36 rfl w.heap.size 92 i0 (.agg #[.int .i64 0, .int .i64 0]) 2 Try.underlying36 hi hz0 hz1 _ _ _ _ n rfl rfl rfl rfl ?c1 ?c2 ?c3 ?_)
    | fail)
  case c1 => rw [HI.out]; omega
  case c2 => unfold maxLen; omega
  case c3 => exact Nat.le_refl _
  intro w1 hown hgrow
  have hb1 : Below w.heap.size w w1 := (Below.refl _ _).grown hgrow (Nat.le_refl _) (by simp)
  have hst : TT w w1 w.heap.size n T 0 := by
    obtain ⟨h1, ⟨h2, _⟩ | ⟨g', cap, cur, hv, hb, hh, hc, hm, hs, ht⟩⟩ := hown
    · cases h2
    · cases hv
      exact ⟨hb1, ⟨cur, hh, hs, fun i hi => by omega⟩⟩
  have HST : Hid (TT w w1 w.heap.size n T 0) := hst
  clear hown hgrow hb1 hst hi hz0 hz1
  go_wp2
  go_loopw [4] (fun i wr => ∃ k : Nat, k ≤ n ∧ i = .int .i64 k ∧ TT w wr w.heap.size n T k) (fun i _ => n - (intOf i).toNat)
  case atStart => exact ⟨0, Nat.zero_le _, rfl, HST.out⟩
  case round =>
    clear HST
    obtain ⟨k, hk, rfl, st⟩ := hrel
    by_cases hlt : k < n
    · have hlt' : (k : Int) < n := by omega
      obtain ⟨b, off, ea, hb, hc⟩ := (HA.out.below st.below).get (by have := HLT.out; omega)
      have t0 := hc (k * 2) (by have := HLT.out; omega)
      have t1 := hc (k * 2 + 1) (by have := HLT.out; omega)
      rw [← Nat.add_assoc] at t1
      subst ea
      obtain ⟨cur, c1, c2, c3⟩ := st.blk
      have hgl := (Array.getElem?_eq_some_iff.1 c1).1
      have HC1 : Hid (wr.heap[w.heap.size]? = some (.cells cur 92 (0, 0))) := c1
      have HSP : Hid (∀ w1, Below wr.heap.size wr w1 → TT w ((w1.setCell ⟨w.heap.size, k * 2, none⟩ (.int .i64 (T.getD (k * 2) 0))).setCell ⟨w.heap.size, k * 2 + 1, none⟩ (.int .i64 (T.getD (k * 2 + 1) 0))) w.heap.size n T (k + 1)) := fun w1 hb => st.step hlt (Nat.le_refl _) hb
      clear hc hb c3 st c1
      generalize T.getD (k * 2) 0 = s at *
      generalize T.getD (k * 2 + 1) 0 = nw at *
      go_wp2_with fail
      refine (toT1_any s nw wr).mono ?_
      rintro e w2 ⟨rfl, hb2⟩
      have k1 : w2.heap[w.heap.size]? = some (.cells cur 92 (0, 0)) := by rw [hb2.block _ hgl]; exact HC1.out
      have d0 : w2.cell? ⟨w.heap.size, k * 2, none⟩ = some (cur[k * 2]'(by omega)) := by rw [cell_of_row w2 _ _ _ _ _ k1]; simp
      have d1 : w2.cell? ⟨w.heap.size, k * 2 + 1, none⟩ = some (cur[k * 2 + 1]'(by omega)) := by rw [cell_of_row w2 _ _ _ _ _ k1]; simp
      have f0 := frozen_of_row w2 w.heap.size (k * 2) _ _ k1
      have f1 := frozen_of_row w2 w.heap.size (k * 2 + 1) _ _ k1
      generalize (cur[k * 2]'(by omega)) = o0 at *
      generalize (cur[k * 2 + 1]'(by omega)) = o1 at *
      have HEN : Hid (TT w ((w2.setCell ⟨w.heap.size, k * 2, none⟩ (.int .i64 s)).setCell ⟨w.heap.size, k * 2 + 1, none⟩ (.int .i64 nw)) w.heap.size n T (k + 1)) := HSP.out w2 hb2
      clear k1 hb2 t0 t1 HSP HC1
      go_wp2
      go_roundw
      case rel => exact ⟨k + 1, by omega, by go_num, HEN.out⟩
      case measure => simp [intOf]; omega
    · have hkn : k = n := by omega
      have hlt' : ¬ ((k : Int) < n) := by omega
      have HM : Hid (RowV wr w.heap.size 92 (iC T) ∧ Below w.heap.size w wr) := by
        obtain ⟨cur, c1, c2, c3⟩ := st.blk
        refine ⟨?_, st.below⟩
        unfold RowV
        rw [c1, row_full c2 HLT.out (fun i hi => c3 i (by omega))]
      clear st
      go_wp2
      go_ret
      exact ⟨rfl, HM.out.1, HM.out.2⟩
end Go.Proofs.Ythghkfncpdnpoad
