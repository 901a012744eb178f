/-
  Own work: copies of structs, as the laws make them: what lies where.
-/
import Derived.Test.YtmnoelfabldpfaaSvG
import Derived.Test.YtmnoelfabldpfaaMSwD
namespace Go.Proofs.Ytmnoelfabldpfaa
open Go.ChangeShapes Go.WideShapes Go.ChangeAt Go.RowKit
set_option linter.unusedVariables false

/-- A copy under way: the argument's box, the answer's cells, the copy. -/
structure CE (w : World) (tb tr : TypeId) (sc zs vs : Array Value) (wr : World) : Prop where
  below : Below w.heap.size w wr
  box : wr.heap[w.heap.size]? = some (.cells sc tb (0, 0))
  res : wr.heap[w.heap.size + 1]? = some (.cells zs tr (0, 0))
  var : wr.heap[w.heap.size + 1 + 1]? = some (.cells vs tr (0, 0))
theorem CE.lt {w wr : World} {tb tr : TypeId} {sc zs vs : Array Value} (h : CE w tb tr sc zs vs wr) : w.heap.size + 1 + 1 < wr.heap.size := (Array.getElem?_eq_some_iff.1 h.var).1
theorem CE.call {w wr w' : World} {tb tr : TypeId} {sc zs vs : Array Value} (h : CE w tb tr sc zs vs wr) (b : Below wr.heap.size wr w') : CE w tb tr sc zs vs w' := by
  have := h.lt
  exact ⟨h.below.trans (b.mono h.below.size), by rw [b.block _ (by omega)]; exact h.box, by rw [b.block _ (by omega)]; exact h.res, by rw [b.block _ (by omega)]; exact h.var⟩
theorem CE.put {w wr : World} {tb tr : TypeId} {sc zs vs : Array Value} (h : CE w tb tr sc zs vs wr) (i : Nat) (v : Value) : CE w tb tr sc zs (vs.setIfInBounds i v) (wr.setCell ⟨w.heap.size + 1 + 1, i, none⟩ v) := by
  have hw : Wr (w.heap.size + 1 + 1) wr (wr.setCell ⟨w.heap.size + 1 + 1, i, none⟩ v) := (Wr.refl _ _).setCell _ _
  exact ⟨h.below.trans (hw.below (by omega)), (hw.block _ (by omega)).trans h.box, (hw.block _ (by omega)).trans h.res, heap_setCell_same _ _ _ _ _ _ h.var⟩
theorem CE.start (w : World) (tb tr : TypeId) (sc zs vs : Array Value) : CE w tb tr sc zs vs (((w.alloc (.cells sc tb)).alloc (.cells zs tr)).alloc (.cells vs tr)) := by
  refine ⟨(((Below.refl _ _).alloc (Nat.le_refl _) _).alloc (by simp) _).alloc (by simp; omega) _, ?_, ?_, ?_⟩
  · rw [Below.heap_alloc _ _ w.heap.size (by simp; omega), Below.heap_alloc _ _ w.heap.size (by simp)]; exact heap_alloc_new w _
  · rw [Below.heap_alloc _ _ (w.heap.size + 1) (by simp)]
    have := heap_alloc_new (w.alloc (.cells sc tb)) (.cells zs tr)
    rwa [show (w.alloc (.cells sc tb)).heap.size = w.heap.size + 1 by simp] at this
  · have := heap_alloc_new ((w.alloc (.cells sc tb)).alloc (.cells zs tr)) (.cells vs tr)
    rwa [show ((w.alloc (.cells sc tb)).alloc (.cells zs tr)).heap.size = w.heap.size + 1 + 1 by simp] at this
/-- Block g is a row. -/
def RowV (w : World) (g : Nat) (t : TypeId) (cs : Array Value) : Prop := w.heap[g]? = some (.cells cs t (0, 0))
theorem RowV.lt {w : World} {g : Nat} {t : TypeId} {cs : Array Value} (h : RowV w g t cs) : g < w.heap.size := (Array.getElem?_eq_some_iff.1 h).1
theorem RowV.below {w w' : World} {g : Nat} {t : TypeId} {cs : Array Value} (h : RowV w g t cs) (b : Below w.heap.size w w') : RowV w' g t cs := by unfold RowV; rw [b.block g h.lt]; exact h
theorem RowV.wr {w w' : World} {g V : Nat} {t : TypeId} {cs : Array Value} (h : RowV w g t cs) (hw : Wr V w w') (hne : V < g) : RowV w' g t cs := by unfold RowV; rw [hw.block g (by omega)]; exact h
def iC (xs : List Int) : Array Value := (xs.map (Value.int .i64)).toArray
theorem RowV.i64 {w : World} {g : Nat} {t : TypeId} {xs : List Int} (h : RowV w g t (iC xs)) : At .i64 w (some ⟨g, 0, none⟩) xs :=
  .inr ⟨g, 0, rfl, h.lt, fun i hi => by rw [Nat.zero_add, cell_of_row w g i _ _ _ h]; simp [iC, hi]⟩
theorem RowV.fz {w : World} {g : Nat} {t : TypeId} {cs : Array Value} (h : RowV w g t cs) (i : Nat) : w.frozen? ⟨g, i, none⟩ = false := frozen_of_row w g i _ _ h
theorem RowV.of_owns {w : World} {B g n : Nat} {xs : List Int} (h : w.ownsRow B 2 1 (.slice (some ⟨g, 0, none⟩) n n) n (xs.map (Value.int .i64))) : RowV w g 2 (iC xs) := by
  rcases h.2 with ⟨h', _⟩ | ⟨g', cap, cur, h', hb, hh, hc, hm, hs, ht⟩
  · cases h'
  · cases h'
    unfold RowV
    rw [hh]
    have : cur = iC xs := by
      apply Array.toList_inj.1
      rw [List.take_of_length_le (by rw [Array.length_toList, hs]; exact Nat.le_refl _)] at ht
      rw [ht]; simp [iC]
    rw [this]
theorem row_full {cur : Array Value} {xs : List Int} {m : Nat} (hs : cur.size = m) (hl : xs.length = m) (h : ∀ i, i < m → cur[i]? = some (.int .i64 (xs.getD i 0))) : cur = iC xs := by
  apply Array.ext_getElem?
  intro i
  by_cases hi : i < m
  · rw [h i hi]; simp [iC, show i < xs.length by omega]
  · rw [Array.getElem?_eq_none (by omega), Array.getElem?_eq_none (by simp [iC]; omega)]
end Go.Proofs.Ytmnoelfabldpfaa
namespace Go.Proofs.Ytmnoelfabldpfaa
open Go.ChangeShapes Go.WideShapes Go.ChangeAt Go.RowKit
set_option linter.unusedVariables false

theorem run_appG0 (tS tE : TypeId) (z : Value) (size bytes : Nat) (hinfo : (Try.prog.info? tE).map (fun i => (i.zero, i.size, i.bytes)) = some (some z, size, bytes)) (hu : Try.prog.underlying tS = some (.slice tE))
    (w : World) (ty : TypeId) (v : Addr) (x : Option Addr) (c : Nat) : (Builtin.append_ #[tS, tS] ty #[.slice (some v) 0 0, .slice x 0 c]).run Try.prog w = .ok (.slice (some v) 0 0) w := by
  obtain ⟨i0, hi, hz0, hz1, hz2⟩ := info_parts hinfo
  have hf := fun ad => run_firstCells_some (P := Try.prog) w i0.size 0 ad 0 c [] (by simp) (fun j v hv => by simp at hv)
  have hs : ∀ p, (storeCells p []).run Try.prog w = .ok () w := fun _ => rfl
  cases x with
  | none => simp [Builtin.append_, run_underlying hu, sizeOf, typeInfo, zeroValue, hi, hz0, Builtin.lenOf, run_firstCells_none, hs]
  | some ad => simp [Builtin.append_, run_underlying hu, sizeOf, typeInfo, zeroValue, hi, hz0, Builtin.lenOf, hf, hs]
/-- An empty slice that was just made. -/
def EmS (lo : Nat) (tE : TypeId) (w : World) (v : Value) : Prop := ∃ g, v = .slice (some ⟨g, 0, none⟩) 0 0 ∧ lo ≤ g ∧ w.heap[g]? = some (.cells #[] tE (0, 0))
theorem EmS.below {lo : Nat} {tE : TypeId} {w w' : World} {v : Value} (h : EmS lo tE w v) (b : Below w.heap.size w w') : EmS lo tE w' v := by
  obtain ⟨g, e, h1, h2⟩ := h; exact ⟨g, e, h1, by rw [b.block g (Array.getElem?_eq_some_iff.1 h2).1]; exact h2⟩
theorem EmS.wr {lo R : Nat} {tE : TypeId} {w w' : World} {v : Value} (h : EmS lo tE w v) (hw : Wr R w w') (hR : R < lo) : EmS lo tE w' v := by
  obtain ⟨g, e, h1, h2⟩ := h; exact ⟨g, e, h1, by rw [hw.block g (by omega)]; exact h2⟩
theorem EmS.new {lo : Nat} (tE : TypeId) (w : World) (h : lo ≤ w.heap.size) : EmS lo tE (w.alloc (.cells #[] tE)) (.slice (some ⟨w.heap.size, 0, none⟩) 0 0) := ⟨_, rfl, h, heap_alloc_new w _⟩
theorem EmS.owns {lo : Nat} {tE : TypeId} {w : World} {g : Nat} (size : Nat) (h1 : lo ≤ g) (h2 : w.heap[g]? = some (.cells #[] tE (0, 0))) : w.ownsRow lo tE size (.slice (some ⟨g, 0, none⟩) 0 0) 0 [] :=
  ⟨by simp, .inr ⟨g, 0, #[], rfl, h1, h2, Nat.le_refl _, by simp [maxLen], by simp, by simp⟩⟩
theorem wp_appG (tS tE : TypeId) (z : Value) (size bytes : Nat) (hinfo : (Try.prog.info? tE).map (fun i => (i.zero, i.size, i.bytes)) = some (some z, size, bytes)) (hu : Try.prog.underlying tS = some (.slice tE)) (hzs : z.cells.size = size) (hsz : 0 < size) (hby : bytes ≤ 64)
    (w : World) {o : Oper} {a : Act} {K : Act → World → Prop} {Q : Exit → Act → World → Prop} (s x : Operand) (hop : o.op = Op.call { callee := Callee.builtin Builtin.append, args := #[s, x], argTypes := #[tS, tS] })
    (S : Nat) (v : Value) (hs : a.eval s = v) (hem : EmS S tE w v) (xa : Option Addr) (n c : Nat) (zs : List Int) (hx : a.eval x = .slice xa n c) (hl : zs.length = n * size) (hA : At .i64 w xa zs) (hb : n ≤ 1048576) (hSw : S ≤ w.heap.size)
    (h : ∀ v' w', w'.ownsRow S tE size v' n (zs.map (Value.int .i64)) → Below w.heap.size w w' → K (a.put o.dst v') w') : o.wp Try.prog a w K Q := by
  obtain ⟨B, rfl, hB, hrow⟩ := hem
  have hown := EmS.owns size hB hrow
  by_cases h0 : n = 0
  · subst h0
    have hz : zs = [] := List.eq_nil_of_length_eq_zero (by omega)
    have hk := h (.slice (some ⟨B, 0, none⟩) 0 0) w (by rw [hz]; exact hown) (Below.refl _ _)
    have hr := run_appG0 tS tE z size bytes hinfo hu w o.type ⟨B, 0, none⟩ xa c
    unfold Oper.wp execOp
    simp only [hop, resolve, invoke, builtin, Sem.run_bind, Sem.run_pure, Result.andThen_ok, List.map_toArray, List.map_cons, List.map_nil, hs, hx, hr]
    exact hk
  · have hz0' : 0 < zs.length := by rw [hl]; exact Nat.mul_pos (by omega) hsz
    obtain ⟨b, off, rfl, hbl, hc⟩ := hA.get hz0'
    obtain ⟨i0, hi, hz0, hz1, hz2⟩ := info_parts hinfo
    have hnews : ∀ j u, (zs.map (Value.int .i64))[j]? = some u → w.cell? ((⟨b, off, none⟩ : Addr).add j) = some u := by
      intro j u hu
      have hj : j < zs.length := by have := (List.getElem?_eq_some_iff.1 hu).1; simpa using this
      rw [Addr.add_lit, hc j hj]
      simp [hj] at hu; simp [hj, hu]
    have hle : n * bytes ≤ 1048576 * 64 := Nat.mul_le_mul hb hby
    have hfit : Builtin.nextslicecap (0 + n) 0 * i0.bytes ≤ 281474976710656 := by rw [Nat.zero_add, nextslicecap_zero (by omega), hz2]; omega
    have hg := run_append_grow (P := Try.prog) w tS o.type tE i0 z hu hi hz0 ⟨B, 0, none⟩ 0 0 [] (by simp) (fun j v hv => by simp at hv) ⟨b, off, none⟩ n c (zs.map (Value.int .i64)) (by simp [hz1, hl]) hnews (by omega) (by omega) hfit
    obtain ⟨v', w', hr, h2, h3, h4⟩ := run_append_own (P := Try.prog) w S tS o.type tE i0 z size bytes hu hi hz0 hz1 hz2 hzs hsz _ 0 [] hown ⟨b, off, none⟩ n c (zs.map (Value.int .i64)) (by simp [hl]) hnews (ints_oneCell _ _) (by unfold maxLen; omega) (by rw [Nat.zero_add]; omega) hSw
    have he := hr.symm.trans hg
    injection he with e1 e2
    have hBl : Below w.heap.size w w' := by rw [e2]; exact (Below.refl _ _).drew.alloc (Nat.le_refl _) _
    have hk := h v' w' (by simpa using h2) hBl
    unfold Oper.wp execOp
    simp only [hop, resolve, invoke, builtin, Sem.run_bind, Sem.run_pure, Result.andThen_ok, List.map_toArray, List.map_cons, List.map_nil, hs, hx, hr]
    exact hk
theorem wpList_appG (tS tE : TypeId) (z : Value) (size bytes : Nat) (hinfo : (Try.prog.info? tE).map (fun i => (i.zero, i.size, i.bytes)) = some (some z, size, bytes)) (hu : Try.prog.underlying tS = some (.slice tE)) (hzs : z.cells.size = size) (hsz : 0 < size) (hby : bytes ≤ 64)
    (w : World) {ops : Array Oper} {rest : List Oper} {o : Oper} {a : Act} {Q : Exit → Act → World → Prop} (hgd : o.guard = none) (s x : Operand) (hop : o.op = Op.call { callee := Callee.builtin Builtin.append, args := #[s, x], argTypes := #[tS, tS] })
    (S : Nat) (v : Value) (hs : a.eval s = v) (hem : EmS S tE w v) (xa : Option Addr) (n c : Nat) (zs : List Int) (hx : a.eval x = .slice xa n c) (hl : zs.length = n * size) (hA : At .i64 w xa zs) (hb : n ≤ 1048576) (hSw : S ≤ w.heap.size)
    (h : ∀ v' w', w'.ownsRow S tE size v' n (zs.map (Value.int .i64)) → Below w.heap.size w w' → wpList Try.prog ops Q rest (a.put o.dst v') w') : wpList Try.prog ops Q (o :: rest) a w :=
  wpList_plain hgd fun _ hK => wp_appG tS tE z size bytes hinfo hu hzs hsz hby w s x hop S v hs hem xa n c zs hx hl hA hb hSw fun v' w' h1 h2 => hK _ _ (h v' w' h1 h2)
end Go.Proofs.Ytmnoelfabldpfaa
