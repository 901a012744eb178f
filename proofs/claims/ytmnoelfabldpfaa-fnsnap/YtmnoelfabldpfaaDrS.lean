/-
  Own work: a drawn state: its lists are serials in order (written by wip/mkdrs.py).
-/
import Derived.Test.YtmnoelfabldpfaaDraw
import Derived.Test.YtmnoelfabldpfaaMSwD
import Derived.Test.YtmnoelfabldpfaaSwK
import Derived.Test.YtmnoelfabldpfaaMSvW
import Derived.Test.YtmnoelfabldpfaaMApL
import Derived.Test.YtmnoelfabldpfaaMSnY
import Derived.Deep.Cut
namespace Go.Proofs.Ytmnoelfabldpfaa
open Go.ChangeShapes Go.WideShapes Go.ChangeAt Go.RowKit
set_option linter.unusedVariables false

theorem upTo_or_len (P : Nat → Bool) (a k : Nat) : (upTo (fun v => P v || decide (v = a)) k).length ≤ (upTo P k).length + (if a < k then 1 else 0) := by
  induction k with
  | zero => simp [upTo]
  | succ k ih =>
    rw [upTo_succ, upTo_succ]
    by_cases hp : P k = true
    · rw [if_pos (by simp [hp]), if_pos hp]
      simp only [List.length_append, List.length_cons, List.length_nil]
      split at ih <;> split <;> omega
    · by_cases ha : k = a
      · rw [if_pos (by simp [ha]), if_neg hp]
        simp only [List.length_append, List.length_cons, List.length_nil]
        rw [if_neg (by omega)] at ih
        rw [if_pos (by omega)]; omega
      · rw [if_neg (by simp [hp, ha]), if_neg hp]
        split at ih <;> split <;> omega
theorem withS_len1 {xs : List Int} (h : SerP xs) (a : Nat) : (withS xs a).length ≤ xs.length + 1 := by
  classical
  have e := h.eq_upTo (fun v => decide ((v : Int) ∈ xs)) (fun v _ => by simp)
  have e2 : withS xs a = upTo (fun v => (fun v : Nat => decide ((v : Int) ∈ xs)) v || decide (v = a)) 256 := by
    unfold withS
    congr 1
    funext v
    by_cases h1 : (v : Int) ∈ xs <;> by_cases h2 : v = a <;> simp [h1, h2]
  have h3 := upTo_or_len (fun v => decide ((v : Int) ∈ xs)) a 256
  rw [e] at h3
  rw [e2]
  show (upTo (fun v => decide ((v : Int) ∈ xs) || decide (v = a)) 256).length ≤ _
  split at h3 <;> omega
theorem CurB.lt {w : World} {g : Nat} {x : Option Addr} {n cap : Nat} (h : CurB w g x n cap) : g < w.heap.size := by
  obtain ⟨i, q, _, _, _, _, h⟩ := h; exact (Array.getElem?_eq_some_iff.1 h).1
theorem CurB.keep {w w' : World} {g : Nat} {x : Option Addr} {n cap : Nat} (h : CurB w g x n cap) (hk : w'.heap[g]? = w.heap[g]?) : CurB w' g x n cap := by
  obtain ⟨i, q, h1, h2, h3, h4, h5⟩ := h; exact ⟨i, q, h1, h2, h3, h4, hk.trans h5⟩
/-- While a state is drawn: the boxes, the cursor and the two lists. -/
structure DS0 (w : World) (g : Nat) (x : Option Addr) (n cap S : Nat) (vD vU vT : Value) (k : Int) (D U : List Int) (wr : World) : Prop where
  wg : WrG g w wr
  cb : CurB wr g x n cap
  bx : wr.heap[w.heap.size]? = some (.cells #[.slice none 0 0, .slice none 0 0, .int .i64 0, .slice none 0 0] 74 (0, 0))
  s : wr.heap[S]? = some (.cells #[vD, vU, .int .i64 k, vT] 74 (0, 0))
  hg : g < w.heap.size
  hs : w.heap.size < S
  d : Iow (S + 1) wr vD D
  u : Iow (S + 1) wr vU U
  pd : SerP D
  pu : SerP U
  ap : ApV vD vU
section
variable {w wr w' : World} {g : Nat} {x : Option Addr} {n cap S : Nat} {vD vU vT v : Value} {k : Int} {D U : List Int} {T : List Int} {nT : Nat} {row : Option Nat}
theorem DS0.lt (h : DS0 w g x n cap S vD vU vT k D U wr) : S < wr.heap.size := (Array.getElem?_eq_some_iff.1 h.s).1
theorem DS0.ct (h : DS0 w g x n cap S vD vU vT k D U wr) (ht : CurT w g x n) : CurT wr g x n := ht.wr (fun q hq => h.wg.block q (Nat.lt_trans hq h.hg) (Nat.ne_of_lt hq))
theorem DS0.cur (h : DS0 w g x n cap S vD vU vT k D U wr) (hc : CurB w' g x n cap) (hw : Wr g wr w') : DS0 w g x n cap S vD vU vT k D U w' :=
  ⟨h.wg.trans hw.wrG, hc, by rw [hw.block _ (Nat.ne_of_gt h.hg)]; exact h.bx, by rw [hw.block _ (by have := h.hg; have := h.hs; omega)]; exact h.s, h.hg, h.hs, h.d.wr hw (by have := h.hg; have := h.hs; omega), h.u.wr hw (by have := h.hg; have := h.hs; omega), h.pd, h.pu, h.ap⟩
theorem DS0.call (h : DS0 w g x n cap S vD vU vT k D U wr) (b : Below wr.heap.size wr w') : DS0 w g x n cap S vD vU vT k D U w' :=
  ⟨h.wg.trans (WrG.of_below b), h.cb.keep (b.block g h.cb.lt), by rw [b.block _ (Nat.lt_trans h.hs h.lt)]; exact h.bx, by rw [b.block _ h.lt]; exact h.s, h.hg, h.hs, h.d.below b, h.u.below b, h.pd, h.pu, h.ap⟩
theorem DS0.gen (h : DS0 w g x n cap S vD vU vT k D U wr) (e1 : w'.os = wr.os) (e2 : w'.tape = wr.tape) (e3 : w'.output = wr.output) (hz : wr.heap.size ≤ w'.heap.size) (hlow : ∀ q, q ≤ S → w'.heap[q]? = wr.heap[q]?) (hd : Iow (S + 1) w' vD D) (hu : Iow (S + 1) w' vU U) : DS0 w g x n cap S vD vU vT k D U w' := by
  have h1 := h.hg
  have h2 := h.hs
  exact ⟨⟨e1.trans h.wg.os, e2.trans h.wg.tape, e3.trans h.wg.output, Nat.le_trans h.wg.size hz, fun q hq hqg => (hlow q (by omega)).trans (h.wg.block q hq hqg)⟩, h.cb.keep (hlow g (by omega)), by rw [hlow _ (by omega)]; exact h.bx, by rw [hlow S (Nat.le_refl _)]; exact h.s, h.hg, h.hs, hd, hu, h.pd, h.pu, h.ap⟩
theorem io_oth {B q : Nat} {xs : List Int} (hi : Iow B wr v xs) (hg : wr.grownBy w' row) (hq : ∀ q, row = some q → ∃ cs fr, wr.heap[q]? = some (.cells cs 94 fr)) : Iow B w' v xs := by
  have hT : (94 : TypeId) ≠ 2 := by decide
  obtain ⟨a, m, c, rfl⟩ := hi.form
  refine ⟨hi.1, ?_⟩
  rcases hi.2 with h' | ⟨b, cap, cur, h1, h2, h3, h4⟩
  · exact .inl h'
  · refine .inr ⟨b, cap, cur, h1, h2, ?_, h4⟩
    rw [hg.block b (Array.getElem?_eq_some_iff.1 h3).1 (fun e => ?_)]
    · exact h3
    · obtain ⟨cs, fr, hc⟩ := hq b e.symm
      rw [hc] at h3
      simp at h3
theorem TapO.typed {B : Nat} (h : TapO B wr v T nT) : ∀ q, v.ownBlock = some q → B ≤ q ∧ ∃ cs fr, wr.heap[q]? = some (.cells cs 94 fr) := fun q hq => by
  rcases h.2 with ⟨h', _⟩ | ⟨b, c, cur, h', hb, hh, _⟩
  · rw [h'] at hq; simp [Value.ownBlock] at hq
  · rw [h'] at hq; simp [Value.ownBlock] at hq; subst hq; exact ⟨hb, _, _, hh⟩
theorem DS0.app (h : DS0 w g x n cap S vD vU vT k D U wr) (ht : TapO (S + 1) wr vT T nT) (hg : wr.grownBy w' vT.ownBlock) : DS0 w g x n cap S vD vU vT k D U w' := by
  refine h.gen hg.os hg.tape hg.output hg.size (fun q hq => hg.block q (Nat.lt_of_le_of_lt hq h.lt) (fun e => ?_)) (io_oth (q := 0) h.d hg (fun q hq => (ht.typed q hq).2)) (io_oth (q := 0) h.u hg (fun q hq => (ht.typed q hq).2))
  have := (ht.typed q e.symm).1
  omega
theorem DS0.set (h : DS0 w g x n cap S vD vU vT k D U wr) {i : Nat} {cs : Array Value} (e : (#[vD, vU, .int .i64 k, vT] : Array Value).setIfInBounds i v = cs) : (wr.setCell ⟨S, i, none⟩ v).heap[S]? = some (.cells cs 74 (0, 0)) ∧ Wr S wr (wr.setCell ⟨S, i, none⟩ v) :=
  ⟨by rw [heap_setCell_same wr S i _ _ v h.s, e], (Wr.refl S wr).setCell i v⟩
theorem DS0.put (h : DS0 w g x n cap S vD vU vT k D U wr) {i : Nat} {vD' vU' vT' : Value} {k' : Int} {D' U' : List Int} (e : (#[vD, vU, .int .i64 k, vT] : Array Value).setIfInBounds i v = #[vD', vU', .int .i64 k', vT']) (hd : Iow (S + 1) wr vD' D') (hu : Iow (S + 1) wr vU' U') (pd : SerP D') (pu : SerP U') (ap : ApV vD' vU') :
    DS0 w g x n cap S vD' vU' vT' k' D' U' (wr.setCell ⟨S, i, none⟩ v) := by
  obtain ⟨hs, hw⟩ := h.set e
  have h1 := h.hg
  have h2 := h.hs
  exact ⟨⟨hw.os.trans h.wg.os, hw.tape.trans h.wg.tape, hw.output.trans h.wg.output, by rw [hw.size]; exact h.wg.size, fun q hq hqg => (hw.block q (by omega)).trans (h.wg.block q hq hqg)⟩, h.cb.keep (hw.block g (by omega)), by rw [hw.block _ (by omega)]; exact h.bx, hs, h.hg, h.hs, hd.wr hw (by omega), hu.wr hw (by omega), pd, pu, ap⟩
theorem DS0.cells (h : DS0 w g x n cap S vD vU vT k D U wr) : wr.cell? ⟨S, 0, none⟩ = some vD ∧ wr.cell? ⟨S, 1, none⟩ = some vU ∧ wr.cell? ⟨S, 2, none⟩ = some (.int .i64 k) ∧ wr.cell? ⟨S, 3, none⟩ = some vT ∧ ∀ i, wr.frozen? ⟨S, i, none⟩ = false :=
  ⟨cell_of_row _ _ _ _ _ _ h.s, cell_of_row _ _ _ _ _ _ h.s, cell_of_row _ _ _ _ _ _ h.s, cell_of_row _ _ _ _ _ _ h.s, fun i => frozen_of_row _ _ _ _ _ h.s⟩
theorem ApV.fresh_l {xs ys : List Int} {B : Nat} (hi : Iow wr.heap.size w' v xs) (hu : Iow B wr vU ys) : ApV v vU ∧ ApV vU v := by
  have h1 : ∀ q, vU.ownBlock = some q → q < wr.heap.size := fun q hq => by
    rcases hu.2 with ⟨h', _⟩ | ⟨b, c, cur, h', hb, hh, _⟩
    · rw [h'] at hq; simp [Value.ownBlock] at hq
    · rw [h'] at hq; simp [Value.ownBlock] at hq; subst hq; exact (Array.getElem?_eq_some_iff.1 hh).1
  exact ⟨fun q hq hq' => by have := hi.ownBlock q hq; have := h1 q hq'; omega, fun q hq hq' => by have := hi.ownBlock q hq'; have := h1 q hq; omega⟩
end
theorem ApV.nil_l (v : Value) : ApV (.slice none 0 0) v := fun k hk => by simp [Value.ownBlock] at hk
/-- While a tap is appended: f1, f4, f6, f7, f9 say what is through. -/
def EAT (w : World) (g : Nat) (x : Option Addr) (n cap S : Nat) (vD vU vT : Value) (k : Int) (D U : List Int) (T : List Int) (nT : Nat) (f1 f4 f5 f6 f7 f9 : Bool) (u6 u7 : Value) (w' : World) : Prop :=
  ((f6 = true → f5 = true) ∧ (f5 = true → f4 = true)) ∧ (f7 = true → f6 = true ∧ f1 = true) ∧ (f9 = true → f7 = true) ∧
  (if f9 = true then ∃ v' T', DS0 w g x n cap S vD vU v' k D U w' ∧ TapO (S + 1) w' v' T' (nT + 1)
   else if f7 = true then DS0 w g x n cap S vD vU vT k D U w' ∧ ∃ T', TapO (S + 1) w' u7 T' (nT + 1)
   else if f6 = true then ∃ (W : World) (s y : Int), w' = W.alloc (.cells #[.int .i64 s, .int .i64 y] 94) ∧ u6 = .slice (some ⟨W.heap.size, 0, none⟩) 1 1 ∧ DS0 w g x n cap S vD vU vT k D U W ∧ TapO (S + 1) W vT T nT
   else DS0 w g x n cap S vD vU vT k D U w' ∧ TapO (S + 1) w' vT T nT)
section
variable {w wr w' : World} {g : Nat} {x : Option Addr} {n cap S : Nat} {vD vU vT v : Value} {k : Int} {D U : List Int} {T : List Int} {nT : Nat} {f1 f4 f5 f6 f7 f9 : Bool} {u6 u7 : Value}
theorem EAT.pre (h : EAT w g x n cap S vD vU vT k D U T nT f1 f4 f5 false f7 f9 u6 u7 w') : DS0 w g x n cap S vD vU vT k D U w' ∧ TapO (S + 1) w' vT T nT ∧ f7 = false ∧ f9 = false := by
  obtain ⟨h0, h1, h2, h3⟩ := h
  have e7 : f7 = false := by
    cases f7 with
    | false => rfl
    | true => exact absurd (h1 rfl).1 (by decide)
  have e9 : f9 = false := by
    cases f9 with
    | false => rfl
    | true => exact absurd (h2 rfl) (by rw [e7]; decide)
  rw [e9, e7, if_neg (by decide), if_neg (by decide), if_neg (by decide)] at h3
  exact ⟨h3.1, h3.2, e7, e9⟩
theorem EAT.no6 (h : EAT w g x n cap S vD vU vT k D U T nT f1 false f5 f6 f7 f9 u6 u7 w') : f5 = false ∧ f6 = false := by
  have e5 : f5 = false := by
    cases f5 with
    | false => rfl
    | true => exact absurd (h.1.2 rfl) (by decide)
  exact ⟨e5, by
    cases f6 with
    | false => rfl
    | true => exact absurd (h.1.1 rfl) (by rw [e5]; decide)⟩
theorem EAT.set4 (h : EAT w g x n cap S vD vU vT k D U T nT f1 f4 f5 f6 f7 f9 u6 u7 w') : EAT w g x n cap S vD vU vT k D U T nT f1 true f5 f6 f7 f9 u6 u7 w' := ⟨⟨h.1.1, fun _ => rfl⟩, h.2⟩
theorem EAT.set5 (h : EAT w g x n cap S vD vU vT k D U T nT f1 f4 f5 f6 f7 f9 u6 u7 w') (e4 : f4 = true) : EAT w g x n cap S vD vU vT k D U T nT f1 f4 true f6 f7 f9 u6 u7 w' := ⟨⟨fun _ => rfl, fun _ => e4⟩, h.2⟩
theorem EAT.load (h : EAT w g x n cap S vD vU vT k D U T nT false f4 f5 f6 f7 f9 u6 u7 w') : w'.heap[S]? = some (.cells #[vD, vU, .int .i64 k, vT] 74 (0, 0)) ∧ EAT w g x n cap S vD vU vT k D U T nT true f4 f5 f6 f7 f9 u6 u7 w' := by
  obtain ⟨h0, h1, h2, h3⟩ := h
  have e7 : f7 = false := by
    cases f7 with
    | false => rfl
    | true => exact absurd (h1 rfl).2 (by decide)
  have e9 : f9 = false := by
    cases f9 with
    | false => rfl
    | true => exact absurd (h2 rfl) (by rw [e7]; decide)
  refine ⟨?_, h0, fun q => ⟨(h1 q).1, rfl⟩, h2, h3⟩
  rw [e9, e7, if_neg (by decide), if_neg (by decide)] at h3
  split at h3
  · obtain ⟨W, s, y, rfl, _, hd, _⟩ := h3
    rw [(below_new W _).block S hd.lt]; exact hd.s
  · exact h3.1.s
theorem EAT.curs (h : EAT w g x n cap S vD vU vT k D U T nT f1 f4 f5 false f7 f9 u6 u7 wr) (hc : CurB w' g x n cap) (hw : Wr g wr w') : EAT w g x n cap S vD vU vT k D U T nT f1 f4 f5 false f7 f9 u6 u7 w' := by
  have hp := h.pre
  obtain ⟨h0, h1, h2, h3⟩ := h
  refine ⟨h0, h1, h2, ?_⟩
  rw [hp.2.2.2, hp.2.2.1, if_neg (by decide), if_neg (by decide), if_neg (by decide)]
  exact ⟨hp.1.cur hc hw, hp.2.1.wrk hw (by have := hp.1.hg; have := hp.1.hs; omega)⟩
theorem EAT.mk6 (h : EAT w g x n cap S vD vU vT k D U T nT f1 f4 f5 false f7 f9 u6 u7 w') (e5 : f5 = true) (s y : Int) : EAT w g x n cap S vD vU vT k D U T nT f1 f4 f5 true f7 f9 (.slice (some ⟨w'.heap.size, 0, none⟩) 1 1) u7 (w'.alloc (.cells #[.int .i64 s, .int .i64 y] 94)) := by
  have hp := h.pre
  obtain ⟨h0, h1, h2, h3⟩ := h
  refine ⟨⟨fun _ => e5, h0.2⟩, (fun q => by rw [hp.2.2.1] at q; cases q), h2, ?_⟩
  rw [hp.2.2.2, hp.2.2.1, if_neg (by decide), if_neg (by decide), if_pos rfl]
  exact ⟨w', s, y, rfl, rfl, hp.1, hp.2.1⟩
theorem EAT.app (h : EAT w g x n cap S vD vU vT k D U T nT f1 f4 f5 true false f9 u6 u7 w') (e1 : f1 = true) : ∃ (W : World) (s y : Int), w' = W.alloc (.cells #[.int .i64 s, .int .i64 y] 94) ∧ u6 = .slice (some ⟨W.heap.size, 0, none⟩) 1 1 ∧ TapO (S + 1) w' vT T nT ∧ S + 1 ≤ w'.heap.size ∧
    ∀ v9 w9 T', TapO (S + 1) w9 v9 T' (nT + 1) → w'.grownBy w9 vT.ownBlock → EAT w g x n cap S vD vU vT k D U T nT f1 f4 f5 true true f9 u6 v9 w9 := by
  obtain ⟨h0, h1, h2, h3⟩ := h
  have e9 : f9 = false := by
    cases f9 with
    | false => rfl
    | true => exact absurd (h2 rfl) (by decide)
  rw [e9, if_neg (by decide), if_neg (by decide), if_pos rfl] at h3
  obtain ⟨W, s, y, hw, hu, hd, ht⟩ := h3
  have ht' : TapO (S + 1) w' vT T nT := by rw [hw]; exact ht.alloc _
  have hd' : DS0 w g x n cap S vD vU vT k D U w' := by rw [hw]; exact hd.call (below_new W _)
  refine ⟨W, s, y, hw, hu, ht', hd'.lt, fun v9 w9 T' h9 hg => ⟨h0, fun _ => ⟨rfl, e1⟩, fun _ => rfl, ?_⟩⟩
  rw [e9, if_neg (by decide), if_pos rfl]
  exact ⟨hd'.app ht' hg, T', h9⟩
theorem EAT.store (h : EAT w g x n cap S vD vU vT k D U T nT f1 f4 f5 f6 true false u6 u7 w') : DS0 w g x n cap S vD vU vT k D U w' ∧ (∃ T', TapO (S + 1) w' u7 T' (nT + 1)) ∧ EAT w g x n cap S vD vU vT k D U T nT f1 f4 f5 f6 true true u6 u7 (w'.setCell ⟨S, 3, none⟩ u7) := by
  obtain ⟨h0, h1, h2, h3⟩ := h
  rw [if_neg (by decide), if_pos rfl] at h3
  obtain ⟨hd, T', ht⟩ := h3
  refine ⟨hd, ⟨T', ht⟩, h0, h1, fun _ => rfl, ?_⟩
  rw [if_pos rfl]
  exact ⟨u7, T', hd.put (i := 3) rfl hd.d hd.u hd.pd hd.pu hd.ap, ht.wrk (hd.set (i := 3) rfl).2 (by omega)⟩
end
theorem TapO.form {B : Nat} {w : World} {v : Value} {T : List Int} {m : Nat} (h : TapO B w v T m) : ∃ a c, v = .slice a m c := by
  rcases h.2 with ⟨h', h0⟩ | ⟨g, c, cur, h', _⟩
  · subst h0; exact ⟨_, _, h'⟩
  · exact ⟨_, _, h'⟩
/-- append of a tap, as one operation. -/
theorem wp_appT1 (w : World) {o : Oper} {a : Act} {K : Act → World → Prop} {Q : Exit → Act → World → Prop} (sx x : Operand)
    (hop : o.op = Op.call { callee := Callee.builtin Builtin.append, args := #[sx, x], argTypes := #[72, 72] }) (B : Nat) (v : Value) (T : List Int) (n : Nat) (hs : a.eval sx = v) (hown : TapO B w v T n)
    (wb : World) (s nw : Int) (hw : w = wb.alloc (.cells #[.int .i64 s, .int .i64 nw] 94)) (hx : a.eval x = .slice (some ⟨wb.heap.size, 0, none⟩) 1 1) (hm : n ≤ 1048576) (hB : B ≤ w.heap.size)
    (hK : ∀ v' w', TapO B w' v' (T ++ [s, nw]) (n + 1) → w.grownBy w' v.ownBlock → K (a.put o.dst v') w') : o.wp Try.prog a w K Q := by
  obtain ⟨i0, hi, hz0, hz1, hz2⟩ := info_parts Try.infoTap
  obtain ⟨v', w', hr, h2, h3, h4, h5⟩ := run_append_own_at (P := Try.prog) w B 72 o.type 94 i0 (.agg #[.int .i64 0, .int .i64 0]) 2 16 Try.underlying72 hi hz0 hz1 hz2 rfl (by decide) v n _ hown ⟨wb.heap.size, 0, none⟩ 1 1 [.int .i64 s, .int .i64 nw] rfl (by
    intro j z hz
    have hj : j < 2 := by have := (List.getElem?_eq_some_iff.1 hz).1; simpa using this
    rw [Addr.add_lit, hw, cell_of_row _ _ _ _ _ _ (heap_alloc_new wb _), Nat.zero_add]
    have : j = 0 ∨ j = 1 := by omega
    rcases this with rfl | rfl <;> simpa using hz) (by simp [Value.oneCell']) (by unfold maxLen; omega) (by omega) hB
  have hk := hK v' w' (by unfold TapO; rw [List.map_append]; exact h2) h3
  unfold Oper.wp execOp
  simp only [hop, resolve, invoke, builtin, Sem.run_bind, Sem.run_pure, Result.andThen_ok, List.map_toArray, List.map_cons, List.map_nil, hs, hx, hr]
  exact hk
/-- While a denied serial is put in. -/
def EAD (w : World) (g : Nat) (x : Option Addr) (n cap S : Nat) (vD vU vT : Value) (k : Int) (D U : List Int) (T : List Int) (nT : Nat) (f1 f3 f4 f6 : Bool) (u4 : Value) (w' : World) : Prop :=
  (f4 = true → f3 = true ∧ f1 = true) ∧ (f6 = true → f4 = true) ∧
  (if f6 = true then ∃ v' D', DS0 w g x n cap S v' vU vT k D' U w' ∧ D'.length ≤ D.length + 1 ∧ TapO (S + 1) w' vT T nT
   else DS0 w g x n cap S vD vU vT k D U w' ∧ TapO (S + 1) w' vT T nT ∧ (f4 = true → ∃ D', Iow (S + 1) w' u4 D' ∧ SerP D' ∧ D'.length ≤ D.length + 1 ∧ ApV u4 vU))
section
variable {w wr w' : World} {g : Nat} {x : Option Addr} {n cap S : Nat} {vD vU vT v : Value} {k : Int} {D U : List Int} {T : List Int} {nT : Nat} {f1 f3 f4 f6 : Bool} {u4 : Value}
theorem EAD.pre (h : EAD w g x n cap S vD vU vT k D U T nT f1 f3 false f6 u4 w') : DS0 w g x n cap S vD vU vT k D U w' ∧ TapO (S + 1) w' vT T nT ∧ f6 = false := by
  obtain ⟨h1, h2, h3⟩ := h
  have e6 : f6 = false := by
    cases f6 with
    | false => rfl
    | true => exact absurd (h2 rfl) (by decide)
  rw [e6, if_neg (by decide)] at h3
  exact ⟨h3.1, h3.2.1, e6⟩
theorem EAD.no4 (h : EAD w g x n cap S vD vU vT k D U T nT f1 f3 f4 f6 u4 w') (e : f1 = false ∨ f3 = false) : f4 = false := by
  cases f4 with
  | false => rfl
  | true =>
    have := h.1 rfl
    rcases e with e | e
    · rw [e] at this; exact absurd this.2 (by decide)
    · rw [e] at this; exact absurd this.1 (by decide)
theorem EAD.mk (h1 : f4 = false) (h2 : f6 = false) (hd : DS0 w g x n cap S vD vU vT k D U w') (ht : TapO (S + 1) w' vT T nT) : EAD w g x n cap S vD vU vT k D U T nT f1 f3 f4 f6 u4 w' := by
  subst h1; subst h2
  refine ⟨(fun q => by cases q), (fun q => by cases q), ?_⟩
  rw [if_neg (by decide)]
  exact ⟨hd, ht, fun q => by cases q⟩
theorem EAD.mk4 (e1 : f1 = true) (e3 : f3 = true) (h2 : f6 = false) (hd : DS0 w g x n cap S vD vU vT k D U w') (ht : TapO (S + 1) w' vT T nT) (D' : List Int) (hi : Iow (S + 1) w' u4 D') (hs : SerP D') (hl : D'.length ≤ D.length + 1) (ha : ApV u4 vU) : EAD w g x n cap S vD vU vT k D U T nT f1 f3 true f6 u4 w' := by
  subst h2
  refine ⟨fun _ => ⟨e3, e1⟩, (fun q => by cases q), ?_⟩
  rw [if_neg (by decide)]
  exact ⟨hd, ht, fun _ => ⟨D', hi, hs, hl, ha⟩⟩
theorem EAD.store (h : EAD w g x n cap S vD vU vT k D U T nT f1 f3 true false u4 w') : DS0 w g x n cap S vD vU vT k D U w' ∧ (∃ D', Iow (S + 1) w' u4 D') ∧ EAD w g x n cap S vD vU vT k D U T nT f1 f3 true true u4 (w'.setCell ⟨S, 0, none⟩ u4) := by
  obtain ⟨h1, h2, h3⟩ := h
  rw [if_neg (by decide)] at h3
  obtain ⟨hd, ht, h4⟩ := h3
  obtain ⟨D', hi, hs, hl, ha⟩ := h4 rfl
  refine ⟨hd, ⟨D', hi⟩, h1, fun _ => rfl, ?_⟩
  rw [if_pos rfl]
  exact ⟨u4, D', hd.put (i := 0) rfl hi hd.u hs hd.pu ha, hl, ht.wrk (hd.set (i := 0) rfl).2 (by omega)⟩
end
/-- What l5DrawState gives. -/
def DStP (w : World) (g : Nat) (x : Option Addr) (n cap : Nat) (v : Value) (w' : World) : Prop :=
  ∃ aD nD cD aU nU cU k aT nT cT D U T, v = .agg #[.slice aD nD cD, .slice aU nU cU, .int .i64 k, .slice aT nT cT] ∧ Iow w.heap.size w' (.slice aD nD cD) D ∧ Iow w.heap.size w' (.slice aU nU cU) U ∧ TapO w.heap.size w' (.slice aT nT cT) T nT ∧ SerP D ∧ D.length ≤ 16 ∧ SerP U ∧ (-9223372036854775808 ≤ k ∧ k ≤ 9223372036854775807) ∧ ApV (.slice aD nD cD) (.slice aU nU cU) ∧ CurB w' g x n cap ∧ WrG g w w'
set_option maxRecDepth 100000 in
set_option maxHeartbeats 16000000 in
theorem drawSt_any (g : Nat) (x : Option Addr) (n cap : Nat) (w : World) (hc : CurB w g x n cap) (ht : CurT w g x n) :
    Calls Try.prog 46 #[.pointer (some ⟨g, 0, none⟩)] w fun e w' => ∃ v, e = .returned v ∧ DStP w g x n cap v w' := by
  have HCT : Hid (CurT w g x n) := ht
  have hg := hc.lt
  have b2 : Below w.heap.size w ((w.alloc (.cells #[.slice none 0 0, .slice none 0 0, .int .i64 0, .slice none 0 0] 74)).alloc (.cells #[.slice none 0 0, .slice none 0 0, .int .i64 0, .slice none 0 0] 74)) := ((Below.refl _ _).alloc (Nat.le_refl _) _).alloc (by simp) _
  have HN : Hid (((w.alloc (.cells #[.slice none 0 0, .slice none 0 0, .int .i64 0, .slice none 0 0] 74)).alloc (.cells #[.slice none 0 0, .slice none 0 0, .int .i64 0, .slice none 0 0] 74)).heap[w.heap.size + 1]? = some (.cells #[.slice none 0 0, .slice none 0 0, .int .i64 0, .slice none 0 0] 74 (0, 0))) := heap_alloc2_new _ _ _
  have HSZ : Hid ((Try.prog.info? 74).map (·.size) = some 4) := by show _ = _; kernel_rfl
  have hw := Wr.setRow (w.heap.size + 1) ((w.alloc (.cells #[.slice none 0 0, .slice none 0 0, .int .i64 0, .slice none 0 0] 74)).alloc (.cells #[.slice none 0 0, .slice none 0 0, .int .i64 0, .slice none 0 0] 74)) #[.slice none 0 0, .slice none 0 0, .int .i64 0, .slice none 0 0]
  have HS0 : Hid (DS0 w g x n cap (w.heap.size + 1) (.slice none 0 0) (.slice none 0 0) (.slice none 0 0) 0 [] [] (((w.alloc (.cells #[.slice none 0 0, .slice none 0 0, .int .i64 0, .slice none 0 0] 74)).alloc (.cells #[.slice none 0 0, .slice none 0 0, .int .i64 0, .slice none 0 0] 74)).setRow (w.heap.size + 1) #[.slice none 0 0, .slice none 0 0, .int .i64 0, .slice none 0 0])) :=
    ⟨⟨hw.os.trans b2.os, hw.tape.trans b2.tape, hw.output.trans b2.output, by rw [hw.size]; exact b2.size, fun q hq _ => (hw.block q (by omega)).trans (b2.block q hq)⟩, hc.keep ((hw.block g (by omega)).trans (b2.block g hg)), (hw.block _ (by omega)).trans (heap_alloc2_old _ _ _), setRow_heap _ _ _ _ _ _ HN.out, hg, by omega, Iow.nil _ _, Iow.nil _ _, (fun i hi => by simp at hi), (fun i hi => by simp at hi), ApV.nil_l _⟩
  have HT0 : Hid (TapO (w.heap.size + 1 + 1) (((w.alloc (.cells #[.slice none 0 0, .slice none 0 0, .int .i64 0, .slice none 0 0] 74)).alloc (.cells #[.slice none 0 0, .slice none 0 0, .int .i64 0, .slice none 0 0] 74)).setRow (w.heap.size + 1) #[.slice none 0 0, .slice none 0 0, .int .i64 0, .slice none 0 0]) (.slice none 0 0) [] 0) := ⟨by simp, .inl ⟨rfl, rfl⟩⟩
  clear hc ht b2 hw
  go_enter Try.func46, Try.ntmps46
  go_upto_region 2 with (first
    | (refine wpList_store_row rfl 74 (.tmp 3) (.tmp 9) rfl (w.heap.size + 1) #[.slice none 0 0, .slice none 0 0, .int .i64 0, .slice none 0 0] rfl rfl 74 _ HN.out HSZ.out rfl (by simp [Value.oneCell']) ?_)
    | fail)
  clear HN
  generalize ((w.alloc (.cells #[.slice none 0 0, .slice none 0 0, .int .i64 0, .slice none 0 0] 74)).alloc (.cells #[.slice none 0 0, .slice none 0 0, .int .i64 0, .slice none 0 0] 74)).setRow (w.heap.size + 1) #[.slice none 0 0, .slice none 0 0, .int .i64 0, .slice none 0 0] = w0 at *
  generalize w.heap.size + 1 = S at *
  go_wp2_with fail
  refine (below_any g x n cap 12 w0 HS0.out.cb (HS0.out.ct HCT.out) (by decide) (by decide)).mono ?_
  rintro e w1 ⟨mm, rfl, hm0, hm1, hc1, hw1⟩
  have HD1 : Hid (DS0 w g x n cap S (.slice none 0 0) (.slice none 0 0) (.slice none 0 0) 0 [] [] w1) := HS0.out.cur hc1 hw1
  have HT1 : Hid (TapO (S + 1) w1 (.slice none 0 0) [] 0) := ⟨by simp, .inl ⟨rfl, rfl⟩⟩
  obtain ⟨m, rfl⟩ := Int.eq_ofNat_of_zero_le hm0
  clear hc1 hw1 HS0 HT0 hm0
  go_wp2_with fail
  go_loopw [5] (fun i wz => ∃ (j : Nat) (vu vt : Value) (U T : List Int) (nT : Nat), j ≤ m ∧ i = .int .i64 j ∧ nT ≤ j ∧ DS0 w g x n cap S (.slice none 0 0) (vu) (vt) 0 [] U wz ∧ TapO (S + 1) wz vt T nT) (fun i _ => m - (intOf i).toNat)
  case atStart => exact ⟨0, _, _, [], [], 0, Nat.zero_le _, rfl, Nat.le_refl _, HD1.out, HT1.out⟩
  case round =>
    clear HD1 HT1
    obtain ⟨j, vu, vt, U, T, nT, hj, rfl, hnT, hd, ht⟩ := hrel
    obtain ⟨aU, nU, cU, rfl⟩ := hd.u.form
    obtain ⟨aT, cT, rfl⟩ := ht.form
    have HD : Hid (DS0 w g x n cap S (.slice none 0 0) (.slice aU nU cU) (.slice aT nT cT) 0 [] U wr) := hd
    have HT : Hid (TapO (S + 1) wr (.slice aT nT cT) T nT) := ht
    clear hd ht
    by_cases hlt : j < m
    · have hlt' : (j : Int) < m := by omega
      go_wp2_with fail
      refine (below_any g x n cap 40 wr HD.out.cb (HD.out.ct HCT.out) (by decide) (by decide)).mono ?_
      rintro e w1 ⟨s1, rfl, hs0, hs1, hc1, hw1⟩
      have HD1 : Hid (DS0 w g x n cap S (.slice none 0 0) (.slice aU nU cU) (.slice aT nT cT) 0 [] U w1) := HD.out.cur hc1 hw1
      have HT1 : Hid (TapO (S + 1) w1 (.slice aT nT cT) T nT) := HT.out.wrk hw1 (by have := HD.out.hg; have := HD.out.hs; omega)
      obtain ⟨sn, rfl⟩ := Int.eq_ofNat_of_zero_le hs0
      clear hc1 hw1 HD HT
      go_wp2_with fail
      refine (once_any g x n cap 6 w1 HD1.out.cb (HD1.out.ct HCT.out) (by decide) (by decide)).mono ?_
      rintro e w2 ⟨b2, rfl, hc2, hw2⟩
      have HD2 : Hid (DS0 w g x n cap S (.slice none 0 0) (.slice aU nU cU) (.slice aT nT cT) 0 [] U w2) := HD1.out.cur hc2 hw2
      have HT2 : Hid (TapO (S + 1) w2 (.slice aT nT cT) T nT) := HT1.out.wrk hw2 (by have := HD1.out.hg; have := HD1.out.hs; omega)
      clear hc2 hw2 HD1 HT1
      cases b2
      · have HD3 : Hid (DS0 w g x n cap S (.slice none 0 0) (.slice aU nU cU) (.slice aT nT cT) 0 [] U w2) := HD2.out
        have HT3 : Hid (TapO (S + 1) w2 (.slice aT nT cT) T nT) := HT2.out
        clear HD2 HT2
        generalize w2 = w3 at *
        obtain ⟨sU, hnU, lU⟩ := HD3.out.u.sat
        have hmU : nU ≤ 1048576 := by have := HD3.out.pu.len; omega
        have A := hid_of (holds_any aU nU cU U (sn : Int) w3 hnU hmU sU.at_)
        have B := hid_of (with_any aU nU cU U sn w3 hnU hmU sU.at_)
        have c1 := HD3.out.cells.2.1
        clear sU hnU lU hmU
        go_wp2_with fail
        refine A.out.mono ?_
        rintro e w4 ⟨rfl, hw4⟩
        subst w4
        clear A
        by_cases hm : memB (sn : Int) U = true
        · rw [hm]
          clear B c1
          go_wp2
          go_roundw
          case rel => exact ⟨j + 1, _, _, _, T, nT, by omega, by go_num, by omega, HD3.out, HT3.out⟩
          case measure => simp [intOf]; omega
        · rw [Bool.not_eq_true] at hm
          rw [hm]
          clear hm
          go_wp2_with fail
          refine B.out.mono ?_
          rintro e w4 ⟨vn, rfl, hin, hb4⟩
          obtain ⟨aN, nN, cN, rfl⟩ := hin.form
          have hd4 := HD3.out.call hb4
          have HD5 : Hid (DS0 w g x n cap S (.slice none 0 0) (.slice aN nN cN) (.slice aT nT cT) 0 [] (withS U sn) (w4.setCell ⟨S, 1, none⟩ (.slice aN nN cN))) := hd4.put (i := 1) rfl hd4.d (Iow.mono hin HD3.out.lt) hd4.pd (withS_ser _ _) (ApV.nil_l _)
          have HT5 : Hid (TapO (S + 1) (w4.setCell ⟨S, 1, none⟩ (.slice aN nN cN)) (.slice aT nT cT) T nT) := (HT3.out.below hb4).wrk (hd4.set (i := 1) rfl).2 (by omega)
          have c2 := hd4.cells.2.1
          have f2 := hd4.cells.2.2.2.2 1
          clear B hin hb4 hd4 c1 HD3 HT3
          go_wp2_with fail
          clear c2 f2
          generalize w4.setCell ⟨S, 1, none⟩ (.slice aN nN cN) = w5 at *
          refine (once_any g x n cap 2 w5 HD5.out.cb (HD5.out.ct HCT.out) (by decide) (by decide)).mono ?_
          rintro e w6 ⟨b6, rfl, hc6, hw6⟩
          have HD6 : Hid (DS0 w g x n cap S (.slice none 0 0) (.slice aN nN cN) (.slice aT nT cT) 0 [] (withS U sn) w6) := HD5.out.cur hc6 hw6
          have HT6 : Hid (TapO (S + 1) w6 (.slice aT nT cT) T nT) := HT5.out.wrk hw6 (by have := HD5.out.hg; have := HD5.out.hs; omega)
          clear hc6 hw6 HD5 HT5
          cases b6
          · go_wp2
            go_roundw
            case rel => exact ⟨j + 1, _, _, _, T, nT, by omega, by go_num, by omega, HD6.out, HT6.out⟩
            case measure => simp [intOf]; omega
          · have HNT : Hid (nT ≤ 1048576) := by show _ ≤ _; omega
            go_wp2_with fail
            refine wp_region_any (by kernel_rfl) ?_
            refine wpAny_slotsU (fun _ _ _ => True) (frame := (fun (c0 c1 c2 c3 c4 c5 c6 c7 c8 c9 c10 c11 c12 c13 c14 c15 c16 c17 c18 c19 c20 c21 c22 c23 c24 c25 c26 c27 c28 c29 c30 c31 c32 c33 c34 c35 c45 c46 c47 c48 c49 c50 c51 c52 c53 c54 c55 c56 c57 c58 c59 c60 c61 c62 c63 c64 c65 c66 c67 c68 c69 c70 c71 c72 c73 c74 : Value) => fun (t : Nat → Value) => ({ tmps := List.toArray (c0 :: c1 :: c2 :: c3 :: c4 :: c5 :: c6 :: c7 :: c8 :: c9 :: c10 :: c11 :: c12 :: c13 :: c14 :: c15 :: c16 :: c17 :: c18 :: c19 :: c20 :: c21 :: c22 :: c23 :: c24 :: c25 :: c26 :: c27 :: c28 :: c29 :: c30 :: c31 :: c32 :: c33 :: c34 :: c35 :: t 0 :: t 1 :: t 2 :: t 3 :: t 4 :: t 5 :: t 6 :: t 7 :: t 8 :: c45 :: c46 :: c47 :: c48 :: c49 :: c50 :: c51 :: c52 :: c53 :: c54 :: c55 :: c56 :: c57 :: c58 :: c59 :: c60 :: c61 :: c62 :: c63 :: c64 :: c65 :: c66 :: c67 :: c68 :: c69 :: c70 :: c71 :: c72 :: c73 :: c74 :: []), defers := [] } : Act)) _ _ _ _ _ _ _ _ _ _ _ _ _ _ _ _ _ _ _ _ _ _ _ _ _ _ _ _ _ _ _ _ _ _ _ _ _ _ _ _ _ _ _ _ _ _ _ _ _ _ _ _ _ _ _ _ _ _ _ _ _ _ _ _ _ _)
              (Ext := fun L u w' => EAT w g x n cap S (.slice none 0 0) (.slice aN nN cN) (.slice aT nT cT) 0 [] (withS U sn) T nT (L 1) (L 4) (L 5) (L 6) (L 7) (L 9) (u 6) (u 7) w') (Good := fun i L w' v => if i = 0 then v = .pointer (some ⟨S, 3, none⟩) else if i = 1 then v = .slice aT nT cT else if i = 2 then v = .int .i64 (sn : Int) else if i = 3 then v = .pointer (some ⟨g, 0, none⟩) else if i = 4 then ∃ y : Int, v = .int .i64 y else if i = 5 then ∃ y : Int, v = .agg #[.int .i64 (sn : Int), .int .i64 y] else if i = 6 then L 6 = true else if i = 7 then L 7 = true else if i = 8 then v = .pointer (some ⟨S, 3, none⟩) else if i = 9 then L 9 = true else True) ?hstab (by kernel_rfl) ?hop ?hdone _ _ ((fun (x0 x1 x2 x3 x4 x5 x6 x7 x8 : Value) => fun (i : Nat) => if i = 0 then x0 else if i = 1 then x1 else if i = 2 then x2 else if i = 3 then x3 else if i = 4 then x4 else if i = 5 then x5 else if i = 6 then x6 else if i = 7 then x7 else if i = 8 then x8 else undef) _ _ _ _ _ _ _ _ _) _ (by simp) ?ext ?start (by simp)
            case start => intro i hi h; exact absurd h (by rw [Array.getD_eq_getD_getElem?, Array.getElem?_replicate]; split <;> simp)
            case ext =>
              have h0 : ∀ i, (Array.replicate 10 false).getD i false = false := fun i => by rw [Array.getD_eq_getD_getElem?, Array.getElem?_replicate]; split <;> rfl
              show EAT _ _ _ _ _ _ _ _ _ _ _ _ _ _ ((Array.replicate 10 false).getD 1 false) ((Array.replicate 10 false).getD 4 false) ((Array.replicate 10 false).getD 5 false) ((Array.replicate 10 false).getD 6 false) ((Array.replicate 10 false).getD 7 false) ((Array.replicate 10 false).getD 9 false) _ _ _
              rw [h0, h0, h0, h0, h0, h0]
              refine ⟨⟨(fun q => by cases q), (fun q => by cases q)⟩, (fun q => by cases q), (fun q => by cases q), ?_⟩
              rw [if_neg (by decide), if_neg (by decide), if_neg (by decide)]
              exact ⟨HD6.out.call ⟨rfl, rfl, rfl, Nat.le_refl _, fun _ _ => rfl⟩, HT6.out⟩
            case hstab =>
              intro j L w9 w' i v hM hij hLi h
              by_cases h6 : j = 6
              · subst h6
                simp at h ⊢
                unfold updK; simp [h]
              by_cases h7 : j = 7
              · subst h7
                simp at h ⊢
                unfold updK; simp [h]
              by_cases h9 : j = 9
              · subst h9
                simp at h ⊢
                unfold updK; simp [h]
              simp only [if_neg h6, if_neg h7, if_neg h9] at h ⊢
              exact h
            case hop =>
              intro i o L t w' ho hLi hx hdep K hK
              have hi : i < 10 := (Array.getElem?_eq_some_iff.1 ho).1
              obtain rfl | rfl | rfl | rfl | rfl | rfl | rfl | rfl | rfl | rfl : i = 0 ∨ i = 1 ∨ i = 2 ∨ i = 3 ∨ i = 4 ∨ i = 5 ∨ i = 6 ∨ i = 7 ∨ i = 8 ∨ i = 9 := by omega
              all_goals (simp at ho; subst ho)
              · clear hdep
                have hK' := hK w' (.pointer (some ⟨S, 3, none⟩)) (by simp) (by simpa [updK, upd] using hx) trivial
                clear hK hx
                rw [if_pos (by rfl)]
                go_simp
                simpa [upd] using hK'
              · have d0 : t 0 = .pointer (some ⟨S, 3, none⟩) := by simpa using (hdep ⟨0, .data⟩ (by simp) rfl).2
                clear hdep
                rw [hLi] at hx
                obtain ⟨hrow, hx2⟩ := hx.load
                have cl : w'.cell? ⟨S, 3, none⟩ = some (.slice aT nT cT) := cell_of_row _ _ _ _ _ _ hrow
                have hK' := hK w' (.slice aT nT cT) (by simp) (by simpa [updK, upd] using hx2) trivial
                clear hK hrow hx2 hx
                rw [if_pos (by rfl)]
                go_simp
                simpa [upd, d0] using hK'
              · clear hdep
                have hK' := hK w' (.int .i64 (sn : Int)) (by simp) (by simpa [updK, upd] using hx) trivial
                clear hK hx
                rw [if_pos (by rfl)]
                go_simp
                simpa [upd] using hK'
              · clear hdep
                have hK' := hK w' (.pointer (some ⟨g, 0, none⟩)) (by simp) (by simpa [updK, upd] using hx) trivial
                clear hK hx
                rw [if_pos (by rfl)]
                go_simp
                simpa [upd] using hK'
              · have d3 : t 3 = .pointer (some ⟨g, 0, none⟩) := by simpa using (hdep ⟨3, .data⟩ (by simp) rfl).2
                clear hdep
                rw [hLi] at hx
                obtain ⟨l5, l6⟩ := hx.no6
                rw [l6] at hx
                have hp := hx.pre
                have A := below_any g x n cap 100 w' hp.1.cb (hp.1.ct HCT.out) (by decide) (by decide)
                have hK' : ∀ w9 y, CurB w9 g x n cap → Wr g w' w9 → K _ w9 := fun w9 y h1 h2 => hK w9 (.int .i64 y) (by simp) (by simpa [updK, upd, l6] using (hx.curs h1 h2).set4) trivial
                clear hK hp hx
                rw [if_pos (by rfl)]
                go_simp
                try simp only [d3]
                refine A.mono ?_
                rintro e w9 ⟨y, rfl, _, _, h1, h2⟩
                have hK2 := hK' w9 y h1 h2
                clear hK' A h1 h2
                go_simp
                simpa [upd, d3] using hK2
              · have d2 : t 2 = .int .i64 (sn : Int) := by simpa using (hdep ⟨2, .data⟩ (by simp) rfl).2
                obtain ⟨y4, d4⟩ : ∃ y : Int, t 4 = .int .i64 y := by simpa using (hdep ⟨4, .data⟩ (by simp) rfl).2
                have l4 : L 4 = true := (hdep ⟨4, .data⟩ (by simp) rfl).1
                clear hdep
                have hK' := hK w' (.agg #[.int .i64 (sn : Int), .int .i64 y4]) (by simp) (by simpa [updK, upd, l4] using hx.set5 l4) trivial
                clear hK hx
                rw [if_pos (by rfl)]
                go_simp
                simpa [upd, d2, d4] using hK'
              · obtain ⟨y5, d5⟩ : ∃ y : Int, t 5 = .agg #[.int .i64 (sn : Int), .int .i64 y] := by simpa using (hdep ⟨5, .data⟩ (by simp) rfl).2
                have l5 : L 5 = true := (hdep ⟨5, .data⟩ (by simp) rfl).1
                clear hdep
                rw [hLi] at hx
                have hx2 := hx.mk6 l5 (sn : Int) y5
                have hK' := hK (w'.alloc (.cells #[.int .i64 (sn : Int), .int .i64 y5] 94)) (.slice (some ⟨w'.heap.size, 0, none⟩) 1 1) (by simp [updK]) (by simpa [updK, upd] using hx2) trivial
                clear hK hx2 hx
                rw [if_pos (by rfl)]
                go_simp
                simpa [upd, d5] using hK'
              · have d1 : t 1 = .slice aT nT cT := by simpa using (hdep ⟨1, .data⟩ (by simp) rfl).2
                have l1 : L 1 = true := (hdep ⟨1, .data⟩ (by simp) rfl).1
                have l6 : L 6 = true := (hdep ⟨6, .data⟩ (by simp) rfl).1
                clear hdep
                rw [hLi, l6] at hx
                obtain ⟨W, s9, y9, hwW, d6, ht6, hz6, hx2⟩ := hx.app l1
                have hK' : ∀ v9 w9 T', TapO (S + 1) w9 v9 T' (nT + 1) → w'.grownBy w9 ((.slice aT nT cT) : Value).ownBlock → K _ w9 := fun v9 w9 T' h1 h2 => hK w9 v9 (by simp [updK]) (by simpa [updK, upd, l6] using hx2 v9 w9 T' h1 h2) trivial
                clear hK hx2 hx
                rw [if_pos (by rfl)]
                refine wp_appT1 w' (.tmp 37) (.tmp 42) rfl (S + 1) (.slice aT nT cT) T nT d1 ht6 W s9 y9 hwW d6 HNT.out hz6 ?_
                intro v9 w9 h1 h2
                have hK2 := hK' v9 w9 _ h1 h2
                clear hK' h1 h2
                simpa [upd, Act.put] using hK2
              · clear hdep
                have hK' := hK w' (.pointer (some ⟨S, 3, none⟩)) (by simp) (by simpa [updK, upd] using hx) trivial
                clear hK hx
                rw [if_pos (by rfl)]
                go_simp
                simpa [upd] using hK'
              · have d8 : t 8 = .pointer (some ⟨S, 3, none⟩) := by simpa using (hdep ⟨8, .data⟩ (by simp) rfl).2
                have l7 : L 7 = true := (hdep ⟨7, .data⟩ (by simp) rfl).1
                clear hdep
                rw [hLi, l7] at hx
                obtain ⟨hd9, ⟨T', ht9⟩, hx2⟩ := hx.store
                obtain ⟨a7, c7, e7⟩ := ht9.form
                have cl : w'.cell? ⟨S, 3, none⟩ = some (.slice aT nT cT) := hd9.cells.2.2.2.1
                have cf : w'.frozen? ⟨S, 3, none⟩ = false := hd9.cells.2.2.2.2 3
                have hK' := hK (w'.setCell ⟨S, 3, none⟩ (t 7)) undef (by simp [updK]) (by simpa [updK, upd, l7] using hx2) trivial
                clear hK hx2 hx hd9 ht9
                rw [e7] at hK'
                rw [if_pos (by rfl)]
                go_simp
                simpa [upd, d8, e7, Act.put] using hK'
            case hdone =>
              intro L t w9 hx hg
              have l9 : L 9 = true := by simpa using hg 9 (by decide)
              clear hg
              rw [l9] at hx
              obtain ⟨_, _, _, h5⟩ := hx
              rw [if_pos rfl] at h5
              obtain ⟨v5, T5, hs5, ht5⟩ := h5
              have HD9 := hid_of hs5
              have HT9 := hid_of ht5
              clear hs5 ht5 l9
              go_wp2
              go_roundw
              case rel => exact ⟨j + 1, _, v5, _, T5, nT + 1, by omega, by go_num, by omega, HD9.out, HT9.out⟩
              case measure => simp [intOf]; omega
      · go_wp2_with fail
        refine (below_any g x n cap 3 w2 HD2.out.cb (HD2.out.ct HCT.out) (by decide) (by decide)).mono ?_
        rintro e w3 ⟨s3, rfl, h30, h31, hc3, hw3⟩
        have HD3 : Hid (DS0 w g x n cap S (.slice none 0 0) (.slice aU nU cU) (.slice aT nT cT) 0 [] U w3) := HD2.out.cur hc3 hw3
        have HT3 : Hid (TapO (S + 1) w3 (.slice aT nT cT) T nT) := HT2.out.wrk hw3 (by have := HD2.out.hg; have := HD2.out.hs; omega)
        clear hc3 hw3 HD2 HT2 hs0 hs1
        obtain ⟨sq, hsn⟩ : ∃ sq : Nat, 255 - s3 = sq := ⟨(255 - s3).toNat, by omega⟩
        have hsn1 : (sq : Int) < 256 := by omega
        go_upto_region 9 with fail
        try rw [hsn]
        clear hsn h30 h31
        obtain ⟨sU, hnU, lU⟩ := HD3.out.u.sat
        have hmU : nU ≤ 1048576 := by have := HD3.out.pu.len; omega
        have A := hid_of (holds_any aU nU cU U (sq : Int) w3 hnU hmU sU.at_)
        have B := hid_of (with_any aU nU cU U sq w3 hnU hmU sU.at_)
        have c1 := HD3.out.cells.2.1
        clear sU hnU lU hmU
        go_wp2_with fail
        refine A.out.mono ?_
        rintro e w4 ⟨rfl, hw4⟩
        subst w4
        clear A
        by_cases hm : memB (sq : Int) U = true
        · rw [hm]
          clear B c1
          go_wp2
          go_roundw
          case rel => exact ⟨j + 1, _, _, _, T, nT, by omega, by go_num, by omega, HD3.out, HT3.out⟩
          case measure => simp [intOf]; omega
        · rw [Bool.not_eq_true] at hm
          rw [hm]
          clear hm
          go_wp2_with fail
          refine B.out.mono ?_
          rintro e w4 ⟨vn, rfl, hin, hb4⟩
          obtain ⟨aN, nN, cN, rfl⟩ := hin.form
          have hd4 := HD3.out.call hb4
          have HD5 : Hid (DS0 w g x n cap S (.slice none 0 0) (.slice aN nN cN) (.slice aT nT cT) 0 [] (withS U sq) (w4.setCell ⟨S, 1, none⟩ (.slice aN nN cN))) := hd4.put (i := 1) rfl hd4.d (Iow.mono hin HD3.out.lt) hd4.pd (withS_ser _ _) (ApV.nil_l _)
          have HT5 : Hid (TapO (S + 1) (w4.setCell ⟨S, 1, none⟩ (.slice aN nN cN)) (.slice aT nT cT) T nT) := (HT3.out.below hb4).wrk (hd4.set (i := 1) rfl).2 (by omega)
          have c2 := hd4.cells.2.1
          have f2 := hd4.cells.2.2.2.2 1
          clear B hin hb4 hd4 c1 HD3 HT3
          go_wp2_with fail
          clear c2 f2
          generalize w4.setCell ⟨S, 1, none⟩ (.slice aN nN cN) = w5 at *
          refine (once_any g x n cap 2 w5 HD5.out.cb (HD5.out.ct HCT.out) (by decide) (by decide)).mono ?_
          rintro e w6 ⟨b6, rfl, hc6, hw6⟩
          have HD6 : Hid (DS0 w g x n cap S (.slice none 0 0) (.slice aN nN cN) (.slice aT nT cT) 0 [] (withS U sq) w6) := HD5.out.cur hc6 hw6
          have HT6 : Hid (TapO (S + 1) w6 (.slice aT nT cT) T nT) := HT5.out.wrk hw6 (by have := HD5.out.hg; have := HD5.out.hs; omega)
          clear hc6 hw6 HD5 HT5
          cases b6
          · go_wp2
            go_roundw
            case rel => exact ⟨j + 1, _, _, _, T, nT, by omega, by go_num, by omega, HD6.out, HT6.out⟩
            case measure => simp [intOf]; omega
          · have HNT : Hid (nT ≤ 1048576) := by show _ ≤ _; omega
            go_wp2_with fail
            refine wp_region_any (by kernel_rfl) ?_
            refine wpAny_slotsU (fun _ _ _ => True) (frame := (fun (c0 c1 c2 c3 c4 c5 c6 c7 c8 c9 c10 c11 c12 c13 c14 c15 c16 c17 c18 c19 c20 c21 c22 c23 c24 c25 c26 c27 c28 c29 c30 c31 c32 c33 c34 c35 c45 c46 c47 c48 c49 c50 c51 c52 c53 c54 c55 c56 c57 c58 c59 c60 c61 c62 c63 c64 c65 c66 c67 c68 c69 c70 c71 c72 c73 c74 : Value) => fun (t : Nat → Value) => ({ tmps := List.toArray (c0 :: c1 :: c2 :: c3 :: c4 :: c5 :: c6 :: c7 :: c8 :: c9 :: c10 :: c11 :: c12 :: c13 :: c14 :: c15 :: c16 :: c17 :: c18 :: c19 :: c20 :: c21 :: c22 :: c23 :: c24 :: c25 :: c26 :: c27 :: c28 :: c29 :: c30 :: c31 :: c32 :: c33 :: c34 :: c35 :: t 0 :: t 1 :: t 2 :: t 3 :: t 4 :: t 5 :: t 6 :: t 7 :: t 8 :: c45 :: c46 :: c47 :: c48 :: c49 :: c50 :: c51 :: c52 :: c53 :: c54 :: c55 :: c56 :: c57 :: c58 :: c59 :: c60 :: c61 :: c62 :: c63 :: c64 :: c65 :: c66 :: c67 :: c68 :: c69 :: c70 :: c71 :: c72 :: c73 :: c74 :: []), defers := [] } : Act)) _ _ _ _ _ _ _ _ _ _ _ _ _ _ _ _ _ _ _ _ _ _ _ _ _ _ _ _ _ _ _ _ _ _ _ _ _ _ _ _ _ _ _ _ _ _ _ _ _ _ _ _ _ _ _ _ _ _ _ _ _ _ _ _ _ _)
              (Ext := fun L u w' => EAT w g x n cap S (.slice none 0 0) (.slice aN nN cN) (.slice aT nT cT) 0 [] (withS U sq) T nT (L 1) (L 4) (L 5) (L 6) (L 7) (L 9) (u 6) (u 7) w') (Good := fun i L w' v => if i = 0 then v = .pointer (some ⟨S, 3, none⟩) else if i = 1 then v = .slice aT nT cT else if i = 2 then v = .int .i64 (sq : Int) else if i = 3 then v = .pointer (some ⟨g, 0, none⟩) else if i = 4 then ∃ y : Int, v = .int .i64 y else if i = 5 then ∃ y : Int, v = .agg #[.int .i64 (sq : Int), .int .i64 y] else if i = 6 then L 6 = true else if i = 7 then L 7 = true else if i = 8 then v = .pointer (some ⟨S, 3, none⟩) else if i = 9 then L 9 = true else True) ?hstab (by kernel_rfl) ?hop ?hdone _ _ ((fun (x0 x1 x2 x3 x4 x5 x6 x7 x8 : Value) => fun (i : Nat) => if i = 0 then x0 else if i = 1 then x1 else if i = 2 then x2 else if i = 3 then x3 else if i = 4 then x4 else if i = 5 then x5 else if i = 6 then x6 else if i = 7 then x7 else if i = 8 then x8 else undef) _ _ _ _ _ _ _ _ _) _ (by simp) ?ext ?start (by simp)
            case start => intro i hi h; exact absurd h (by rw [Array.getD_eq_getD_getElem?, Array.getElem?_replicate]; split <;> simp)
            case ext =>
              have h0 : ∀ i, (Array.replicate 10 false).getD i false = false := fun i => by rw [Array.getD_eq_getD_getElem?, Array.getElem?_replicate]; split <;> rfl
              show EAT _ _ _ _ _ _ _ _ _ _ _ _ _ _ ((Array.replicate 10 false).getD 1 false) ((Array.replicate 10 false).getD 4 false) ((Array.replicate 10 false).getD 5 false) ((Array.replicate 10 false).getD 6 false) ((Array.replicate 10 false).getD 7 false) ((Array.replicate 10 false).getD 9 false) _ _ _
              rw [h0, h0, h0, h0, h0, h0]
              refine ⟨⟨(fun q => by cases q), (fun q => by cases q)⟩, (fun q => by cases q), (fun q => by cases q), ?_⟩
              rw [if_neg (by decide), if_neg (by decide), if_neg (by decide)]
              exact ⟨HD6.out.call ⟨rfl, rfl, rfl, Nat.le_refl _, fun _ _ => rfl⟩, HT6.out⟩
            case hstab =>
              intro j L w9 w' i v hM hij hLi h
              by_cases h6 : j = 6
              · subst h6
                simp at h ⊢
                unfold updK; simp [h]
              by_cases h7 : j = 7
              · subst h7
                simp at h ⊢
                unfold updK; simp [h]
              by_cases h9 : j = 9
              · subst h9
                simp at h ⊢
                unfold updK; simp [h]
              simp only [if_neg h6, if_neg h7, if_neg h9] at h ⊢
              exact h
            case hop =>
              intro i o L t w' ho hLi hx hdep K hK
              have hi : i < 10 := (Array.getElem?_eq_some_iff.1 ho).1
              obtain rfl | rfl | rfl | rfl | rfl | rfl | rfl | rfl | rfl | rfl : i = 0 ∨ i = 1 ∨ i = 2 ∨ i = 3 ∨ i = 4 ∨ i = 5 ∨ i = 6 ∨ i = 7 ∨ i = 8 ∨ i = 9 := by omega
              all_goals (simp at ho; subst ho)
              · clear hdep
                have hK' := hK w' (.pointer (some ⟨S, 3, none⟩)) (by simp) (by simpa [updK, upd] using hx) trivial
                clear hK hx
                rw [if_pos (by rfl)]
                go_simp
                simpa [upd] using hK'
              · have d0 : t 0 = .pointer (some ⟨S, 3, none⟩) := by simpa using (hdep ⟨0, .data⟩ (by simp) rfl).2
                clear hdep
                rw [hLi] at hx
                obtain ⟨hrow, hx2⟩ := hx.load
                have cl : w'.cell? ⟨S, 3, none⟩ = some (.slice aT nT cT) := cell_of_row _ _ _ _ _ _ hrow
                have hK' := hK w' (.slice aT nT cT) (by simp) (by simpa [updK, upd] using hx2) trivial
                clear hK hrow hx2 hx
                rw [if_pos (by rfl)]
                go_simp
                simpa [upd, d0] using hK'
              · clear hdep
                have hK' := hK w' (.int .i64 (sq : Int)) (by simp) (by simpa [updK, upd] using hx) trivial
                clear hK hx
                rw [if_pos (by rfl)]
                go_simp
                simpa [upd] using hK'
              · clear hdep
                have hK' := hK w' (.pointer (some ⟨g, 0, none⟩)) (by simp) (by simpa [updK, upd] using hx) trivial
                clear hK hx
                rw [if_pos (by rfl)]
                go_simp
                simpa [upd] using hK'
              · have d3 : t 3 = .pointer (some ⟨g, 0, none⟩) := by simpa using (hdep ⟨3, .data⟩ (by simp) rfl).2
                clear hdep
                rw [hLi] at hx
                obtain ⟨l5, l6⟩ := hx.no6
                rw [l6] at hx
                have hp := hx.pre
                have A := below_any g x n cap 100 w' hp.1.cb (hp.1.ct HCT.out) (by decide) (by decide)
                have hK' : ∀ w9 y, CurB w9 g x n cap → Wr g w' w9 → K _ w9 := fun w9 y h1 h2 => hK w9 (.int .i64 y) (by simp) (by simpa [updK, upd, l6] using (hx.curs h1 h2).set4) trivial
                clear hK hp hx
                rw [if_pos (by rfl)]
                go_simp
                try simp only [d3]
                refine A.mono ?_
                rintro e w9 ⟨y, rfl, _, _, h1, h2⟩
                have hK2 := hK' w9 y h1 h2
                clear hK' A h1 h2
                go_simp
                simpa [upd, d3] using hK2
              · have d2 : t 2 = .int .i64 (sq : Int) := by simpa using (hdep ⟨2, .data⟩ (by simp) rfl).2
                obtain ⟨y4, d4⟩ : ∃ y : Int, t 4 = .int .i64 y := by simpa using (hdep ⟨4, .data⟩ (by simp) rfl).2
                have l4 : L 4 = true := (hdep ⟨4, .data⟩ (by simp) rfl).1
                clear hdep
                have hK' := hK w' (.agg #[.int .i64 (sq : Int), .int .i64 y4]) (by simp) (by simpa [updK, upd, l4] using hx.set5 l4) trivial
                clear hK hx
                rw [if_pos (by rfl)]
                go_simp
                simpa [upd, d2, d4] using hK'
              · obtain ⟨y5, d5⟩ : ∃ y : Int, t 5 = .agg #[.int .i64 (sq : Int), .int .i64 y] := by simpa using (hdep ⟨5, .data⟩ (by simp) rfl).2
                have l5 : L 5 = true := (hdep ⟨5, .data⟩ (by simp) rfl).1
                clear hdep
                rw [hLi] at hx
                have hx2 := hx.mk6 l5 (sq : Int) y5
                have hK' := hK (w'.alloc (.cells #[.int .i64 (sq : Int), .int .i64 y5] 94)) (.slice (some ⟨w'.heap.size, 0, none⟩) 1 1) (by simp [updK]) (by simpa [updK, upd] using hx2) trivial
                clear hK hx2 hx
                rw [if_pos (by rfl)]
                go_simp
                simpa [upd, d5] using hK'
              · have d1 : t 1 = .slice aT nT cT := by simpa using (hdep ⟨1, .data⟩ (by simp) rfl).2
                have l1 : L 1 = true := (hdep ⟨1, .data⟩ (by simp) rfl).1
                have l6 : L 6 = true := (hdep ⟨6, .data⟩ (by simp) rfl).1
                clear hdep
                rw [hLi, l6] at hx
                obtain ⟨W, s9, y9, hwW, d6, ht6, hz6, hx2⟩ := hx.app l1
                have hK' : ∀ v9 w9 T', TapO (S + 1) w9 v9 T' (nT + 1) → w'.grownBy w9 ((.slice aT nT cT) : Value).ownBlock → K _ w9 := fun v9 w9 T' h1 h2 => hK w9 v9 (by simp [updK]) (by simpa [updK, upd, l6] using hx2 v9 w9 T' h1 h2) trivial
                clear hK hx2 hx
                rw [if_pos (by rfl)]
                refine wp_appT1 w' (.tmp 37) (.tmp 42) rfl (S + 1) (.slice aT nT cT) T nT d1 ht6 W s9 y9 hwW d6 HNT.out hz6 ?_
                intro v9 w9 h1 h2
                have hK2 := hK' v9 w9 _ h1 h2
                clear hK' h1 h2
                simpa [upd, Act.put] using hK2
              · clear hdep
                have hK' := hK w' (.pointer (some ⟨S, 3, none⟩)) (by simp) (by simpa [updK, upd] using hx) trivial
                clear hK hx
                rw [if_pos (by rfl)]
                go_simp
                simpa [upd] using hK'
              · have d8 : t 8 = .pointer (some ⟨S, 3, none⟩) := by simpa using (hdep ⟨8, .data⟩ (by simp) rfl).2
                have l7 : L 7 = true := (hdep ⟨7, .data⟩ (by simp) rfl).1
                clear hdep
                rw [hLi, l7] at hx
                obtain ⟨hd9, ⟨T', ht9⟩, hx2⟩ := hx.store
                obtain ⟨a7, c7, e7⟩ := ht9.form
                have cl : w'.cell? ⟨S, 3, none⟩ = some (.slice aT nT cT) := hd9.cells.2.2.2.1
                have cf : w'.frozen? ⟨S, 3, none⟩ = false := hd9.cells.2.2.2.2 3
                have hK' := hK (w'.setCell ⟨S, 3, none⟩ (t 7)) undef (by simp [updK]) (by simpa [updK, upd, l7] using hx2) trivial
                clear hK hx2 hx hd9 ht9
                rw [e7] at hK'
                rw [if_pos (by rfl)]
                go_simp
                simpa [upd, d8, e7, Act.put] using hK'
            case hdone =>
              intro L t w9 hx hg
              have l9 : L 9 = true := by simpa using hg 9 (by decide)
              clear hg
              rw [l9] at hx
              obtain ⟨_, _, _, h5⟩ := hx
              rw [if_pos rfl] at h5
              obtain ⟨v5, T5, hs5, ht5⟩ := h5
              have HD9 := hid_of hs5
              have HT9 := hid_of ht5
              clear hs5 ht5 l9
              go_wp2
              go_roundw
              case rel => exact ⟨j + 1, _, v5, _, T5, nT + 1, by omega, by go_num, by omega, HD9.out, HT9.out⟩
              case measure => simp [intOf]; omega
    · have hje : j = m := by omega
      subst hje
      obtain ⟨sU, hnU, lU⟩ := HD.out.u.sat
      have hmU : nU ≤ 256 := by have := HD.out.pu.len; omega
      have c1 := HD.out.cells.2.1
      have c3 := HD.out.cells.2.2.2.1
      have c2 := HD.out.cells.2.2.1
      have f2 := HD.out.cells.2.2.2.2 2
      obtain ⟨k, hk⟩ : ∃ k : Int, (nU : Int) - (nT : Int) = k := ⟨_, rfl⟩
      have HK : Hid (-9223372036854775808 ≤ k ∧ k ≤ 9223372036854775807) := by unfold Hid; omega
      have HD4 : Hid (DS0 w g x n cap S (.slice none 0 0) (.slice aU nU cU) (.slice aT nT cT) k [] U (wr.setCell ⟨S, 2, none⟩ (.int .i64 k))) := HD.out.put (i := 2) rfl HD.out.d HD.out.u HD.out.pd HD.out.pu HD.out.ap
      have HT4 : Hid (TapO (S + 1) (wr.setCell ⟨S, 2, none⟩ (.int .i64 k)) (.slice aT nT cT) T nT) := HT.out.wrk (HD.out.set (i := 2) rfl).2 (by omega)
      clear sU hnU lU HD HT
      go_upto_region 14 with fail
      try rw [hk]
      clear c1 c2 c3 f2 hk hmU
      generalize wr.setCell ⟨S, 2, none⟩ (.int .i64 k) = w4 at *
      go_wp2_with fail
      refine (below_any g x n cap 6 w4 HD4.out.cb (HD4.out.ct HCT.out) (by decide) (by decide)).mono ?_
      rintro e w5 ⟨m2, rfl, hm0, hm1, hc5, hw5⟩
      have HD5 : Hid (DS0 w g x n cap S (.slice none 0 0) (.slice aU nU cU) (.slice aT nT cT) k [] U w5) := HD4.out.cur hc5 hw5
      have HT5 : Hid (TapO (S + 1) w5 (.slice aT nT cT) T nT) := HT4.out.wrk hw5 (by have := HD4.out.hg; have := HD4.out.hs; omega)
      clear hc5 hw5 HD4 HT4
      go_wp2_with fail
      refine (once_any g x n cap 5 w5 HD5.out.cb (HD5.out.ct HCT.out) (by decide) (by decide)).mono ?_
      rintro e w6 ⟨b6, rfl, hc6, hw6⟩
      have HD6 : Hid (DS0 w g x n cap S (.slice none 0 0) (.slice aU nU cU) (.slice aT nT cT) k [] U w6) := HD5.out.cur hc6 hw6
      have HT6 : Hid (TapO (S + 1) w6 (.slice aT nT cT) T nT) := HT5.out.wrk hw6 (by have := HD5.out.hg; have := HD5.out.hs; omega)
      clear hc6 hw6 HD5 HT5
      cases b6
      · have hm16 : m2 ≤ 16 := by omega
        clear hm1
        go_wp2_with fail
        go_loopw [8] (fun i wz => ∃ (j2 : Nat) (vd : Value) (D : List Int), j2 ≤ 40 ∧ i = .int .i64 j2 ∧ D.length ≤ 16 ∧ DS0 w g x n cap S (vd) (.slice aU nU cU) (.slice aT nT cT) k D U wz ∧ TapO (S + 1) wz (.slice aT nT cT) T nT) (fun i _ => 40 - (intOf i).toNat)
        case atStart => exact ⟨0, _, [], by omega, rfl, by simp, HD6.out, HT6.out⟩
        case round =>
          clear HD6 HT6
          obtain ⟨j2, vd, D, hj2, rfl, hD16, hd, ht⟩ := hrel
          obtain ⟨aD, nD, cD, rfl⟩ := hd.d.form
          obtain ⟨sD, hnD, lD⟩ := hd.d.sat
          have HD : Hid (DS0 w g x n cap S (.slice aD nD cD) (.slice aU nU cU) (.slice aT nT cT) k D U wr) := hd
          have HT : Hid (TapO (S + 1) wr (.slice aT nT cT) T nT) := ht
          have c0 := hd.cells.1
          have c1 := hd.cells.2.1
          have c2 := hd.cells.2.2.1
          have c3 := hd.cells.2.2.2.1
          clear hd ht sD lD
          by_cases hlt : j2 < 40
          · have hlt' : (j2 : Int) < 40 := by omega
            by_cases hdm : (nD : Int) < m2
            · have hDl : D.length + 1 ≤ 16 := by omega
              go_wp2_with fail
              refine wp_region_any (by kernel_rfl) ?_
              refine wpAny_slotsU (fun _ _ _ => True) (frame := (fun (c0 c1 c2 c3 c4 c5 c6 c7 c8 c9 c10 c11 c12 c13 c14 c15 c16 c17 c18 c19 c20 c21 c22 c23 c24 c25 c26 c27 c28 c29 c30 c31 c32 c33 c34 c35 c36 c37 c38 c39 c40 c41 c42 c43 c44 c45 c46 c47 c48 c49 c50 c51 c52 c53 c54 c55 c56 c57 c58 c59 c60 c61 c62 c63 c64 c65 c66 c67 c74 : Value) => fun (t : Nat → Value) => ({ tmps := List.toArray (c0 :: c1 :: c2 :: c3 :: c4 :: c5 :: c6 :: c7 :: c8 :: c9 :: c10 :: c11 :: c12 :: c13 :: c14 :: c15 :: c16 :: c17 :: c18 :: c19 :: c20 :: c21 :: c22 :: c23 :: c24 :: c25 :: c26 :: c27 :: c28 :: c29 :: c30 :: c31 :: c32 :: c33 :: c34 :: c35 :: c36 :: c37 :: c38 :: c39 :: c40 :: c41 :: c42 :: c43 :: c44 :: c45 :: c46 :: c47 :: c48 :: c49 :: c50 :: c51 :: c52 :: c53 :: c54 :: c55 :: c56 :: c57 :: c58 :: c59 :: c60 :: c61 :: c62 :: c63 :: c64 :: c65 :: c66 :: c67 :: t 0 :: t 1 :: t 2 :: t 3 :: t 4 :: t 5 :: c74 :: []), defers := [] } : Act)) _ _ _ _ _ _ _ _ _ _ _ _ _ _ _ _ _ _ _ _ _ _ _ _ _ _ _ _ _ _ _ _ _ _ _ _ _ _ _ _ _ _ _ _ _ _ _ _ _ _ _ _ _ _ _ _ _ _ _ _ _ _ _ _ _ _ _ _ _)
                (Ext := fun L u w' => EAD w g x n cap S (.slice aD nD cD) (.slice aU nU cU) (.slice aT nT cT) k D U T nT (L 1) (L 3) (L 4) (L 6) (u 4) w') (Good := fun i L w' v => if i = 0 then v = .pointer (some ⟨S, 0, none⟩) else if i = 1 then v = .slice aD nD cD else if i = 2 then v = .pointer (some ⟨g, 0, none⟩) else if i = 3 then ∃ y : Nat, v = .int .i64 (y : Int) else if i = 4 then L 4 = true else if i = 5 then v = .pointer (some ⟨S, 0, none⟩) else if i = 6 then L 6 = true else True) ?hstab (by kernel_rfl) ?hop ?hdone _ _ ((fun (x0 x1 x2 x3 x4 x5 : Value) => fun (i : Nat) => if i = 0 then x0 else if i = 1 then x1 else if i = 2 then x2 else if i = 3 then x3 else if i = 4 then x4 else if i = 5 then x5 else undef) _ _ _ _ _ _) _ (by simp) ?ext ?start (by simp)
              case start => intro i hi h; exact absurd h (by rw [Array.getD_eq_getD_getElem?, Array.getElem?_replicate]; split <;> simp)
              case ext =>
                have h0 : ∀ i, (Array.replicate 7 false).getD i false = false := fun i => by rw [Array.getD_eq_getD_getElem?, Array.getElem?_replicate]; split <;> rfl
                exact EAD.mk (h0 4) (h0 6) (HD.out.call ⟨rfl, rfl, rfl, Nat.le_refl _, fun _ _ => rfl⟩) HT.out
              case hstab =>
                intro j L w9 w' i v hM hij hLi h
                by_cases h4 : j = 4
                · subst h4
                  simp at h ⊢
                  unfold updK; simp [h]
                by_cases h6 : j = 6
                · subst h6
                  simp at h ⊢
                  unfold updK; simp [h]
                simp only [if_neg h4, if_neg h6] at h ⊢
                exact h
              case hop =>
                intro i o L t w' ho hLi hx hdep K hK
                have hi : i < 7 := (Array.getElem?_eq_some_iff.1 ho).1
                obtain rfl | rfl | rfl | rfl | rfl | rfl | rfl : i = 0 ∨ i = 1 ∨ i = 2 ∨ i = 3 ∨ i = 4 ∨ i = 5 ∨ i = 6 := by omega
                all_goals (simp at ho; subst ho)
                · clear hdep
                  have hK' := hK w' (.pointer (some ⟨S, 0, none⟩)) (by simp) (by simpa [updK, upd] using hx) trivial
                  clear hK hx
                  rw [if_pos (by rfl)]
                  go_simp
                  simpa [upd] using hK'
                · have d0 : t 0 = .pointer (some ⟨S, 0, none⟩) := by simpa using (hdep ⟨0, .data⟩ (by simp) rfl).2
                  clear hdep
                  have l4 := hx.no4 (.inl hLi)
                  rw [l4] at hx
                  have hp := hx.pre
                  have cl : w'.cell? ⟨S, 0, none⟩ = some (.slice aD nD cD) := hp.1.cells.1
                  have hK' := hK w' (.slice aD nD cD) (by simp) (by simpa [updK, upd, l4, hp.2.2] using EAD.mk (f1 := true) (f3 := L 3) (f4 := false) (f6 := false) (u4 := t 4) rfl rfl hp.1 hp.2.1) trivial
                  clear hK hp hx
                  rw [if_pos (by rfl)]
                  go_simp
                  simpa [upd, d0] using hK'
                · clear hdep
                  have hK' := hK w' (.pointer (some ⟨g, 0, none⟩)) (by simp) (by simpa [updK, upd] using hx) trivial
                  clear hK hx
                  rw [if_pos (by rfl)]
                  go_simp
                  simpa [upd] using hK'
                · have d2 : t 2 = .pointer (some ⟨g, 0, none⟩) := by simpa using (hdep ⟨2, .data⟩ (by simp) rfl).2
                  clear hdep
                  have l4 := hx.no4 (.inr hLi)
                  rw [l4] at hx
                  have hp := hx.pre
                  have A := below_any g x n cap 60 w' hp.1.cb (hp.1.ct HCT.out) (by decide) (by decide)
                  have hK' : ∀ w9 (y : Nat), CurB w9 g x n cap → Wr g w' w9 → K _ w9 := fun w9 y h1 h2 => hK w9 (.int .i64 (y : Int)) (by exact (⟨y, rfl⟩ : ∃ y' : Nat, Value.int .i64 (y : Int) = .int .i64 (y' : Int))) (by simpa [updK, upd, l4, hp.2.2] using EAD.mk (f1 := L 1) (f3 := true) (f4 := false) (f6 := false) (u4 := t 4) rfl rfl (hp.1.cur h1 h2) (hp.2.1.wrk h2 (by have := hp.1.hg; have := hp.1.hs; omega))) trivial
                  clear hK hp hx
                  rw [if_pos (by rfl)]
                  go_simp
                  try simp only [d2]
                  refine A.mono ?_
                  rintro e w9 ⟨y, rfl, hy0, _, h1, h2⟩
                  obtain ⟨y, rfl⟩ := Int.eq_ofNat_of_zero_le hy0
                  have hK2 := hK' w9 y h1 h2
                  clear hK' A h1 h2
                  go_simp
                  simpa [upd, d2] using hK2
                · have d1 : t 1 = .slice aD nD cD := by simpa using (hdep ⟨1, .data⟩ (by simp) rfl).2
                  obtain ⟨y3, d3⟩ : ∃ y : Nat, t 3 = .int .i64 (y : Int) := by simpa using (hdep ⟨3, .data⟩ (by simp) rfl).2
                  have l1 : L 1 = true := (hdep ⟨1, .data⟩ (by simp) rfl).1
                  have l3 : L 3 = true := (hdep ⟨3, .data⟩ (by simp) rfl).1
                  clear hdep
                  rw [hLi] at hx
                  have hp := hx.pre
                  obtain ⟨sD, hnD, lD⟩ := hp.1.d.sat
                  have A := with_any aD nD cD D y3 w' hnD (by have := hp.1.pd.len; omega) sD.at_
                  have hK' : ∀ w9 v9, Iow w'.heap.size w9 v9 (withS D y3) → Below w'.heap.size w' w9 → K _ w9 := fun w9 v9 h1 h2 => hK w9 v9 (by simp [updK]) (by
                    have := EAD.mk4 (T := T) (nT := nT) (f1 := true) (f3 := true) (f6 := false) (u4 := v9) rfl rfl rfl (hp.1.call h2) (hp.2.1.below h2) (withS D y3) (Iow.mono h1 hp.1.lt) (withS_ser _ _) (withS_len1 hp.1.pd _) (ApV.fresh_l h1 hp.1.u).1
                    simpa [updK, upd, l1, l3, hp.2.2] using this) trivial
                  clear hK hp hx sD lD
                  rw [if_pos (by rfl)]
                  go_simp
                  try simp only [d1, d3]
                  refine A.mono ?_
                  rintro e w9 ⟨v9, rfl, h1, h2⟩
                  have hK2 := hK' w9 v9 h1 h2
                  clear hK' A h1 h2
                  go_simp
                  simpa [upd, d1, d3] using hK2
                · clear hdep
                  have hK' := hK w' (.pointer (some ⟨S, 0, none⟩)) (by simp) (by simpa [updK, upd] using hx) trivial
                  clear hK hx
                  rw [if_pos (by rfl)]
                  go_simp
                  simpa [upd] using hK'
                · have d5 : t 5 = .pointer (some ⟨S, 0, none⟩) := by simpa using (hdep ⟨5, .data⟩ (by simp) rfl).2
                  have l4 : L 4 = true := (hdep ⟨4, .data⟩ (by simp) rfl).1
                  clear hdep
                  rw [hLi, l4] at hx
                  obtain ⟨hd9, ⟨D', hi9⟩, hx2⟩ := hx.store
                  obtain ⟨a4, n4, c4, e4⟩ := hi9.form
                  have cl : w'.cell? ⟨S, 0, none⟩ = some (.slice aD nD cD) := hd9.cells.1
                  have cf : w'.frozen? ⟨S, 0, none⟩ = false := hd9.cells.2.2.2.2 0
                  have hK' := hK (w'.setCell ⟨S, 0, none⟩ (t 4)) undef (by simp [updK]) (by simpa [updK, upd, l4] using hx2) trivial
                  clear hK hx2 hx hd9 hi9
                  rw [e4] at hK'
                  rw [if_pos (by rfl)]
                  go_simp
                  simpa [upd, d5, e4, Act.put] using hK'
              case hdone =>
                intro L t w9 hx hg
                have l6 : L 6 = true := by simpa using hg 6 (by decide)
                clear hg
                rw [l6] at hx
                obtain ⟨_, _, h5⟩ := hx
                rw [if_pos rfl] at h5
                obtain ⟨v5, D5, hs5, hl5, ht5⟩ := h5
                have HD9 := hid_of hs5
                have HT9 := hid_of ht5
                have hl9 : D5.length ≤ 16 := by omega
                clear hs5 ht5 l6 hl5
                go_wp2
                go_roundw
                case rel => exact ⟨j2 + 1, v5, D5, by omega, by go_num, hl9, HD9.out, HT9.out⟩
                case measure => simp [intOf]; omega
            · have HBX : Hid (wr.heap[w.heap.size]? = some (.cells #[.slice none 0 0, .slice none 0 0, .int .i64 0, .slice none 0 0] 74 (0, 0))) := HD.out.bx
              have HSB : Hid (wr.heap[S]? = some (.cells #[.slice aD nD cD, .slice aU nU cU, .int .i64 k, .slice aT nT cT] 74 (0, 0))) := HD.out.s
              go_wp2_with (first
                | (refine wpList_store_row rfl 74 (.tmp 2) (.tmp 74) rfl w.heap.size #[.slice aD nD cD, .slice aU nU cU, .int .i64 k, .slice aT nT cT] rfl rfl 74 _ HBX.out HSZ.out rfl (by simp [Value.oneCell']) ?_)
                | fail)
              (try simp only [Exit.inBlock, Exit.then])
              refine bodyPost_ret (v := .agg #[.slice aD nD cD, .slice aU nU cU, .int .i64 k, .slice aT nT cT]) (results_cell_row rfl _ _ w.heap.size 74 _ (0, 0) _ rfl (setRow_heap _ _ _ _ _ _ HBX.out) Try.underlying74 rfl HSZ.out) rfl ⟨_, rfl, ?_⟩
              have hw := Wr.setRow w.heap.size wr #[.slice aD nD cD, .slice aU nU cU, .int .i64 k, .slice aT nT cT]
              have h1 := HD.out.hg
              have h2 := HD.out.hs
              refine ⟨aD, nD, cD, aU, nU, cU, k, aT, nT, cT, D, U, T, rfl, Iow.mono (HD.out.d.wr hw (by omega)) (by omega), Iow.mono (HD.out.u.wr hw (by omega)) (by omega), TapO.mono (HT.out.wrk hw (by omega)) (by omega), HD.out.pd, hD16, HD.out.pu, HK.out, HD.out.ap, HD.out.cb.keep (hw.block g (by omega)), ?_⟩
              exact ⟨hw.os.trans HD.out.wg.os, hw.tape.trans HD.out.wg.tape, hw.output.trans HD.out.wg.output, by rw [hw.size]; exact HD.out.wg.size, fun q hq hqg => (hw.block q (by omega)).trans (HD.out.wg.block q hq hqg)⟩
          · have hlt' : ¬ ((j2 : Int) < 40) := by omega
            have HBX : Hid (wr.heap[w.heap.size]? = some (.cells #[.slice none 0 0, .slice none 0 0, .int .i64 0, .slice none 0 0] 74 (0, 0))) := HD.out.bx
            have HSB : Hid (wr.heap[S]? = some (.cells #[.slice aD nD cD, .slice aU nU cU, .int .i64 k, .slice aT nT cT] 74 (0, 0))) := HD.out.s
            go_wp2_with (first
              | (refine wpList_store_row rfl 74 (.tmp 2) (.tmp 74) rfl w.heap.size #[.slice aD nD cD, .slice aU nU cU, .int .i64 k, .slice aT nT cT] rfl rfl 74 _ HBX.out HSZ.out rfl (by simp [Value.oneCell']) ?_)
              | fail)
            (try simp only [Exit.inBlock, Exit.then])
            refine bodyPost_ret (v := .agg #[.slice aD nD cD, .slice aU nU cU, .int .i64 k, .slice aT nT cT]) (results_cell_row rfl _ _ w.heap.size 74 _ (0, 0) _ rfl (setRow_heap _ _ _ _ _ _ HBX.out) Try.underlying74 rfl HSZ.out) rfl ⟨_, rfl, ?_⟩
            have hw := Wr.setRow w.heap.size wr #[.slice aD nD cD, .slice aU nU cU, .int .i64 k, .slice aT nT cT]
            have h1 := HD.out.hg
            have h2 := HD.out.hs
            refine ⟨aD, nD, cD, aU, nU, cU, k, aT, nT, cT, D, U, T, rfl, Iow.mono (HD.out.d.wr hw (by omega)) (by omega), Iow.mono (HD.out.u.wr hw (by omega)) (by omega), TapO.mono (HT.out.wrk hw (by omega)) (by omega), HD.out.pd, hD16, HD.out.pu, HK.out, HD.out.ap, HD.out.cb.keep (hw.block g (by omega)), ?_⟩
            exact ⟨hw.os.trans HD.out.wg.os, hw.tape.trans HD.out.wg.tape, hw.output.trans HD.out.wg.output, by rw [hw.size]; exact HD.out.wg.size, fun q hq hqg => (hw.block q (by omega)).trans (HD.out.wg.block q hq hqg)⟩
      · clear hm1
        go_wp2_with fail
        go_loopw [8] (fun i wz => ∃ (j2 : Nat) (vd : Value) (D : List Int), j2 ≤ 40 ∧ i = .int .i64 j2 ∧ D.length ≤ 16 ∧ DS0 w g x n cap S (vd) (.slice aU nU cU) (.slice aT nT cT) k D U wz ∧ TapO (S + 1) wz (.slice aT nT cT) T nT) (fun i _ => 40 - (intOf i).toNat)
        case atStart => exact ⟨0, _, [], by omega, rfl, by simp, HD6.out, HT6.out⟩
        case round =>
          clear HD6 HT6
          obtain ⟨j2, vd, D, hj2, rfl, hD16, hd, ht⟩ := hrel
          obtain ⟨aD, nD, cD, rfl⟩ := hd.d.form
          obtain ⟨sD, hnD, lD⟩ := hd.d.sat
          have HD : Hid (DS0 w g x n cap S (.slice aD nD cD) (.slice aU nU cU) (.slice aT nT cT) k D U wr) := hd
          have HT : Hid (TapO (S + 1) wr (.slice aT nT cT) T nT) := ht
          have c0 := hd.cells.1
          have c1 := hd.cells.2.1
          have c2 := hd.cells.2.2.1
          have c3 := hd.cells.2.2.2.1
          clear hd ht sD lD
          by_cases hlt : j2 < 40
          · have hlt' : (j2 : Int) < 40 := by omega
            by_cases hdm : (nD : Int) < 16
            · have hDl : D.length + 1 ≤ 16 := by omega
              go_wp2_with fail
              refine wp_region_any (by kernel_rfl) ?_
              refine wpAny_slotsU (fun _ _ _ => True) (frame := (fun (c0 c1 c2 c3 c4 c5 c6 c7 c8 c9 c10 c11 c12 c13 c14 c15 c16 c17 c18 c19 c20 c21 c22 c23 c24 c25 c26 c27 c28 c29 c30 c31 c32 c33 c34 c35 c36 c37 c38 c39 c40 c41 c42 c43 c44 c45 c46 c47 c48 c49 c50 c51 c52 c53 c54 c55 c56 c57 c58 c59 c60 c61 c62 c63 c64 c65 c66 c67 c74 : Value) => fun (t : Nat → Value) => ({ tmps := List.toArray (c0 :: c1 :: c2 :: c3 :: c4 :: c5 :: c6 :: c7 :: c8 :: c9 :: c10 :: c11 :: c12 :: c13 :: c14 :: c15 :: c16 :: c17 :: c18 :: c19 :: c20 :: c21 :: c22 :: c23 :: c24 :: c25 :: c26 :: c27 :: c28 :: c29 :: c30 :: c31 :: c32 :: c33 :: c34 :: c35 :: c36 :: c37 :: c38 :: c39 :: c40 :: c41 :: c42 :: c43 :: c44 :: c45 :: c46 :: c47 :: c48 :: c49 :: c50 :: c51 :: c52 :: c53 :: c54 :: c55 :: c56 :: c57 :: c58 :: c59 :: c60 :: c61 :: c62 :: c63 :: c64 :: c65 :: c66 :: c67 :: t 0 :: t 1 :: t 2 :: t 3 :: t 4 :: t 5 :: c74 :: []), defers := [] } : Act)) _ _ _ _ _ _ _ _ _ _ _ _ _ _ _ _ _ _ _ _ _ _ _ _ _ _ _ _ _ _ _ _ _ _ _ _ _ _ _ _ _ _ _ _ _ _ _ _ _ _ _ _ _ _ _ _ _ _ _ _ _ _ _ _ _ _ _ _ _)
                (Ext := fun L u w' => EAD w g x n cap S (.slice aD nD cD) (.slice aU nU cU) (.slice aT nT cT) k D U T nT (L 1) (L 3) (L 4) (L 6) (u 4) w') (Good := fun i L w' v => if i = 0 then v = .pointer (some ⟨S, 0, none⟩) else if i = 1 then v = .slice aD nD cD else if i = 2 then v = .pointer (some ⟨g, 0, none⟩) else if i = 3 then ∃ y : Nat, v = .int .i64 (y : Int) else if i = 4 then L 4 = true else if i = 5 then v = .pointer (some ⟨S, 0, none⟩) else if i = 6 then L 6 = true else True) ?hstab (by kernel_rfl) ?hop ?hdone _ _ ((fun (x0 x1 x2 x3 x4 x5 : Value) => fun (i : Nat) => if i = 0 then x0 else if i = 1 then x1 else if i = 2 then x2 else if i = 3 then x3 else if i = 4 then x4 else if i = 5 then x5 else undef) _ _ _ _ _ _) _ (by simp) ?ext ?start (by simp)
              case start => intro i hi h; exact absurd h (by rw [Array.getD_eq_getD_getElem?, Array.getElem?_replicate]; split <;> simp)
              case ext =>
                have h0 : ∀ i, (Array.replicate 7 false).getD i false = false := fun i => by rw [Array.getD_eq_getD_getElem?, Array.getElem?_replicate]; split <;> rfl
                exact EAD.mk (h0 4) (h0 6) (HD.out.call ⟨rfl, rfl, rfl, Nat.le_refl _, fun _ _ => rfl⟩) HT.out
              case hstab =>
                intro j L w9 w' i v hM hij hLi h
                by_cases h4 : j = 4
                · subst h4
                  simp at h ⊢
                  unfold updK; simp [h]
                by_cases h6 : j = 6
                · subst h6
                  simp at h ⊢
                  unfold updK; simp [h]
                simp only [if_neg h4, if_neg h6] at h ⊢
                exact h
              case hop =>
                intro i o L t w' ho hLi hx hdep K hK
                have hi : i < 7 := (Array.getElem?_eq_some_iff.1 ho).1
                obtain rfl | rfl | rfl | rfl | rfl | rfl | rfl : i = 0 ∨ i = 1 ∨ i = 2 ∨ i = 3 ∨ i = 4 ∨ i = 5 ∨ i = 6 := by omega
                all_goals (simp at ho; subst ho)
                · clear hdep
                  have hK' := hK w' (.pointer (some ⟨S, 0, none⟩)) (by simp) (by simpa [updK, upd] using hx) trivial
                  clear hK hx
                  rw [if_pos (by rfl)]
                  go_simp
                  simpa [upd] using hK'
                · have d0 : t 0 = .pointer (some ⟨S, 0, none⟩) := by simpa using (hdep ⟨0, .data⟩ (by simp) rfl).2
                  clear hdep
                  have l4 := hx.no4 (.inl hLi)
                  rw [l4] at hx
                  have hp := hx.pre
                  have cl : w'.cell? ⟨S, 0, none⟩ = some (.slice aD nD cD) := hp.1.cells.1
                  have hK' := hK w' (.slice aD nD cD) (by simp) (by simpa [updK, upd, l4, hp.2.2] using EAD.mk (f1 := true) (f3 := L 3) (f4 := false) (f6 := false) (u4 := t 4) rfl rfl hp.1 hp.2.1) trivial
                  clear hK hp hx
                  rw [if_pos (by rfl)]
                  go_simp
                  simpa [upd, d0] using hK'
                · clear hdep
                  have hK' := hK w' (.pointer (some ⟨g, 0, none⟩)) (by simp) (by simpa [updK, upd] using hx) trivial
                  clear hK hx
                  rw [if_pos (by rfl)]
                  go_simp
                  simpa [upd] using hK'
                · have d2 : t 2 = .pointer (some ⟨g, 0, none⟩) := by simpa using (hdep ⟨2, .data⟩ (by simp) rfl).2
                  clear hdep
                  have l4 := hx.no4 (.inr hLi)
                  rw [l4] at hx
                  have hp := hx.pre
                  have A := below_any g x n cap 60 w' hp.1.cb (hp.1.ct HCT.out) (by decide) (by decide)
                  have hK' : ∀ w9 (y : Nat), CurB w9 g x n cap → Wr g w' w9 → K _ w9 := fun w9 y h1 h2 => hK w9 (.int .i64 (y : Int)) (by exact (⟨y, rfl⟩ : ∃ y' : Nat, Value.int .i64 (y : Int) = .int .i64 (y' : Int))) (by simpa [updK, upd, l4, hp.2.2] using EAD.mk (f1 := L 1) (f3 := true) (f4 := false) (f6 := false) (u4 := t 4) rfl rfl (hp.1.cur h1 h2) (hp.2.1.wrk h2 (by have := hp.1.hg; have := hp.1.hs; omega))) trivial
                  clear hK hp hx
                  rw [if_pos (by rfl)]
                  go_simp
                  try simp only [d2]
                  refine A.mono ?_
                  rintro e w9 ⟨y, rfl, hy0, _, h1, h2⟩
                  obtain ⟨y, rfl⟩ := Int.eq_ofNat_of_zero_le hy0
                  have hK2 := hK' w9 y h1 h2
                  clear hK' A h1 h2
                  go_simp
                  simpa [upd, d2] using hK2
                · have d1 : t 1 = .slice aD nD cD := by simpa using (hdep ⟨1, .data⟩ (by simp) rfl).2
                  obtain ⟨y3, d3⟩ : ∃ y : Nat, t 3 = .int .i64 (y : Int) := by simpa using (hdep ⟨3, .data⟩ (by simp) rfl).2
                  have l1 : L 1 = true := (hdep ⟨1, .data⟩ (by simp) rfl).1
                  have l3 : L 3 = true := (hdep ⟨3, .data⟩ (by simp) rfl).1
                  clear hdep
                  rw [hLi] at hx
                  have hp := hx.pre
                  obtain ⟨sD, hnD, lD⟩ := hp.1.d.sat
                  have A := with_any aD nD cD D y3 w' hnD (by have := hp.1.pd.len; omega) sD.at_
                  have hK' : ∀ w9 v9, Iow w'.heap.size w9 v9 (withS D y3) → Below w'.heap.size w' w9 → K _ w9 := fun w9 v9 h1 h2 => hK w9 v9 (by simp [updK]) (by
                    have := EAD.mk4 (T := T) (nT := nT) (f1 := true) (f3 := true) (f6 := false) (u4 := v9) rfl rfl rfl (hp.1.call h2) (hp.2.1.below h2) (withS D y3) (Iow.mono h1 hp.1.lt) (withS_ser _ _) (withS_len1 hp.1.pd _) (ApV.fresh_l h1 hp.1.u).1
                    simpa [updK, upd, l1, l3, hp.2.2] using this) trivial
                  clear hK hp hx sD lD
                  rw [if_pos (by rfl)]
                  go_simp
                  try simp only [d1, d3]
                  refine A.mono ?_
                  rintro e w9 ⟨v9, rfl, h1, h2⟩
                  have hK2 := hK' w9 v9 h1 h2
                  clear hK' A h1 h2
                  go_simp
                  simpa [upd, d1, d3] using hK2
                · clear hdep
                  have hK' := hK w' (.pointer (some ⟨S, 0, none⟩)) (by simp) (by simpa [updK, upd] using hx) trivial
                  clear hK hx
                  rw [if_pos (by rfl)]
                  go_simp
                  simpa [upd] using hK'
                · have d5 : t 5 = .pointer (some ⟨S, 0, none⟩) := by simpa using (hdep ⟨5, .data⟩ (by simp) rfl).2
                  have l4 : L 4 = true := (hdep ⟨4, .data⟩ (by simp) rfl).1
                  clear hdep
                  rw [hLi, l4] at hx
                  obtain ⟨hd9, ⟨D', hi9⟩, hx2⟩ := hx.store
                  obtain ⟨a4, n4, c4, e4⟩ := hi9.form
                  have cl : w'.cell? ⟨S, 0, none⟩ = some (.slice aD nD cD) := hd9.cells.1
                  have cf : w'.frozen? ⟨S, 0, none⟩ = false := hd9.cells.2.2.2.2 0
                  have hK' := hK (w'.setCell ⟨S, 0, none⟩ (t 4)) undef (by simp [updK]) (by simpa [updK, upd, l4] using hx2) trivial
                  clear hK hx2 hx hd9 hi9
                  rw [e4] at hK'
                  rw [if_pos (by rfl)]
                  go_simp
                  simpa [upd, d5, e4, Act.put] using hK'
              case hdone =>
                intro L t w9 hx hg
                have l6 : L 6 = true := by simpa using hg 6 (by decide)
                clear hg
                rw [l6] at hx
                obtain ⟨_, _, h5⟩ := hx
                rw [if_pos rfl] at h5
                obtain ⟨v5, D5, hs5, hl5, ht5⟩ := h5
                have HD9 := hid_of hs5
                have HT9 := hid_of ht5
                have hl9 : D5.length ≤ 16 := by omega
                clear hs5 ht5 l6 hl5
                go_wp2
                go_roundw
                case rel => exact ⟨j2 + 1, v5, D5, by omega, by go_num, hl9, HD9.out, HT9.out⟩
                case measure => simp [intOf]; omega
            · have HBX : Hid (wr.heap[w.heap.size]? = some (.cells #[.slice none 0 0, .slice none 0 0, .int .i64 0, .slice none 0 0] 74 (0, 0))) := HD.out.bx
              have HSB : Hid (wr.heap[S]? = some (.cells #[.slice aD nD cD, .slice aU nU cU, .int .i64 k, .slice aT nT cT] 74 (0, 0))) := HD.out.s
              go_wp2_with (first
                | (refine wpList_store_row rfl 74 (.tmp 2) (.tmp 74) rfl w.heap.size #[.slice aD nD cD, .slice aU nU cU, .int .i64 k, .slice aT nT cT] rfl rfl 74 _ HBX.out HSZ.out rfl (by simp [Value.oneCell']) ?_)
                | fail)
              (try simp only [Exit.inBlock, Exit.then])
              refine bodyPost_ret (v := .agg #[.slice aD nD cD, .slice aU nU cU, .int .i64 k, .slice aT nT cT]) (results_cell_row rfl _ _ w.heap.size 74 _ (0, 0) _ rfl (setRow_heap _ _ _ _ _ _ HBX.out) Try.underlying74 rfl HSZ.out) rfl ⟨_, rfl, ?_⟩
              have hw := Wr.setRow w.heap.size wr #[.slice aD nD cD, .slice aU nU cU, .int .i64 k, .slice aT nT cT]
              have h1 := HD.out.hg
              have h2 := HD.out.hs
              refine ⟨aD, nD, cD, aU, nU, cU, k, aT, nT, cT, D, U, T, rfl, Iow.mono (HD.out.d.wr hw (by omega)) (by omega), Iow.mono (HD.out.u.wr hw (by omega)) (by omega), TapO.mono (HT.out.wrk hw (by omega)) (by omega), HD.out.pd, hD16, HD.out.pu, HK.out, HD.out.ap, HD.out.cb.keep (hw.block g (by omega)), ?_⟩
              exact ⟨hw.os.trans HD.out.wg.os, hw.tape.trans HD.out.wg.tape, hw.output.trans HD.out.wg.output, by rw [hw.size]; exact HD.out.wg.size, fun q hq hqg => (hw.block q (by omega)).trans (HD.out.wg.block q hq hqg)⟩
          · have hlt' : ¬ ((j2 : Int) < 40) := by omega
            have HBX : Hid (wr.heap[w.heap.size]? = some (.cells #[.slice none 0 0, .slice none 0 0, .int .i64 0, .slice none 0 0] 74 (0, 0))) := HD.out.bx
            have HSB : Hid (wr.heap[S]? = some (.cells #[.slice aD nD cD, .slice aU nU cU, .int .i64 k, .slice aT nT cT] 74 (0, 0))) := HD.out.s
            go_wp2_with (first
              | (refine wpList_store_row rfl 74 (.tmp 2) (.tmp 74) rfl w.heap.size #[.slice aD nD cD, .slice aU nU cU, .int .i64 k, .slice aT nT cT] rfl rfl 74 _ HBX.out HSZ.out rfl (by simp [Value.oneCell']) ?_)
              | fail)
            (try simp only [Exit.inBlock, Exit.then])
            refine bodyPost_ret (v := .agg #[.slice aD nD cD, .slice aU nU cU, .int .i64 k, .slice aT nT cT]) (results_cell_row rfl _ _ w.heap.size 74 _ (0, 0) _ rfl (setRow_heap _ _ _ _ _ _ HBX.out) Try.underlying74 rfl HSZ.out) rfl ⟨_, rfl, ?_⟩
            have hw := Wr.setRow w.heap.size wr #[.slice aD nD cD, .slice aU nU cU, .int .i64 k, .slice aT nT cT]
            have h1 := HD.out.hg
            have h2 := HD.out.hs
            refine ⟨aD, nD, cD, aU, nU, cU, k, aT, nT, cT, D, U, T, rfl, Iow.mono (HD.out.d.wr hw (by omega)) (by omega), Iow.mono (HD.out.u.wr hw (by omega)) (by omega), TapO.mono (HT.out.wrk hw (by omega)) (by omega), HD.out.pd, hD16, HD.out.pu, HK.out, HD.out.ap, HD.out.cb.keep (hw.block g (by omega)), ?_⟩
            exact ⟨hw.os.trans HD.out.wg.os, hw.tape.trans HD.out.wg.tape, hw.output.trans HD.out.wg.output, by rw [hw.size]; exact HD.out.wg.size, fun q hq hqg => (hw.block q (by omega)).trans (HD.out.wg.block q hq hqg)⟩
end Go.Proofs.Ytmnoelfabldpfaa
