/-
  Own work: a point in a block of its own, and runs over elements beside it; the curve's constants; inverse.
-/
import Derived.Test.YthghkfncpdnpoacILst
namespace Go.Proofs.Ythghkfncpdnpoac
open Go.ChangeShapes Go.WideShapes Go.ChangeAt Go.RowKit
set_option linter.unusedVariables false

def pl (x y z t : List Int) : List Int := x ++ (y ++ (z ++ t))
def over (zs : List Int) : Nat → List Int → List Int
  | _, [] => zs
  | o, a :: r => over (zs.set o a) (o + 1) r
theorem RowW.setCells {g : Nat} {e : TypeId} : ∀ (es zs : List Int) (w : World) (o : Nat), RowW w g e zs → RowW (w.setCells g o (es.map (Value.int .u64))) g e (over zs o es)
  | [], _, _, _, h => h
  | a :: r, zs, w, o, h => RowW.setCells r (zs.set o a) _ (o + 1) (h.set o a)
theorem Wr.setCells {g : Nat} {v : World} : ∀ (es : List Value) (w : World) (o : Nat), Wr g v w → Wr g v (w.setCells g o es)
  | [], _, _, h => h
  | a :: r, w, o, h => Wr.setCells r _ (o + 1) (h.setCell o a)
theorem over_x {x y z t es : List Int} (hx : x.length = 5) (he : es.length = 5) : over (pl x y z t) 0 es = pl es y z t := by
  match x, hx, es, he with
  | [_, _, _, _, _], _, [_, _, _, _, _], _ => rfl
theorem over_y {x y z t es : List Int} (hx : x.length = 5) (hy : y.length = 5) (he : es.length = 5) : over (pl x y z t) 5 es = pl x es z t := by
  match x, hx, y, hy, es, he with
  | [_, _, _, _, _], _, [_, _, _, _, _], _, [_, _, _, _, _], _ => rfl
theorem over_z {x y z t es : List Int} (hx : x.length = 5) (hy : y.length = 5) (hz : z.length = 5) (he : es.length = 5) : over (pl x y z t) 10 es = pl x y es t := by
  match x, hx, y, hy, z, hz, es, he with
  | [_, _, _, _, _], _, [_, _, _, _, _], _, [_, _, _, _, _], _, [_, _, _, _, _], _ => rfl
theorem over_t {x y z t es : List Int} (hx : x.length = 5) (hy : y.length = 5) (hz : z.length = 5) (ht : t.length = 5) (he : es.length = 5) : over (pl x y z t) 15 es = pl x y z es := by
  match x, hx, y, hy, z, hz, t, ht, es, he with
  | [_, _, _, _, _], _, [_, _, _, _, _], _, [_, _, _, _, _], _, [_, _, _, _, _], _, [_, _, _, _, _], _ => rfl

/-- A point in block g. -/
structure Pt (w : World) (g : Nat) (x y z t : List Int) : Prop where
  row : RowW w g 84 (pl x y z t)
  x : EOk x
  y : EOk y
  z : EOk z
  t : EOk t
theorem Pt.at {w : World} {g : Nat} {x y z t : List Int} (h : Pt w g x y z t) (o : Nat) (es : List Int) (hk : EOk es) (ho : o + 5 ≤ 20) (he : ∀ i, i < 5 → (pl x y z t).getD (o + i) 0 = es.getD i 0) : EAt w g o es :=
  ⟨h.row.lt, hk, fun i hi => by
    have hl : (pl x y z t).length = 20 := by unfold pl; simp [h.x.1, h.y.1, h.z.1, h.t.1]
    rw [h.row.cell (o + i) (by omega), he i hi]⟩
theorem Pt.ex {w : World} {g : Nat} {x y z t : List Int} (h : Pt w g x y z t) : EAt w g 0 x := h.at 0 x h.x (by omega) fun i hi => by
  match x, h.x.1, i, hi with
  | [_, _, _, _, _], _, 0, _ => rfl
  | [_, _, _, _, _], _, 1, _ => rfl
  | [_, _, _, _, _], _, 2, _ => rfl
  | [_, _, _, _, _], _, 3, _ => rfl
  | [_, _, _, _, _], _, 4, _ => rfl
theorem Pt.ey {w : World} {g : Nat} {x y z t : List Int} (h : Pt w g x y z t) : EAt w g 5 y := h.at 5 y h.y (by omega) fun i hi => by
  match x, h.x.1, y, h.y.1, i, hi with
  | [_, _, _, _, _], _, [_, _, _, _, _], _, 0, _ => rfl
  | [_, _, _, _, _], _, [_, _, _, _, _], _, 1, _ => rfl
  | [_, _, _, _, _], _, [_, _, _, _, _], _, 2, _ => rfl
  | [_, _, _, _, _], _, [_, _, _, _, _], _, 3, _ => rfl
  | [_, _, _, _, _], _, [_, _, _, _, _], _, 4, _ => rfl
theorem Pt.ez {w : World} {g : Nat} {x y z t : List Int} (h : Pt w g x y z t) : EAt w g 10 z := h.at 10 z h.z (by omega) fun i hi => by
  match x, h.x.1, y, h.y.1, z, h.z.1, i, hi with
  | [_, _, _, _, _], _, [_, _, _, _, _], _, [_, _, _, _, _], _, 0, _ => rfl
  | [_, _, _, _, _], _, [_, _, _, _, _], _, [_, _, _, _, _], _, 1, _ => rfl
  | [_, _, _, _, _], _, [_, _, _, _, _], _, [_, _, _, _, _], _, 2, _ => rfl
  | [_, _, _, _, _], _, [_, _, _, _, _], _, [_, _, _, _, _], _, 3, _ => rfl
  | [_, _, _, _, _], _, [_, _, _, _, _], _, [_, _, _, _, _], _, 4, _ => rfl
theorem Pt.et {w : World} {g : Nat} {x y z t : List Int} (h : Pt w g x y z t) : EAt w g 15 t := h.at 15 t h.t (by omega) fun i hi => by
  match x, h.x.1, y, h.y.1, z, h.z.1, t, h.t.1, i, hi with
  | [_, _, _, _, _], _, [_, _, _, _, _], _, [_, _, _, _, _], _, [_, _, _, _, _], _, 0, _ => rfl
  | [_, _, _, _, _], _, [_, _, _, _, _], _, [_, _, _, _, _], _, [_, _, _, _, _], _, 1, _ => rfl
  | [_, _, _, _, _], _, [_, _, _, _, _], _, [_, _, _, _, _], _, [_, _, _, _, _], _, 2, _ => rfl
  | [_, _, _, _, _], _, [_, _, _, _, _], _, [_, _, _, _, _], _, [_, _, _, _, _], _, 3, _ => rfl
  | [_, _, _, _, _], _, [_, _, _, _, _], _, [_, _, _, _, _], _, [_, _, _, _, _], _, 4, _ => rfl

/-- A run beside the point in block g. -/
structure RunP (w wr : World) (g : Nat) (x y z t : List Int) (R : List (Nat × List Int)) (E : List (Nat × Nat × List Int)) : Prop where
  wrh : WrH g w wr
  lt : g < w.heap.size
  pt : Pt wr g x y z t
  rows : ∀ r ∈ R, w.heap.size ≤ r.1 ∧ RowW wr r.1 82 r.2 ∧ EOk r.2
  order : R.Pairwise fun a b => b.1 < a.1
  els : ∀ e ∈ E, e.1 < w.heap.size ∧ e.1 ≠ g ∧ EAt wr e.1 e.2.1 e.2.2
section
variable {w wr w' : World} {g : Nat} {x y z t : List Int} {R : List (Nat × List Int)} {E : List (Nat × Nat × List Int)}
theorem RunP.start (h : Pt w g x y z t) (E : List (Nat × Nat × List Int)) (he : ∀ e ∈ E, e.1 ≠ g ∧ EAt w e.1 e.2.1 e.2.2) : RunP w w g x y z t [] E :=
  ⟨WrH.refl _ _, h.row.lt, h, by simp, List.Pairwise.nil, fun e hm => ⟨(he e hm).2.1, (he e hm).1, (he e hm).2⟩⟩
theorem Pt.below (h : Pt w g x y z t) {B : Nat} (b : Below B w w') (hB : g < B) : Pt w' g x y z t := ⟨h.row.below b hB, h.x, h.y, h.z, h.t⟩
theorem RunP.call (h : RunP w wr g x y z t R E) (b : Below wr.heap.size wr w') : RunP w w' g x y z t R E :=
  ⟨h.wrh.trans (WrH.of_below b), h.lt, h.pt.below b h.pt.row.lt, fun r hr => ⟨(h.rows r hr).1, (h.rows r hr).2.1.below b (h.rows r hr).2.1.lt, (h.rows r hr).2.2⟩, h.order, fun e he => ⟨(h.els e he).1, (h.els e he).2.1, (h.els e he).2.2.below b⟩⟩
theorem RunP.push (h : RunP w wr g x y z t R E) (b : Below wr.heap.size wr w') {es : List Int} (hr : RowW w' wr.heap.size 82 es) (hk : EOk es) :
    RunP w w' g x y z t ((wr.heap.size, es) :: R) E := by
  have c := h.call b
  refine ⟨c.wrh, c.lt, c.pt, ?_, ?_, c.els⟩
  · intro r hm
    rcases List.mem_cons.1 hm with rfl | hm
    · exact ⟨h.wrh.size, hr, hk⟩
    · exact c.rows r hm
  · exact List.Pairwise.cons (fun r hm => (h.rows r hm).2.1.lt) h.order
theorem RunP.el (h : RunP w wr g x y z t R E) (i : Nat) (G o : Nat) (es : List Int) (hi : E[i]? = some (G, o, es)) : EAt wr G o es :=
  (h.els _ (List.mem_of_getElem? hi)).2.2
theorem RunP.row (h : RunP w wr g x y z t R E) (i : Nat) (G : Nat) (es : List Int) (hi : R[i]? = some (G, es)) : RowW wr G 82 es :=
  (h.rows _ (List.mem_of_getElem? hi)).2.1
theorem RunP.ok (h : RunP w wr g x y z t R E) (i : Nat) (G : Nat) (es : List Int) (hi : R[i]? = some (G, es)) : EOk es :=
  (h.rows _ (List.mem_of_getElem? hi)).2.2
theorem RunP.re (h : RunP w wr g x y z t R E) (i : Nat) (G : Nat) (es : List Int) (hi : R[i]? = some (G, es)) : EAt wr G 0 es :=
  EAt.of_row (h.row i G es hi) (h.ok i G es hi)
theorem RunP.put (h : RunP w wr g x y z t R E) (i : Nat) (G : Nat) (zs es : List Int) (hi : R[i]? = some (G, zs)) (hw : Wr G wr w') (hr : RowW w' G 82 es) (hk : EOk es) :
    RunP w w' g x y z t (R.set i (G, es)) E := by
  have hg : w.heap.size ≤ G := (h.rows _ (List.mem_of_getElem? hi)).1
  have hil : i < R.length := (List.getElem?_eq_some_iff.1 hi).1
  have hie : R[i] = (G, zs) := (List.getElem?_eq_some_iff.1 hi).2
  have ho := List.pairwise_iff_getElem.1 h.order
  have hgl := h.lt
  have b : Below w.heap.size wr w' := hw.below hg
  refine ⟨⟨hw.os.trans h.wrh.os, hw.tape.trans h.wrh.tape, hw.output.trans h.wrh.output, by rw [hw.size]; exact h.wrh.size, fun k hk hg' => (hw.block k (by omega)).trans (h.wrh.block k hk hg')⟩, h.lt, h.pt.below b h.lt, ?_, ?_, fun e he => ⟨(h.els e he).1, (h.els e he).2.1, (h.els e he).2.2.wr hw (by have := (h.els e he).1; omega)⟩⟩
  · intro r hm
    obtain ⟨j, hj, rfl⟩ := List.getElem_of_mem hm
    rw [List.length_set] at hj
    rw [List.getElem_set]
    split
    · exact ⟨hg, hr, hk⟩
    · rename_i hne
      have q := h.rows _ (List.getElem_mem hj)
      refine ⟨q.1, hw.rowW q.2.1 ?_, q.2.2⟩
      rcases Nat.lt_or_gt_of_ne hne with hlt | hgt
      · have := ho i j hil hj hlt; rw [hie] at this; simp only at this; omega
      · have := ho j i hj hil hgt; rw [hie] at this; simp only at this; omega
  · rw [List.pairwise_iff_getElem]
    intro a b ha hb hab
    rw [List.length_set] at ha hb
    have := ho a b ha hb hab
    rw [List.getElem_set, List.getElem_set]
    split <;> split <;> simp_all
/-- The point itself is written. -/
theorem RunP.point (h : RunP w wr g x y z t R E) {x' y' z' t' : List Int} (hw : Wr g wr w') (hp : Pt w' g x' y' z' t') : RunP w w' g x' y' z' t' R E :=
  ⟨h.wrh.trans hw.wrH, h.lt, hp, fun r hr => ⟨(h.rows r hr).1, hw.rowW (h.rows r hr).2.1 (by have := (h.rows r hr).1; have := h.lt; omega), (h.rows r hr).2.2⟩, h.order, fun e he => ⟨(h.els e he).1, (h.els e he).2.1, (h.els e he).2.2.wr hw (h.els e he).2.1⟩⟩
variable {ops : Array Oper} {rest : List Oper} {o : Oper} {a : Act} {Q : Exit → Act → World → Prop}
theorem wpList_newP (S : RunP w wr g x y z t R E) (hgd : o.guard = none) (px py : Operand) (ho : o.op = .store 82 px py)
    (es : List Int) (hx : a.eval px = .pointer (some ⟨wr.heap.size, 0, none⟩)) (hy : a.eval py = .agg (es.map (Value.int .u64)).toArray) (hk : EOk es)
    {wa : World} (hwa : wa = wr.alloc (.cells #[.int .u64 0, .int .u64 0, .int .u64 0, .int .u64 0, .int .u64 0] 82))
    (hK : ∀ w', RunP w w' g x y z t ((wr.heap.size, es) :: R) E → wpList Try.prog ops Q rest (a.put o.dst undef) w') :
    wpList Try.prog ops Q (o :: rest) a wa := by
  subst hwa
  exact wpList_storeE hgd px py ho wr.heap.size es [0, 0, 0, 0, 0] hx hy hk.1 rfl (row0 wr) fun w' hr hw => hK w' (S.push ((below_new2 _ _).trans (hw.below (Nat.le_refl _))) hr hk)
theorem wpList_rowP (S : RunP w wr g x y z t R E) (hgd : o.guard = none) (px py : Operand) (ho : o.op = .store 82 px py)
    (i G : Nat) (zs es : List Int) (hi : R[i]? = some (G, zs)) (hx : a.eval px = .pointer (some ⟨G, 0, none⟩)) (hy : a.eval py = .agg (es.map (Value.int .u64)).toArray) (hk : EOk es)
    {wa : World} (hwa : wa = wr)
    (hK : ∀ w', RunP w w' g x y z t (R.set i (G, es)) E → wpList Try.prog ops Q rest (a.put o.dst undef) w') :
    wpList Try.prog ops Q (o :: rest) a wa := by
  subst hwa
  exact wpList_storeE hgd px py ho G es zs hx hy hk.1 (S.ok i G zs hi).1 (S.row i G zs hi) fun w' hr hw => hK w' (S.put i G zs es hi hw hr hk)
theorem RunP.there (S : RunP w wr g x y z t R E) (p : Nat) (hp : p + 5 ≤ 20) : wr.there g p 5 := fun j hj => by
  have hl : (pl x y z t).length = 20 := by unfold pl; simp [S.pt.x.1, S.pt.y.1, S.pt.z.1, S.pt.t.1]
  exact ⟨by rw [S.pt.row.cell (p + j) (by omega)]; rfl, S.pt.row.frozen _⟩
theorem wpList_midP (S : RunP w wr g x y z t R E) (hgd : o.guard = none) (px py : Operand) (ho : o.op = .store 82 px py)
    (p : Nat) (hp : p + 5 ≤ 20) (es x' y' z' t' : List Int) (hov : over (pl x y z t) p es = pl x' y' z' t') (hk' : EOk x' ∧ EOk y' ∧ EOk z' ∧ EOk t') (hx : a.eval px = .pointer (some ⟨g, p, none⟩)) (hy : a.eval py = .agg (es.map (Value.int .u64)).toArray) (hk : EOk es)
    {wa : World} (hwa : wa = wr)
    (hK : ∀ w', RunP w w' g x' y' z' t' R E → wpList Try.prog ops Q rest (a.put o.dst undef) w') :
    wpList Try.prog ops Q (o :: rest) a wa := by
  subst hwa
  have hsz : ((es.map (Value.int .u64)).toArray).size = 5 := by simp [hk.1]
  refine wpList_store_mid hgd 82 px py ho g p ((es.map (Value.int .u64)).toArray) hx hy (by rw [hsz]; exact S.there p hp) (sizeEl hk.1) (all_oneCell_toArray (ints_oneCell _ _)) (hK _ ?_)
  have hr := RowW.setCells es (pl x y z t) wa p S.pt.row
  rw [hov] at hr
  exact S.point (Wr.setCells _ _ p (Wr.refl _ _)) ⟨hr, hk'.1, hk'.2.1, hk'.2.2.1, hk'.2.2.2⟩
end
end Go.Proofs.Ythghkfncpdnpoac
