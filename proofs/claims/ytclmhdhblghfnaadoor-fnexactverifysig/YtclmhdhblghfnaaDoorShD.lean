/-
  Own work: the length's words and a block's schedule, by the program (written by wip/mkshd.py).
-/
import Derived.Test.YtclmhdhblghfnaaDoorMReg8
import Derived.Test.YtclmhdhblghfnaaDoorMWrd
import Derived.Deep.WholeRow
namespace Go.Proofs.YtclmhdhblghfnaaDoor
open Go.ChangeShapes Go.WideShapes Go.ChangeAt Go.RowKit
set_option linter.unusedVariables false

/-! Rows read whole and stored whole. -/
theorem wpList_loadW {w : World} {ops : Array Oper} {rest : List Oper} {o : Oper} {a : Act} {Q : Exit → Act → World → Prop} {T e t' : TypeId} {n : Nat} (hgd : o.guard = none) (x : Operand) (ho : o.op = .load T x)
    (hu : Tryd.prog.underlying T = some (.array n e)) (hz : (Tryd.prog.info? T).map (·.size) = some n) (g : Nat) (es : List Int) (hx : a.eval x = .pointer (some ⟨g, 0, none⟩)) (hl : es.length = n) (hr : RowW w g t' es)
    (hK : wpList Tryd.prog ops Q rest (a.put o.dst (.agg (es.map (Value.int .u64)).toArray)) w) : wpList Tryd.prog ops Q (o :: rest) a w :=
  wpList_load_row hgd T x ho g hx t' _ (0, 0) _ hr hu rfl (by rw [hz]; simp [hl]) hK
theorem wpList_storeW {w : World} {ops : Array Oper} {rest : List Oper} {o : Oper} {a : Act} {Q : Exit → Act → World → Prop} {T t' : TypeId} {n : Nat} (hgd : o.guard = none) (x y : Operand) (ho : o.op = .store T x y)
    (hz : (Tryd.prog.info? T).map (·.size) = some n) (g : Nat) (es zs : List Int) (hx : a.eval x = .pointer (some ⟨g, 0, none⟩)) (hy : a.eval y = .agg (es.map (Value.int .u64)).toArray) (hl : es.length = n) (hl' : zs.length = n) (hr : RowW w g t' zs)
    (hK : ∀ w', RowW w' g t' es → Wr g w w' → wpList Tryd.prog ops Q rest (a.put o.dst undef) w') : wpList Tryd.prog ops Q (o :: rest) a w :=
  wpList_store_row hgd T x y ho g ((es.map (Value.int .u64)).toArray) hx hy t' _ hr (by rw [hz]; simp [hl]) (by simp [hl, hl']) (all_oneCell_toArray (ints_oneCell _ _)) (hK _ (hr.setRow es) (Wr.setRow _ _ _))
theorem wpList_loadB {w : World} {ops : Array Oper} {rest : List Oper} {o : Oper} {a : Act} {Q : Exit → Act → World → Prop} {T e t' : TypeId} {n : Nat} (hgd : o.guard = none) (x : Operand) (ho : o.op = .load T x)
    (hu : Tryd.prog.underlying T = some (.array n e)) (hz : (Tryd.prog.info? T).map (·.size) = some n) (g : Nat) (es : List Int) (hx : a.eval x = .pointer (some ⟨g, 0, none⟩)) (hl : es.length = n) (hr : Row w g t' es)
    (hK : wpList Tryd.prog ops Q rest (a.put o.dst (.agg (es.map (Value.int .u8)).toArray)) w) : wpList Tryd.prog ops Q (o :: rest) a w :=
  wpList_load_row hgd T x ho g hx t' _ (0, 0) _ hr hu rfl (by rw [hz]; simp [hl]) hK
theorem wpList_storeB {w : World} {ops : Array Oper} {rest : List Oper} {o : Oper} {a : Act} {Q : Exit → Act → World → Prop} {T t' : TypeId} {n : Nat} (hgd : o.guard = none) (x y : Operand) (ho : o.op = .store T x y)
    (hz : (Tryd.prog.info? T).map (·.size) = some n) (g : Nat) (es zs : List Int) (hx : a.eval x = .pointer (some ⟨g, 0, none⟩)) (hy : a.eval y = .agg (es.map (Value.int .u8)).toArray) (hl : es.length = n) (hl' : zs.length = n) (hr : Row w g t' zs)
    (hK : ∀ w', Row w' g t' es → Wr g w w' → wpList Tryd.prog ops Q rest (a.put o.dst undef) w') : wpList Tryd.prog ops Q (o :: rest) a w :=
  wpList_store_row hgd T x y ho g ((es.map (Value.int .u8)).toArray) hx hy t' _ hr (by rw [hz]; simp [hl]) (by simp [hl, hl']) (all_oneCell_toArray (ints_oneCell _ _)) (hK _ (by unfold Row; rw [setRow_heap _ _ _ _ _ _ hr]) (Wr.setRow _ _ _))

theorem RowW.drew {w : World} {g : Nat} {e : TypeId} {zs : List Int} (h : RowW w g e zs) : RowW w.drew g e zs := h
theorem Row.below {w w' : World} {g : Nat} {e : TypeId} {zs : List Int} {B : Nat} (h : Row w g e zs) (hb : Below B w w') (hg : g < B) : Row w' g e zs := by
  unfold Row; rw [hb.block g hg]; exact h
theorem Tryd.sizeSch : (Tryd.prog.info? 101).map (·.size) = some 80 := by kernel_rfl
theorem Tryd.sizeWds : (Tryd.prog.info? 76).map (·.size) = some 8 := by kernel_rfl
theorem Tryd.sizeBlk : (Tryd.prog.info? 79).map (·.size) = some 128 := by kernel_rfl
def zSch : Array Value := ((List.replicate 80 (0 : Int)).map (Value.int .u64)).toArray
theorem zcSch : zSch = ((List.replicate 80 (0 : Int)).map (Value.int .u64)).toArray := rfl
theorem zvSch : ∀ w, (zeroValue 101).run Tryd.prog w = .ok (.agg zSch) w := (zero_of_info (n := 80) (by kernel_rfl)).1
theorem zsSch : zSch.size = 80 := by unfold zSch; simp
theorem znSch : ¬ zSch = #[] := by intro h; have := zsSch; rw [h] at this; simp at this
def zBlk : Array Value := ((List.replicate 128 (0 : Int)).map (Value.int .u8)).toArray
theorem zcBlk : zBlk = ((List.replicate 128 (0 : Int)).map (Value.int .u8)).toArray := rfl
theorem zvBlk : ∀ w, (zeroValue 79).run Tryd.prog w = .ok (.agg zBlk) w := (zero_of_info (n := 128) (by kernel_rfl)).1
theorem zsBlk : zBlk.size = 128 := by unfold zBlk; simp
theorem znBlk : ¬ zBlk = #[] := by intro h; have := zsBlk; rw [h] at this; simp at this

/-! The schedule. -/
def wtN (bs l : List Int) (t : Nat) : Int :=
  if t < 16 then beV ((bs.drop (8 * t)).take 8)
  else IntKind.u64.wrap (IntKind.u64.wrap (IntKind.u64.wrap (sg1 (l.getD (t - 2) 0) + l.getD (t - 7) 0) + sg0 (l.getD (t - 15) 0)) + l.getD (t - 16) 0)
def schN (bs : List Int) : Nat → List Int
  | 0 => []
  | n + 1 => schN bs n ++ [wtN bs (schN bs n) n]
/-- Word number t of a block's schedule. -/
def wd (bs : List Int) (t : Nat) : Int := wtN bs (schN bs t) t
theorem schN_len (bs : List Int) (n : Nat) : (schN bs n).length = n := by
  induction n with
  | zero => rfl
  | succ n ih => simp [schN, ih]
theorem schN_get (bs : List Int) (n t : Nat) (h : t < n) : (schN bs n).getD t 0 = wd bs t := by
  induction n with
  | zero => omega
  | succ n ih =>
    have hl := schN_len bs n
    unfold schN
    rcases Nat.lt_or_ge t n with h' | h'
    · rw [List.getD_eq_getElem?_getD, List.getElem?_append_left (by omega), ← List.getD_eq_getElem?_getD]; exact ih h'
    · obtain rfl : t = n := by omega
      rw [List.getD_eq_getElem?_getD, List.getElem?_append_right (by omega), hl]; simp [wd]
theorem wd_lo (bs : List Int) (t : Nat) (h : t < 16) : wd bs t = beV ((bs.drop (8 * t)).take 8) := by unfold wd wtN; rw [if_pos h]
theorem wd_hi (bs : List Int) (j : Nat) : wd bs (j + 16) = IntKind.u64.wrap (IntKind.u64.wrap (IntKind.u64.wrap (sg1 (wd bs (j + 14)) + wd bs (j + 9)) + sg0 (wd bs (j + 1))) + wd bs j) := by
  have e : wd bs (j + 16) = wtN bs (schN bs (j + 16)) (j + 16) := rfl
  rw [e, wtN, if_neg (by omega), schN_get _ _ _ (by omega), schN_get _ _ _ (by omega), schN_get _ _ _ (by omega), schN_get _ _ _ (by omega)]
  rfl
theorem wd_hi' (bs : List Int) (k : Nat) (h : 16 ≤ k) : wd bs k = IntKind.u64.wrap (IntKind.u64.wrap (IntKind.u64.wrap (sg1 (wd bs (k - 2)) + wd bs (k - 7)) + sg0 (wd bs (k - 15))) + wd bs (k - 16)) := by
  obtain ⟨j, rfl⟩ : ∃ j, k = j + 16 := ⟨k - 16, by omega⟩
  exact wd_hi bs j
theorem wd_u64 {bs : List Int} (hz : Byte bs) (hl : bs.length = 128) (t : Nat) : U64 (wd bs t) := by
  rcases Nat.lt_or_ge t 16 with h | h
  · rw [wd_lo bs t h]
    have hz' : Byte ((bs.drop (8 * t)).take 8) := fun z h => hz z (List.mem_of_mem_drop (List.mem_of_mem_take h))
    have hl' : ((bs.drop (8 * t)).take 8).length = 8 := by simp; omega
    have hb := beV_bd hz' 8 (by omega)
    rw [List.take_of_length_le (by omega)] at hb
    exact ⟨hb.1, by have := hb.2; simpa using this⟩
  · obtain ⟨j, rfl⟩ : ∃ j, t = j + 16 := ⟨t - 16, by omega⟩
    rw [wd_hi]; exact u64_wrap _
/-- The schedule's array with m words laid. -/
def schA (bs : List Int) (m : Nat) : List Int := (List.range 80).map fun j => if j < m then wd bs j else 0
theorem schA_len (bs : List Int) (m : Nat) : (schA bs m).length = 80 := by simp [schA]
theorem schA_get (bs : List Int) (m j : Nat) (h : j < 80) : (schA bs m).getD j 0 = if j < m then wd bs j else 0 := by unfold schA; simp [List.getD, h]
theorem schA_zero (bs : List Int) : schA bs 0 = List.replicate 80 0 := by
  unfold schA; simp only [Nat.not_lt_zero, if_false]; rw [List.map_const']; simp
theorem schA_set (bs : List Int) (m : Nat) (h : m < 80) : (schA bs m).set m (wd bs m) = schA bs (m + 1) := by
  apply List.ext_getElem?
  intro i
  rw [List.getElem?_set]
  unfold schA
  by_cases h1 : m = i
  · subst h1; simp [h]
  · rw [if_neg h1]
    by_cases h2 : i < 80
    · have e : (i < m + 1) = (i < m) := by apply propext; omega
      simp [h2, e]
    · simp [h2]
structure SC (w : World) (bs : List Int) (m : Nat) (y : World) : Prop where
  res : RowW y w.heap.size 101 (List.replicate 80 0)
  row : RowW y (w.heap.size + 1) 101 (schA bs m)
  below : Below w.heap.size w y
theorem SC.drew {w : World} {bs : List Int} {m : Nat} {y : World} (h : SC w bs m y) : SC w bs m y.drew := ⟨h.res.drew, h.row.drew, h.below.drew⟩
theorem SC.cellAt {w : World} {bs : List Int} {m : Nat} {y : World} (h : SC w bs m y) (j : Nat) (hj : j < m) (h8 : j < 80) : y.cell? ⟨w.heap.size + 1, j, none⟩ = some (.int .u64 (wd bs j)) := by
  rw [h.row.cell j (by rw [schA_len]; exact h8), schA_get _ _ _ h8, if_pos hj]
theorem SC.cell0 {w : World} {bs : List Int} {m : Nat} {y : World} (h : SC w bs m y) (j : Nat) (hj : m ≤ j) (h8 : j < 80) : y.cell? ⟨w.heap.size + 1, j, none⟩ = some (.int .u64 0) := by
  rw [h.row.cell j (by rw [schA_len]; exact h8), schA_get _ _ _ h8, if_neg (by omega)]
theorem SC.set {w : World} {bs : List Int} {m : Nat} {y : World} (h : SC w bs m y) (hm : m < 80) : SC w bs (m + 1) (y.setCell ⟨w.heap.size + 1, m, none⟩ (.int .u64 (wd bs m))) :=
  ⟨((Wr.refl _ _).setCell m _).rowW h.res (by omega), by rw [← schA_set bs m hm]; exact h.row.set m _, h.below.setCell (by simp) _⟩
theorem ite_sc {w : World} {bs : List Int} {m : Nat} {y : World} {b : Bool} (h : if b = true then SC w bs (m + 1) y else SC w bs m y) (j : Nat) (hj : j < m) (h8 : j < 80) : y.cell? ⟨w.heap.size + 1, j, none⟩ = some (.int .u64 (wd bs j)) := by
  cases b
  · exact SC.cellAt (by simpa using h) j hj h8
  · exact SC.cellAt (m := m + 1) (by simpa using h) j (by omega) h8

set_option maxHeartbeats 400000 in
theorem setL_any (g : Nat) (n : Int) (bs : List Int) (w : World) (hr : Row w g 79 bs) (hl : bs.length = 128) (hn : U64 n) :
    Calls Tryd.prog 81 #[.pointer (some ⟨g, 0, none⟩), .int .u64 n] w fun e w' => e = .returned (.tuple #[]) ∧ Row w' g 79 (ov8 (ov8 bs 112 (n / 2 ^ 61) 8) 120 (IntKind.u64.wrap (n * 8)) 8) ∧ Wr g w w' := by
  obtain ⟨n0, n1⟩ := hn
  have A := hid_ofS (setW_any g 112 (n / 2305843009213693952) bs w hr hl (by omega) ⟨by omega, by omega⟩)
  have B := hid_ofS (fun w1 (h : Row w1 g 79 (ov8 bs 112 (n / 2305843009213693952) 8)) => setW_any g 120 (IntKind.u64.wrap (n * 8)) _ w1 h (by rw [ov8_len]; exact hl) (by omega) (u64_wrap _))
  have HD := hid_ofS (show n / 2 ^ 61 = n / 2305843009213693952 from rfl)
  clear hr
  go_enter Tryd.func81, Tryd.ntmps81
  go_wp2_with fail
  refine A.out.mono ?_
  rintro e w1 ⟨rfl, r1, b1⟩
  have B' := B.out w1 r1
  clear A B r1
  have HB1 := hid_ofS b1
  clear b1
  have HB := hid_ofS B'
  clear B'
  go_wp2_with fail
  refine HB.out.mono ?_
  rintro e w2 ⟨rfl, r2, b2⟩
  have H2 := hid_ofS r2
  have HB2 := hid_ofS b2
  clear r2 b2 HB
  go_wp2
  go_end0
  rw [HD.out]
  exact ⟨rfl, H2.out, HB1.out.trans HB2.out⟩

end Go.Proofs.YtclmhdhblghfnaaDoor
