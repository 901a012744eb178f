/-
  Own work: crashes that keep nothing or all, as lists; what stands in the law on crashes (written by wip/mklcs.py).
-/
import Derived.Test.YtoiflbfnjebpeaaDrZ
import Derived.Test.YtoiflbfnjebpeaaApx
import Derived.Test.YtoiflbfnjebpeaaICr
import Derived.Test.YtoiflbfnjebpeaaSCr
import Derived.Test.YtoiflbfnjebpeaaIDs
import Derived.Test.YtoiflbfnjebpeaaDevRdJ
import Derived.Test.YtoiflbfnjebpeaaDevRd
import Derived.Test.YtoiflbfnjebpeaaDevValI
import Derived.Laws.BytesArg
namespace Go.Proofs.Ytoiflbfnjebpeaa
open Go.ChangeShapes Go.WideShapes Go.ChangeAt Go.RowKit
set_option linter.unusedVariables false

theorem conv_any (a : Option Addr) (n cap : Nat) (xs : List Int) (w : World) (hn : xs.length = n) (ha : At .u8 w a xs) :
    (convert 22 9 (.slice a n cap)).run Try.prog w = .ok (.string (strOfNums xs)) w := by
  by_cases h0 : xs = []
  · subst h0
    obtain rfl : n = 0 := by simpa using hn.symm
    cases a with
    | none => exact run_convert_bytes_nil w 22 5 Try.underlying22 Try.underlying5 0 cap 9 Try.underlying9
    | some ad =>
      rw [run_convert_bytes_string w 22 9 5 _ 0 cap Try.underlying22 Try.underlying5 Try.underlying9]
      exact run_bytesToString w ad 0 cap [] (by simp [loadCells, loadCellsFrom])
  · rcases ha with h | ⟨b, off, rfl, hb, hc⟩
    · exact absurd h h0
    · exact run_convert_bytes_arg w 22 5 Try.underlying22 Try.underlying5 b off n cap xs hn (fun i hi => hc i (by omega)) 9 Try.underlying9

set_option maxHeartbeats 400000 in
theorem lwE_any (a a' : Option Addr) (n cap cap' : Nat) (xs : List Int) (w : World) (hn : xs.length = n) (ha : At .u8 w a xs) (ha' : At .u8 w a' xs) :
    Calls Try.prog 28 #[.slice a n cap, .slice a' n cap'] w fun e w' => e = .returned (.bool true) ∧ w' = w := by
  have c1 := conv_any a n cap xs w hn ha
  have c2 := conv_any a' n cap' xs w hn ha'
  have hi : ((strOfNums xs).toList == (strOfNums xs).toList) = true := by simp
  clear ha ha'
  go_enter Try.func28, Try.ntmps28
  go_wp2
  go_ret
  exact ⟨rfl, rfl⟩
theorem crL_none (zs : List Int) (ps : List PD) (k : Nat) : crL zs ps [] (-1) 0 k = zs := by
  induction k with
  | zero => rfl
  | succ k ih =>
    show overL _ _ _ = _
    rw [rch_no (by omega) (by simp), List.take_zero, overL_nil, ih]
theorem crZ_none {zs : List Int} {ps : List PD} {f : Int} (h : validB zs.length ps f = true) : crZ zs ps f [] (-1) 0 = zs := by unfold crZ; rw [if_pos h]; exact crL_none zs ps _
theorem crZ_all {zs : List Int} {ps : List PD} {f : Int} (h : validB zs.length ps f = true) (hf : f ≠ 0) : crZ zs ps f (List.replicate ps.length true) (-1) 0 = syZ zs ps f false := by
  have ho : syOn zs.length ps f false = true := by unfold syOn; rw [h]; simp [hf]
  unfold crZ syZ; rw [if_pos h, if_pos ho]; rfl
/-- A text that is read. -/
def Rd2 (w : World) (v : Value) (X : List Int) : Prop := ∃ a c, v = .slice a X.length c ∧ At .u8 w a X
theorem Rd2.below {w w' : World} {v : Value} {X : List Int} (h : Rd2 w v X) (hb : Below w.heap.size w w') : Rd2 w' v X := by
  obtain ⟨a, c, e, h⟩ := h; exact ⟨a, c, e, h.below hb⟩
theorem run_fd (w : World) (a : Option Addr) (l c : Nat) (x : Option Addr) (m k : Nat) (f : Int) (d : Bool) : (Instr.field 25 (.agg #[.slice a l c, .slice x m k, .int .i64 f, .bool d]) 0).run Try.prog w = .ok (.slice a l c) w := by kernel_rfl
/-- A device whose disk is read. -/
def Dk2 (w : World) (v : Value) (X : List Int) : Prop := ∃ a c x m k f d, v = .agg #[.slice a X.length c, .slice x m k, .int .i64 f, .bool d] ∧ At .u8 w a X
theorem Dk2.below {w w' : World} {v : Value} {X : List Int} (h : Dk2 w v X) (hb : Below w.heap.size w w') : Dk2 w' v X := by
  obtain ⟨a, c, x, m, k, f, d, e, h⟩ := h; exact ⟨a, c, x, m, k, f, d, e, h.below hb⟩
theorem dk_pl {w : World} {B : Nat} {r : Value} {R : List Int} {F : Int} (h : DPl w B r R F) (hB : B ≤ w.heap.size) : Dk2 w r R := by
  obtain ⟨a, c, x, cx, e, h1, _⟩ := (h.mine hB).at_
  exact ⟨a, c, _, _, _, _, _, e, h1⟩
theorem wpList_appBo (w : World) {ops : Array Oper} {rest : List Oper} {o : Oper} {a : Act} {Q : Exit → Act → World → Prop} (hg : o.guard = none) (s x : Operand) (hop : o.op = Op.call { callee := Callee.builtin Builtin.append, args := #[s, x], argTypes := #[42, 42] })
    (B : Nat) (v : Value) (bs : List Bool) (b : Bool) (hs : a.eval s = v) (hP : BO w B v bs) (KB : Nat) (hx : a.eval x = .slice (some ⟨KB, 0, none⟩) 1 1) (hB : w.heap[KB]? = some (.cells #[.bool b] 4 (0, 0))) (hBw : B ≤ w.heap.size) (hb : bs.length ≤ 1048576)
    (h : ∀ v' w', BO w' B v' (bs ++ [b]) → w.grownBy w' v.ownBlock → wpList Try.prog ops Q rest (a.put o.dst v') w') : wpList Try.prog ops Q (o :: rest) a w :=
  wpList_plain hg fun K hK' => wp_appBo w s x hop B v bs b hs hP KB hx hB hBw hb (fun v' w' h1 h2 => hK' _ _ (h v' w' h1 h2))
/-- What stands: the drawn device and crash in their blocks. -/
structure LC (w y : World) (D K : Nat) (da : Option Addr) (L dc : Nat) (ca : Option Addr) (M cc : Nat) (zs : List Int) (ps : List PD) (f : Int) (d : Bool) (xa : Option Addr) (bl xc : Nat) (bs : List Bool) (t u : Int) : Prop where
  rd : y.heap[D]? = some (.cells #[.slice da L dc, .slice ca M cc, .int .i64 f, .bool d] 25 (0, 0))
  rk : y.heap[K]? = some (.cells #[.slice xa bl xc, .int .i64 t, .int .i64 u] 44 (0, 0))
  dx : DX w.heap.size y (.agg #[.slice da L dc, .slice ca M cc, .int .i64 f, .bool d]) zs ps f d
  cr : CAt y (.agg #[.slice xa bl xc, .int .i64 t, .int .i64 u]) bs t u
  below : Below w.heap.size w y
section
variable {w y y' : World} {D K : Nat} {da : Option Addr} {L dc : Nat} {ca : Option Addr} {M cc : Nat} {zs : List Int} {ps : List PD} {f : Int} {d : Bool} {xa : Option Addr} {bl xc : Nat} {bs : List Bool} {t u : Int}
theorem LC.next (h : LC w y D K da L dc ca M cc zs ps f d xa bl xc bs t u) (hb : Below y.heap.size y y') : LC w y' D K da L dc ca M cc zs ps f d xa bl xc bs t u :=
  ⟨by rw [hb.block D (Array.getElem?_eq_some_iff.1 h.rd).1]; exact h.rd, by rw [hb.block K (Array.getElem?_eq_some_iff.1 h.rk).1]; exact h.rk, h.dx.below hb, h.cr.below hb, h.below.trans (hb.mono h.below.size)⟩
theorem LC.cells (h : LC w y D K da L dc ca M cc zs ps f d xa bl xc bs t u) : (y.cell? ⟨D, 0, none⟩ = some (.slice da L dc) ∧ y.cell? ⟨D, 1, none⟩ = some (.slice ca M cc) ∧ y.cell? ⟨D, 2, none⟩ = some (.int .i64 f) ∧ y.cell? ⟨D, 3, none⟩ = some (.bool d)) ∧
    (y.cell? ⟨K, 0, none⟩ = some (.slice xa bl xc) ∧ y.cell? ⟨K, 1, none⟩ = some (.int .i64 t) ∧ y.cell? ⟨K, 2, none⟩ = some (.int .i64 u)) :=
  ⟨⟨cell_of_row _ _ _ _ _ _ h.rd, cell_of_row _ _ _ _ _ _ h.rd, cell_of_row _ _ _ _ _ _ h.rd, cell_of_row _ _ _ _ _ _ h.rd⟩, cell_of_row _ _ _ _ _ _ h.rk, cell_of_row _ _ _ _ _ _ h.rk, cell_of_row _ _ _ _ _ _ h.rk⟩
end
/-- A crashed device in its block. -/
structure CD (y : World) (G : Nat) (a : Option Addr) (l c : Nat) (Z : List Int) (F : Int) : Prop where
  row : y.heap[G]? = some (.cells #[.slice a l c, .slice none 0 0, .int .i64 F, .bool false] 25 (0, 0))
  at_ : DAt y (.agg #[.slice a l c, .slice none 0 0, .int .i64 F, .bool false]) Z [] F false
theorem CD.next {y y' : World} {G : Nat} {a : Option Addr} {l c : Nat} {Z : List Int} {F : Int} (h : CD y G a l c Z F) (hb : Below y.heap.size y y') : CD y' G a l c Z F :=
  ⟨by rw [hb.block G (Array.getElem?_eq_some_iff.1 h.row).1]; exact h.row, h.at_.below hb⟩
theorem CD.cells {y : World} {G : Nat} {a : Option Addr} {l c : Nat} {Z : List Int} {F : Int} (h : CD y G a l c Z F) : y.cell? ⟨G, 0, none⟩ = some (.slice a l c) ∧ y.cell? ⟨G, 1, none⟩ = some (.slice none 0 0) ∧ y.cell? ⟨G, 2, none⟩ = some (.int .i64 F) ∧ y.cell? ⟨G, 3, none⟩ = some (.bool false) :=
  ⟨cell_of_row _ _ _ _ _ _ h.row, cell_of_row _ _ _ _ _ _ h.row, cell_of_row _ _ _ _ _ _ h.row, cell_of_row _ _ _ _ _ _ h.row⟩
theorem cd_new {y : World} {B : Nat} {r : Value} {Z : List Int} {F : Int} (h : DPl y B r Z F) (hB : B ≤ y.heap.size) : ∃ a c, r = .agg #[.slice a Z.length c, .slice none 0 0, .int .i64 F, .bool false] ∧ DAt y (.agg #[.slice a Z.length c, .slice none 0 0, .int .i64 F, .bool false]) Z [] F false := by
  have hm := (h.mine hB).at_
  obtain ⟨dv, rfl, hO⟩ := h
  obtain ⟨a, c, e⟩ := hO.sl'
  subst e
  exact ⟨a, c, rfl, hm⟩
end Go.Proofs.Ytoiflbfnjebpeaa
