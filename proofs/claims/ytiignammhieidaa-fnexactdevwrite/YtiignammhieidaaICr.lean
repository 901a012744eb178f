/-
  Own work: the program's crash.
-/
import Derived.Test.YtiignammhieidaaSCr
import Derived.Test.YtiignammhieidaaReach
import Derived.Test.YtiignammhieidaaStoreI
import Derived.Test.YtiignammhieidaaDevValI
namespace Go.Proofs.Ytiignammhieidaa
open Go.ChangeShapes Go.WideShapes Go.ChangeAt Go.RowKit
set_option linter.unusedVariables false

/-- A whole row stored: the world behind it by what is known of it. -/
theorem wpList_storeW {ops : Array Oper} {rest : List Oper} {o : Oper} {a : Act} {w : World} {Q : Exit → Act → World → Prop} (hgd : o.guard = none) (ty : TypeId) (x y : Operand) (ho : o.op = .store ty x y)
    (g : Nat) (cells : Array Value) (hx : a.eval x = .pointer (some ⟨g, 0, none⟩)) (hy : a.eval y = .agg cells)
    (t : TypeId) (old : Array Value) (hg : w.heap[g]? = some (.cells old t (0, 0))) (hi : (Try.prog.info? ty).map (·.size) = some cells.size)
    (hold : old.size = cells.size) (h1 : cells.all (·.oneCell') = true)
    (h : ∀ w', w'.heap[g]? = some (.cells cells t (0, 0)) → Wr g w w' → wpList Try.prog ops Q rest (a.put o.dst undef) w') : wpList Try.prog ops Q (o :: rest) a w :=
  wpList_store_row hgd ty x y ho g cells hx hy t old hg hi hold h1 (h _ (setRow_heap _ _ _ _ _ _ hg) (Wr.setRow _ _ _))
theorem all2p (s : Int) (a : Option Addr) (l c : Nat) : (#[Value.int .i64 s, .slice a l c].all (fun v => v.oneCell')) = true := by simp [Value.oneCell']
theorem Try.sizePd : (Try.prog.info? 44).map (·.size) = some 2 := by kernel_rfl
theorem row2 {w : World} {g : Nat} {t : TypeId} {a0 a1 : Value} (h : w.heap[g]? = some (.cells #[a0, a1] t (0, 0))) :
    w.cell? ⟨g, 0, none⟩ = some a0 ∧ w.cell? ⟨g, 1, none⟩ = some a1 :=
  ⟨cell_of_row _ _ _ _ _ _ h, cell_of_row _ _ _ _ _ _ h⟩

theorem PAt.entry {w : World} {a : Option Addr} {ps : List PD} (h : PAt w a ps) {i : Nat} (hi : i < ps.length) (hz : 0 < (ps.getD i (0, [])).2.length) :
    ∃ b off b' off' c, a = some ⟨b, off, none⟩ ∧ b < w.heap.size ∧ w.cell? ⟨b, off + i * 2, none⟩ = some (.int .i64 (ps.getD i (0, [])).1) ∧
      w.cell? ⟨b, off + i * 2 + 1, none⟩ = some (.slice (some ⟨b', off', none⟩) (ps.getD i (0, [])).2.length c) ∧ At .u8 w (some ⟨b', off', none⟩) (ps.getD i (0, [])).2 := by
  obtain ⟨b, off, ha, hl, hc⟩ := h.get (by omega)
  obtain ⟨x, c, h1, h2, h3⟩ := hc i hi
  obtain ⟨b', off', e, _, _⟩ := h3.get hz
  rw [e] at h2 h3
  exact ⟨b, off, b', off', c, ha, hl, h1, h2, h3⟩

end Go.Proofs.Ytiignammhieidaa
