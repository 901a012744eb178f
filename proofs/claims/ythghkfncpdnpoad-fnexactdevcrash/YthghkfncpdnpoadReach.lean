/-
  Own work: how far an entry of the cache gets, as the program reckons it.
-/
import Derived.Test.YthghkfncpdnpoadCrsM
namespace Go.Proofs.Ythghkfncpdnpoad
open Go.ChangeShapes Go.WideShapes Go.ChangeAt Go.RowKit
set_option linter.unusedVariables false

theorem run_max2 (w : World) (ts : Array TypeId) (t : TypeId) (x y : Int) : (Builtin.max_ ts t #[.int .i64 x, .int .i64 y]).run Try.prog w = .ok (.int .i64 (max x y)) w := by
  by_cases h : x < y
  · simp [Builtin.max_, Builtin.max2, h, Int.max_def]; try omega
  · simp [Builtin.max_, Builtin.max2, h, Int.max_def]; try omega
theorem run_min2 (w : World) (ts : Array TypeId) (t : TypeId) (x y : Int) : (Builtin.min_ ts t #[.int .i64 x, .int .i64 y]).run Try.prog w = .ok (.int .i64 (min x y)) w := by
  by_cases h : y < x
  · simp [Builtin.min_, Builtin.min2, h, Int.min_def]; try omega
  · simp [Builtin.min_, Builtin.min2, h, Int.min_def]; try omega

set_option maxHeartbeats 400000 in
set_option maxRecDepth 100000 in
theorem reach_any (D : Nat) (x : Option Addr) (n c : Nat) (bs : List Bool) (t u : Int) (i : Nat) (w : World) (h : w.heap[D]? = some (.cells #[.slice x n c, .int .i64 t, .int .i64 u] 72 (0, 0))) (hA : BAt w x bs) (hl : bs.length = n) (hn : n ≤ 1048576) (hi : i ≤ 1048576) :
    Calls Try.prog 69 #[.pointer (some ⟨D, 0, none⟩), .int .i64 i] w fun e w' => e = .returned (.int .i64 ((rch bs t u i : Nat) : Int)) ∧ Below w.heap.size w w' := by
  have c0 := cell_of_row w D 0 _ _ _ h
  have c1 := cell_of_row w D 1 _ _ _ h
  have c2 := cell_of_row w D 2 _ _ _ h
  simp at c0 c1 c2
  clear h
  by_cases ht : (i : Int) = t
  · have e : ((rch bs t u i : Nat) : Int) = min (max u 0) 64 := by rw [rch_tear ht]; omega
    rw [e]
    have r1 : ∀ ts ty w, (Builtin.max_ ts ty #[.int .i64 u, .int .i64 0]).run Try.prog w = .ok (.int .i64 (max u 0)) w := fun ts ty w => run_max2 w ts ty u 0
    have r2 : ∀ ts ty w, (Builtin.min_ ts ty #[.int .i64 (max u 0), .int .i64 64]).run Try.prog w = .ok (.int .i64 (min (max u 0) 64)) w := fun ts ty w => run_min2 w ts ty _ 64
    clear e
    generalize max u 0 = m1 at *
    generalize min m1 64 = m2 at *
    go_enter Try.func69, Try.ntmps69
    go_wp2
    go_ret
    exact ⟨rfl, Below.refl _ _⟩
  · by_cases hlt : i < n
    · obtain ⟨b, off, rfl, hb, hc⟩ := hA.get (by omega)
      have g1 := hc i (by omega)
      have g2 : (i : Int) < n := by omega
      cases hk : bs.getD i false with
      | true =>
        rw [hk] at g1
        rw [rch_keep ht hk]
        clear hc hk
        go_enter Try.func69, Try.ntmps69
        go_wp2
        go_ret
        exact ⟨rfl, Below.refl _ _⟩
      | false =>
        rw [hk] at g1
        rw [rch_no ht hk]
        clear hc hk
        go_enter Try.func69, Try.ntmps69
        go_wp2
        go_ret
        exact ⟨rfl, Below.refl _ _⟩
    · have hk : bs.getD i false = false := by rw [List.getD_eq_getElem?_getD, List.getElem?_eq_none (by omega)]; rfl
      rw [rch_no ht hk]
      have g2 : ¬ (i : Int) < n := by omega
      go_enter Try.func69, Try.ntmps69
      go_wp2
      go_ret
      exact ⟨rfl, Below.refl _ _⟩
end Go.Proofs.Ythghkfncpdnpoad
