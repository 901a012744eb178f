/-
  Own work: products of words, and the sum of products.
-/
import Derived.Test.YthghkfncpdnpoacIPl
import Derived.Shelf.Bits.Mul64
import Derived.Laws.Externs
namespace Go.Proofs.Ythghkfncpdnpoac
open Go.ChangeShapes Go.WideShapes Go.ChangeAt Go.RowKit Go.Shelf Go.Lib
set_option linter.unusedVariables false

set_option maxHeartbeats 1000000 in
theorem mul64_nat (x y : Nat) (hx : x < 18446744073709551616) (hy : y < 18446744073709551616) (w : World) :
    Calls Try.prog 137 #[.int .u64 x, .int .u64 y] w fun e w' => e = .returned (.tuple #[.int .u64 ((x * y / 18446744073709551616 : Nat) : Int), .int .u64 ((x * y % 18446744073709551616 : Nat) : Int)]) ∧ w' = w := by
  obtain ⟨b1, b2, b3, hhi⟩ := Lib.mul64_hi x y hx hy
  have p1 := Lib.half_mul_le (a := x / 4294967296) (b := y / 4294967296) (by omega) (by omega)
  have p2 := Lib.half_mul_le (a := x / 4294967296) (b := y % 4294967296) (by omega) (by omega)
  have p3 := Lib.half_mul_le (a := x % 4294967296) (b := y / 4294967296) (by omega) (by omega)
  have q1 : x / 4294967296 * (y / 4294967296) < 18446744073709551616 := by omega
  have q2 : x / 4294967296 * (y % 4294967296) < 18446744073709551616 := by omega
  have q3 : x % 4294967296 * (y / 4294967296) < 18446744073709551616 := by omega
  have q4 : x / 4294967296 * (y / 4294967296) + (x / 4294967296 * (y % 4294967296) + x % 4294967296 * (y % 4294967296) / 4294967296) / 4294967296 < 18446744073709551616 := by omega
  have q5 : x / 4294967296 * (y / 4294967296) + (x / 4294967296 * (y % 4294967296) + x % 4294967296 * (y % 4294967296) / 4294967296) / 4294967296 + ((x / 4294967296 * (y % 4294967296) + x % 4294967296 * (y % 4294967296) / 4294967296) % 4294967296 + x % 4294967296 * (y / 4294967296)) / 4294967296 < 18446744073709551616 := by omega
  go_enter Try.func137, Try.ntmps137
  go_wp2
  simp only [Mul64.maskN x hx, Mul64.maskN y hy, Mul64.divN, Mul64.mulN, Mul64.addN, Mul64.wrapN _ b1, Mul64.wrapN _ q2, Mul64.wrapN _ b2, Mul64.maskN _ b2, Mul64.wrapN _ q3, Mul64.wrapN _ b3, Mul64.wrapN _ q1, Mul64.wrapN _ q4, Mul64.wrapN _ q5, Mul64.wrapM (x * y)]
  rw [hhi]
  go_ret2
  exact ⟨rfl, rfl⟩
theorem mul64_any (x y : Int) (hx : 0 ≤ x) (hx' : x < 18446744073709551616) (hy : 0 ≤ y) (hy' : y < 18446744073709551616) (w : World) :
    Calls Try.prog 137 #[.int .u64 x, .int .u64 y] w fun e w' => e = .returned (.tuple #[.int .u64 (x * y / 18446744073709551616), .int .u64 (x * y % 18446744073709551616)]) ∧ w' = w := by
  obtain ⟨x, rfl⟩ := Int.eq_ofNat_of_zero_le hx
  obtain ⟨y, rfl⟩ := Int.eq_ofNat_of_zero_le hy
  refine (mul64_nat x y (by omega) (by omega) w).mono ?_
  rintro e w' ⟨rfl, rfl⟩
  refine ⟨?_, rfl⟩
  rw [Int.natCast_ediv, Int.natCast_emod, Int.natCast_mul]; rfl

def add64E : Array Value → Sem Value := fun args => do
  let (x, y, c) ← Extern.MathBitsCarry.three "Add64" args
  pure (Extern.MathBitsCarry.pair ((x + y + c) % Extern.MathBitsCarry.m64) ((x + y + c) / Extern.MathBitsCarry.m64))
theorem run_add64E (x y : Nat) (w : World) :
    (add64E #[.int .u64 x, .int .u64 y, .int .u64 0]).run Try.prog w =
      .ok (.tuple #[.int .u64 (((x + y) % 18446744073709551616 : Nat) : Int), .int .u64 (((x + y) / 18446744073709551616 : Nat) : Int)]) w := rfl
theorem add64_0 (x y : Int) (hx : 0 ≤ x) (hy : 0 ≤ y) (w : World) : (callFunc 138 #[.int .u64 x, .int .u64 y, .int .u64 0]).run Try.prog w =
    .ok (.value (.tuple #[.int .u64 ((x + y) % 18446744073709551616), .int .u64 ((x + y) / 18446744073709551616)])) w := by
  obtain ⟨x, rfl⟩ := Int.eq_ofNat_of_zero_le hx
  obtain ⟨y, rfl⟩ := Int.eq_ofNat_of_zero_le hy
  have e1 : (((x + y) % 18446744073709551616 : Nat) : Int) = ((x : Int) + y) % 18446744073709551616 := by omega
  have e2 : (((x + y) / 18446744073709551616 : Nat) : Int) = ((x : Int) + y) / 18446744073709551616 := by omega
  rw [run_callFunc_extern Try.func138 (by kernel_rfl) (by kernel_rfl) (by kernel_rfl) (e := add64E) (by kernel_rfl), run_add64E x y, e1, e2]
  rfl

/-- A sum of products, in two words. -/
structure WdS (w : World) (g : Nat) (S : Int) (wr : World) : Prop where
  row : wr.heap[g]? = some (.cells #[.int .u64 (S / 18446744073709551616), .int .u64 (S % 18446744073709551616)] 162 (0, 0))
  wr : Wr g w wr

set_option maxHeartbeats 1000000 in
theorem addP_any (g : Nat) (S a b : Int) (w : World) (hS : 0 ≤ S) (hr : w.heap[g]? = some (.cells #[.int .u64 (S / 18446744073709551616), .int .u64 (S % 18446744073709551616)] 162 (0, 0))) (ha : 0 ≤ a) (ha' : a < 18446744073709551616) (hb : 0 ≤ b) (hb' : b < 18446744073709551616) (hT : S + a * b < 340282366920938463463374607431768211456) :
    Calls Try.prog 127 #[.pointer (some ⟨g, 0, none⟩), .int .u64 a, .int .u64 b] w fun e w' => e = .returned (.tuple #[]) ∧ WdS w g (S + a * b) w' := by
  obtain ⟨p, hp⟩ : ∃ p, p = a * b := ⟨_, rfl⟩
  have hp0 : 0 ≤ p := by rw [hp]; exact Int.mul_nonneg ha hb
  have M := mul64_any a b ha ha' hb hb'
  rw [← hp] at M hT ⊢
  clear hp
  have c0 : w.cell? ⟨g, 0, none⟩ = some (.int .u64 (S / 18446744073709551616)) := cell_of_row _ _ _ _ _ _ hr
  have c1 : w.cell? ⟨g, 1, none⟩ = some (.int .u64 (S % 18446744073709551616)) := cell_of_row _ _ _ _ _ _ hr
  have f0 := frozen_of_row w g 0 _ _ hr
  have f1 := frozen_of_row w g 1 _ _ hr
  have r1 := heap_setCell_same w g 1 _ 162 (.int .u64 ((S % 18446744073709551616 + p % 18446744073709551616) % 18446744073709551616)) hr
  have r2 := heap_setCell_same _ g 0 _ 162 (.int .u64 (S / 18446744073709551616 + (p / 18446744073709551616 + (S % 18446744073709551616 + p % 18446744073709551616) / 18446744073709551616))) r1
  have HP : Hid (WdS w g (S + p) ((w.setCell ⟨g, 1, none⟩ (.int .u64 ((S % 18446744073709551616 + p % 18446744073709551616) % 18446744073709551616))).setCell ⟨g, 0, none⟩ (.int .u64 (S / 18446744073709551616 + (p / 18446744073709551616 + (S % 18446744073709551616 + p % 18446744073709551616) / 18446744073709551616))))) := by
    refine ⟨?_, ((Wr.refl _ _).setCell 1 _).setCell 0 _⟩
    rw [r2]
    have e1 : (S + p) / 18446744073709551616 = S / 18446744073709551616 + (p / 18446744073709551616 + (S % 18446744073709551616 + p % 18446744073709551616) / 18446744073709551616) := by omega
    have e2 : (S + p) % 18446744073709551616 = (S % 18446744073709551616 + p % 18446744073709551616) % 18446744073709551616 := by omega
    rw [e1, e2]; rfl
  have b0 : 0 ≤ S / 18446744073709551616 := by omega
  have b1 : 0 ≤ S % 18446744073709551616 := by omega
  have b2 : 0 ≤ p / 18446744073709551616 := by omega
  have b3 : 0 ≤ p % 18446744073709551616 := by omega
  have b4 : S / 18446744073709551616 + (p / 18446744073709551616 + (S % 18446744073709551616 + p % 18446744073709551616) / 18446744073709551616) < 18446744073709551616 := by omega
  have b5 : S % 18446744073709551616 < 18446744073709551616 := by omega
  have b6 : p % 18446744073709551616 < 18446744073709551616 := by omega
  clear r1 r2 hr hT
  generalize S / 18446744073709551616 = hi at *
  generalize S % 18446744073709551616 = lo at *
  generalize p / 18446744073709551616 = ph at *
  generalize p % 18446744073709551616 = pl at *
  go_enter Try.func127, Try.ntmps127
  go_wp2_with fail
  refine (M _).mono ?_
  rintro e w1 ⟨rfl, rfl⟩
  clear M
  go_wp2_with (simp only [add64_0 lo pl b1 b3])
  go_end0
  exact ⟨rfl, HP.out⟩
end Go.Proofs.Ythghkfncpdnpoac
