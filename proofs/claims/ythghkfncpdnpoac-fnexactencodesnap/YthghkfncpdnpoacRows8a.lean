/-
  Own work: rows of bytes in memory, and the little-endian writer of the program.
-/
import Derived.Test.YthghkfncpdnpoacRowB
namespace Go.Proofs.Ythghkfncpdnpoac
open Go.ChangeShapes Go.WideShapes Go.ChangeAt Go.RowKit
set_option linter.unusedVariables false

/-- The first k of the four bytes of v, little-endian, from place p on. -/
def putK (zs : List Int) (p : Nat) (v : Int) : Nat → List Int
  | 0 => zs
  | k + 1 => (putK zs p v k).set (p + k) (v / 2 ^ (8 * k) % 256)
theorem putK_len (zs : List Int) (p : Nat) (v : Int) (k : Nat) : (putK zs p v k).length = zs.length := by
  induction k with
  | zero => rfl
  | succ k ih => simp [putK, ih]

set_option maxHeartbeats 400000 in
theorem setN_any (g : Nat) (t : TypeId) (p : Int) (v : Int) (zs : List Int) (w : World) (hr : Row w g t zs) (hl : zs.length = 64) (hp : 0 ≤ p) (hp' : p ≤ 60) (hv : U32 v) :
    Calls Try.prog 84 #[.pointer (some ⟨g, 0, none⟩), .int .i64 p, .int .u32 v] w fun e w' => e = .returned (.tuple #[]) ∧ Row w' g t (putK zs p.toNat v 4) ∧ Wr g w w' := by
  obtain ⟨hv0, hv1⟩ := hv
  obtain ⟨p, rfl⟩ := Int.eq_ofNat_of_zero_le hp
  go_enter Try.func84, Try.ntmps84
  go_wp2
  go_loopw [7] (fun i wr => ∃ k : Nat, k ≤ 4 ∧ i = .int .i64 k ∧ Row wr g t (putK zs p v k) ∧ Wr g w wr) (fun i _ => 4 - (intOf i).toNat)
  case atStart => exact ⟨0, by omega, rfl, hr, Wr.refl _ _⟩
  case round =>
    obtain ⟨k, hk, rfl, hrow, hwr⟩ := hrel
    by_cases hlt : k < 4
    · have hlen := putK_len zs p v k
      have hc := hrow.cell (p + k) (by omega)
      have hf := hrow.frozen (p + k)
      go_wp2
      go_region
      go_wp2
      go_roundw
      case rel => exact ⟨k + 1, by omega, by go_num, (hrow.set (p + k) _).drew, (hwr.setCell (p + k) _).drew⟩
      case measure => simp [intOf]; omega
    · have hk4 : k = 4 := by omega
      subst hk4
      go_wp2
      go_end0
      exact ⟨rfl, hrow, hwr⟩

end Go.Proofs.Ythghkfncpdnpoac
