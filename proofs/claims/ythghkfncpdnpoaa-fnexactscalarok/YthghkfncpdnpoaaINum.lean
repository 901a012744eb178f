/-
  Own work: the program's numbers of four words.
-/
import Derived.Test.YthghkfncpdnpoaaWrd
import Derived.Test.YthghkfncpdnpoaaSRed
import Derived.Laws.Externs
namespace Go.Proofs.Ythghkfncpdnpoaa
open Go.ChangeShapes Go.WideShapes Go.ChangeAt Go.RowKit
set_option linter.unusedVariables false

def sub64E : Array Value → Sem Value := fun args => do
  let (x, y, b) ← Extern.MathBitsCarry.three "Sub64" args
  pure (Extern.MathBitsCarry.pair ((x + Extern.MathBitsCarry.m64 - y - b) % Extern.MathBitsCarry.m64) (if x < y + b then 1 else 0))
theorem run_sub64E (x y b : Nat) (hb : b ≤ 1) (w : World) :
    (sub64E #[.int .u64 x, .int .u64 y, .int .u64 b]).run Try.prog w =
      .ok (.tuple #[.int .u64 (((x + 18446744073709551616 - y - b) % 18446744073709551616 : Nat) : Int), .int .u64 ((if x < y + b then 1 else 0 : Nat) : Int)]) w := by
  have : b = 0 ∨ b = 1 := by omega
  rcases this with rfl | rfl <;> rfl
theorem sub64 (x y b : Int) (hx : 0 ≤ x) (hy : 0 ≤ y) (hy' : y < 18446744073709551616) (hb0 : 0 ≤ b) (hb : b ≤ 1) (w : World) : (callFunc 40 #[.int .u64 x, .int .u64 y, .int .u64 b]).run Try.prog w =
    .ok (.value (.tuple #[.int .u64 ((x - y - b) % 18446744073709551616), .int .u64 (bor x y b)])) w := by
  obtain ⟨x, rfl⟩ := Int.eq_ofNat_of_zero_le hx
  obtain ⟨y, rfl⟩ := Int.eq_ofNat_of_zero_le hy
  obtain ⟨b, rfl⟩ := Int.eq_ofNat_of_zero_le hb0
  have e1 : (((x + 18446744073709551616 - y - b) % 18446744073709551616 : Nat) : Int) = ((x : Int) - y - b) % 18446744073709551616 := by omega
  have e2 : ((if x < y + b then 1 else 0 : Nat) : Int) = bor x y b := by unfold bor; split <;> split <;> omega
  rw [run_callFunc_extern Try.func40 (by kernel_rfl) (by kernel_rfl) (by kernel_rfl) (e := sub64E) (by kernel_rfl), run_sub64E x y b (by omega), e1, e2]
  rfl

set_option maxHeartbeats 400000 in
theorem push_any (g : Nat) (ns : List Int) (bit : Int) (w : World) (hl : ns.length = 4) (hr : RowW w g 45 ns) (hw : Wrd ns) (hb : bit = 0 ∨ bit = 1) :
    Calls Try.prog 36 #[.pointer (some ⟨g, 0, none⟩), .int .u64 bit] w fun e w' => e = .returned (.tuple #[]) ∧ ∃ ms, ms.length = 4 ∧ RowW w' g 45 ms ∧ Wrd ms ∧ (∃ c, 0 ≤ c ∧ val 18446744073709551616 ms + c * 18446744073709551616 ^ 4 = 2 * val 18446744073709551616 ns + bit) ∧ Wr g w w' := by
  go_enter Try.func36, Try.ntmps36
  go_wp2
  go_loopw [1, 7] (fun c i wr => ∃ (k : Nat) (ms : List Int) (b : Int), k ≤ 4 ∧ i = .int .i64 k ∧ c = .int .u64 b ∧ (b = 0 ∨ b = 1) ∧ ms.length = 4 ∧ RowW wr g 45 ms ∧ Wrd ms ∧ ms.drop k = ns.drop k ∧ val 18446744073709551616 (ms.take k) + b * 18446744073709551616 ^ k = 2 * val 18446744073709551616 (ns.take k) + bit ∧ Wr g w wr) (fun _ i _ => 4 - (intOf i).toNat)
  case atStart => exact ⟨0, ns, bit, Nat.zero_le _, rfl, rfl, hb, hl, hr, hw, rfl, by simp [val], Wr.refl _ _⟩
  case round =>
    obtain ⟨k, ms, b, hk, rfl, rfl, hb', hml, hmr, hmw, hmd, hv, hwr⟩ := hrel
    by_cases hlt : k < 4
    · have ck := hmr.cell k (by omega)
      have fk := hmr.frozen k
      have hx := hmw.get k
      have hgd := getD_of_drop hmd
      have hx2 : ∀ c, 0 ≤ c → c < 2 → 0 ≤ 2 * ms.getD k 0 % 18446744073709551616 + c ∧ 2 * ms.getD k 0 % 18446744073709551616 + c < 18446744073709551616 := fun c h0 h1 => by omega
      have S1 : RowW (wr.setCell ⟨g, k, none⟩ (.int .u64 (2 * ms.getD k 0 % 18446744073709551616 + b))) g 45 (ms.set k (2 * ms.getD k 0 % 18446744073709551616 + b)) := hmr.set k _
      have S2 : Wrd (ms.set k (2 * ms.getD k 0 % 18446744073709551616 + b)) := hmw.set k _ (hx2 b (by omega) (by omega)).1 (hx2 b (by omega) (by omega)).2
      have S3 := (drop_set_succ ms k (2 * ms.getD k 0 % 18446744073709551616 + b)).trans (drop_succ_of hmd)
      have S4 : val 18446744073709551616 ((ms.set k (2 * ms.getD k 0 % 18446744073709551616 + b)).take (k + 1)) + ms.getD k 0 / 9223372036854775808 * 18446744073709551616 ^ (k + 1) = 2 * val 18446744073709551616 (ns.take (k + 1)) + bit := by
        rw [val_set_succ _ _ _ _ (by omega), val_take _ ns k (by omega), ← hgd, Int.pow_succ]
        have e : (2 * ms.getD k 0 % 18446744073709551616) + ms.getD k 0 / 9223372036854775808 * 18446744073709551616 = 2 * ms.getD k 0 := by omega
        generalize ms.getD k 0 = x at *
        generalize (18446744073709551616 : Int) ^ k = P at *
        have e' : ((2 * x % 18446744073709551616) + x / 9223372036854775808 * 18446744073709551616) * P = 2 * x * P := by rw [e]
        grind
      have HW : Hid (Wr g w (wr.setCell ⟨g, k, none⟩ (.int .u64 (2 * ms.getD k 0 % 18446744073709551616 + b)))) := hwr.setCell k _
      have HL : Hid ((ms.set k (2 * ms.getD k 0 % 18446744073709551616 + b)).length = 4) := by rw [List.length_set]; exact hml
      have HC : Hid (bits .or .u64 (IntKind.u64.wrap (ms.getD k 0 * 2)) b = 2 * ms.getD k 0 % 18446744073709551616 + b) := by
        show bits .or .u64 (IntKind.u64.wrap (ms.getD k 0 * 2)) b = _
        rw [IntKind.wrap_u64, Int.mul_comm]
        exact u64_or_add _ _ 1 (by omega) (by omega) (by omega) (by omega) (by omega) (2 * ms.getD k 0 % 18446744073709551616 / 2) (by omega)
      have hbb : ms.getD k 0 / 9223372036854775808 = 0 ∨ ms.getD k 0 / 9223372036854775808 = 1 := by omega
      have HBB : Hid _ := hbb
      have H1 : Hid _ := S1
      have H2 : Hid _ := S2
      have H3 : Hid _ := S3
      have H4 : Hid _ := S4
      clear hgd hx2 S1 S2 S3 S4 hmr hmw hmd hv hwr hbb hr hw
      generalize ms.getD k 0 = x at *
      obtain ⟨hx0, hx1⟩ := hx
      have hlt' : (k : Int) < 4 := by omega
      go_wp2
      go_quiet (fail)
      go_wp2
      rw [HC.out]
      refine ⟨⟨k + 1, ms.set k (2 * x % 18446744073709551616 + b), x / 9223372036854775808, by omega, by go_num, rfl, HBB.out, HL.out, H1.out, H2.out, H3.out, H4.out, ?_⟩, by simp [intOf]; omega⟩
      exact ⟨HW.out.os, HW.out.tape, HW.out.output, HW.out.size, HW.out.block⟩
    · have hk4 : k = 4 := by omega
      subst hk4
      rw [List.take_of_length_le (by omega), List.take_of_length_le (by omega)] at hv
      have H : Hid (∃ ms, ms.length = 4 ∧ RowW wr g 45 ms ∧ Wrd ms ∧ (∃ c, 0 ≤ c ∧ val 18446744073709551616 ms + c * 18446744073709551616 ^ 4 = 2 * val 18446744073709551616 ns + bit) ∧ Wr g w wr) :=
        ⟨ms, hml, hmr, hmw, ⟨b, by omega, hv⟩, hwr⟩
      clear hml hmr hmw hv hwr hmd hr hw hb hb'
      go_wp2
      go_end0
      exact ⟨rfl, H.out⟩
end Go.Proofs.Ythghkfncpdnpoaa
