/-
  Own work: numbers into elements, bits.
-/
import Derived.Test.YthghkfncpdnpoacIRt
import Derived.Test.YthghkfncpdnpoacINofS
namespace Go.Proofs.Ythghkfncpdnpoac
open Go.ChangeShapes Go.WideShapes Go.ChangeAt Go.RowKit
set_option linter.unusedVariables false

theorem lm1 (a b : Int) (ha : 0 ≤ a) (ha' : a < 18446744073709551616) (hb : 0 ≤ b) (hb' : b < 18446744073709551616) :
    bits .and .u64 (bits .or .u64 (a / 2251799813685248) (IntKind.u64.wrap (b * 8192))) 2251799813685247 = (a / 2251799813685248 + b % 2251799813685248 * 8192) % 2251799813685248 := by
  have e : IntKind.u64.wrap (b * 8192) = b % 2251799813685248 * 8192 := by rw [IntKind.wrap_u64]; omega
  rw [e, u64_or_add' (b % 2251799813685248 * 8192) (a / 2251799813685248) 13 (by omega) (by omega) (by omega) (by rw [show (2 : Int) ^ 13 = 8192 from by decide]; omega) (by omega) (b % 2251799813685248) (by rw [show (2 : Int) ^ 13 = 8192 from by decide])]
  exact u64_and_mask _ 51 (by omega) (by omega) _ (by decide) (by decide)
theorem lm2 (a b : Int) (ha : 0 ≤ a) (ha' : a < 18446744073709551616) (hb : 0 ≤ b) (hb' : b < 18446744073709551616) :
    bits .and .u64 (bits .or .u64 (a / 274877906944) (IntKind.u64.wrap (b * 67108864))) 2251799813685247 = (a / 274877906944 + b % 274877906944 * 67108864) % 2251799813685248 := by
  have e : IntKind.u64.wrap (b * 67108864) = b % 274877906944 * 67108864 := by rw [IntKind.wrap_u64]; omega
  rw [e, u64_or_add' (b % 274877906944 * 67108864) (a / 274877906944) 26 (by omega) (by omega) (by omega) (by rw [show (2 : Int) ^ 26 = 67108864 from by decide]; omega) (by omega) (b % 274877906944) (by rw [show (2 : Int) ^ 26 = 67108864 from by decide])]
  exact u64_and_mask _ 51 (by omega) (by omega) _ (by decide) (by decide)
theorem lm3 (a b : Int) (ha : 0 ≤ a) (ha' : a < 18446744073709551616) (hb : 0 ≤ b) (hb' : b < 18446744073709551616) :
    bits .and .u64 (bits .or .u64 (a / 33554432) (IntKind.u64.wrap (b * 549755813888))) 2251799813685247 = (a / 33554432 + b % 33554432 * 549755813888) % 2251799813685248 := by
  have e : IntKind.u64.wrap (b * 549755813888) = b % 33554432 * 549755813888 := by rw [IntKind.wrap_u64]; omega
  rw [e, u64_or_add' (b % 33554432 * 549755813888) (a / 33554432) 39 (by omega) (by omega) (by omega) (by rw [show (2 : Int) ^ 39 = 549755813888 from by decide]; omega) (by omega) (b % 33554432) (by rw [show (2 : Int) ^ 39 = 549755813888 from by decide])]
  exact u64_and_mask _ 51 (by omega) (by omega) _ (by decide) (by decide)
/-- The limbs of a number of four words. -/
def lmb (a b c d : Int) : List Int := [a % 2251799813685248, (a / 2251799813685248 + b % 2251799813685248 * 8192) % 2251799813685248, (b / 274877906944 + c % 274877906944 * 67108864) % 2251799813685248, (c / 33554432 + d % 33554432 * 549755813888) % 2251799813685248, d / 4096 % 2251799813685248]
theorem lmb_ok (a b c d : Int) : EOk (lmb a b c d) := ok5 _ _ _ _ _ (by omega) (by omega) (by omega) (by omega) (by omega)
theorem lmb_dig (a b c d : Int) : Dig B51 (lmb a b c d) := by
  intro z hz
  unfold B51
  simp only [lmb, List.mem_cons, List.not_mem_nil, or_false] at hz
  rcases hz with rfl | rfl | rfl | rfl | rfl <;> omega
theorem lmb_val (a b c d : Int) (ha : 0 ≤ a) (ha' : a < 18446744073709551616) (hb : 0 ≤ b) (hb' : b < 18446744073709551616) (hc : 0 ≤ c) (hc' : c < 18446744073709551616) (hd : 0 ≤ d) (hd' : d < 18446744073709551616) :
    val B51 (lmb a b c d) = val 18446744073709551616 [a, b, c, d] % (fp + 19) := by
  simp only [lmb, val, B51, fp_lit]
  omega
theorem lmb_least (a b c d : Int) : lsE (lmb a b c d) = lmb a b c d ↔ val B51 (lmb a b c d) < fp := by
  have h := lsE_all (lmb_ok a b c d)
  have hb := ev_bd (lmb a b c d)
  constructor
  · intro e
    have e2 := h.2.2
    rw [e] at e2; rw [e2]; exact hb.2
  · intro e
    refine val_inj (B := B51) (by decide) (sst_dig _) (lmb_dig _ _ _ _) (by rw [lsE_len]; rfl) ?_
    rw [h.2.2]
    exact Int.emod_eq_of_lt (val_nonneg (by decide) (lmb_dig _ _ _ _)) e

set_option maxHeartbeats 1000000 in
theorem elementOf_any (a b c d : Int) (w : World) (ha : 0 ≤ a) (ha' : a < 18446744073709551616) (hb : 0 ≤ b) (hb' : b < 18446744073709551616) (hc : 0 ≤ c) (hc' : c < 18446744073709551616) (hd : 0 ≤ d) (hd' : d < 18446744073709551616) :
    Calls Try.prog 96 #[.agg #[.int .u64 a, .int .u64 b, .int .u64 c, .int .u64 d]] w fun e w' => e = .returned (.agg ((lmb a b c d).map (Value.int .u64)).toArray) ∧ Below w.heap.size w w' := by
  have l0 : bits .and .u64 a 2251799813685247 = a % 2251799813685248 := u64_and_mask _ 51 (by omega) (by omega) _ (by decide) (by decide)
  have l1 := lm1 a b ha ha' hb hb'
  have l2 := lm2 b c hb hb' hc hc'
  have l3 := lm3 c d hc hc' hd hd'
  have l4 : bits .and .u64 (d / 4096) 2251799813685247 = d / 4096 % 2251799813685248 := u64_and_mask _ 51 (by omega) (by omega) _ (by decide) (by decide)
  have H0 : Hid (bits .and .u64 a 2251799813685247 = a % 2251799813685248 ∧ bits .and .u64 (bits .or .u64 (a / 2251799813685248) (IntKind.u64.wrap (b * 8192))) 2251799813685247 = (a / 2251799813685248 + b % 2251799813685248 * 8192) % 2251799813685248 ∧ bits .and .u64 (bits .or .u64 (b / 274877906944) (IntKind.u64.wrap (c * 67108864))) 2251799813685247 = (b / 274877906944 + c % 274877906944 * 67108864) % 2251799813685248 ∧ bits .and .u64 (bits .or .u64 (c / 33554432) (IntKind.u64.wrap (d * 549755813888))) 2251799813685247 = (c / 33554432 + d % 33554432 * 549755813888) % 2251799813685248 ∧ bits .and .u64 (d / 4096) 2251799813685247 = d / 4096 % 2251799813685248) := ⟨l0, l1, l2, l3, l4⟩
  clear l0 l1 l2 l3 l4
  go_enter Try.func96, Try.ntmps96
  go_wp2_with fail
  obtain ⟨l0, l1, l2, l3, l4⟩ := H0.out
  rw [l0, l1, l2, l3, l4]
  exact bodyPost_ret (v := .agg ((lmb a b c d).map (Value.int .u64)).toArray) (resE rfl _ _ (w.heap.size + 1) (lmb a b c d) rfl rfl (heap_alloc2_new _ _ _)) rfl ⟨rfl, ((Below.refl _ _).alloc (Nat.le_refl _) _).alloc (by simp) _⟩

set_option maxHeartbeats 1000000 in
theorem bit255_any (g : Nat) (ns : List Int) (w : World) (hl : ns.length = 4) (hr : RowW w g 100 ns) (hw : Wrd ns) :
    Calls Try.prog 95 #[.pointer (some ⟨g, 0, none⟩), .int .i64 255] w fun e w' => e = .returned (.int .u64 (ns.getD 3 0 / 9223372036854775808)) ∧ w' = w := by
  have c3 := hr.cell 3 (by omega)
  obtain ⟨h0, h1⟩ := hw.get 3
  have HA : Hid (bits .and .u64 (ns.getD 3 0 / 9223372036854775808) 1 = ns.getD 3 0 / 9223372036854775808) := by
    show _ = _
    rw [u64_and_mask _ 1 (by omega) (by omega) 1 (by decide) (by decide)]; omega
  clear hr hw hl
  generalize ns.getD 3 0 = x at *
  go_enter Try.func95, Try.ntmps95
  go_wp2
  rw [HA.out]
  go_ret
  exact ⟨rfl, rfl⟩
end Go.Proofs.Ythghkfncpdnpoac
