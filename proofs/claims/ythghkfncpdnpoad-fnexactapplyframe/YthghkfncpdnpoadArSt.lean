/-
  Own work: arguments that are states (written by wip/mkarg.py).
-/
import Derived.Test.YthghkfncpdnpoadCpe
import Derived.WalkKit
import Derived.ProofKit
import Derived.OpenShut
import Derived.ShutString
import Derived.ChangeOld
import Derived.Below
import Derived.Lib.SmallJoins
import Derived.Deep.SlicePairs
namespace Go.Proofs.Ythghkfncpdnpoad
open Go.ChangeShapes Go.WideShapes Go.ChangeAt Go.RowKit
set_option linter.unusedVariables false

theorem ownA : ownKnob Try.prog.godebug = none := by kernel_rfl
theorem laidOutA : laidOutB Try.prog = true := by kernel_rfl
def I64 (x : Int) : Prop := -9223372036854775808 ≤ x ∧ x ≤ 9223372036854775807
theorem I64.of_wf {x : Int} (h : (Lit.int .i64 x).wf = true) : I64 x := by
  simp [Lit.wf, IntKind.min, IntKind.max, IntKind.signed, IntKind.bits] at h
  exact ⟨by omega, by omega⟩
theorem u32_of_wf {x : Int} (h : (Lit.int .u32 x).wf = true) : U32 x := by
  simp [Lit.wf, IntKind.min, IntKind.max, IntKind.signed, IntKind.bits] at h
  exact ⟨by omega, by omega⟩
section
variable {H : Type} {enc : TypeId × Value → H} {W : World}
set_option maxRecDepth 100000 in
theorem ints_of {fuel : Nat} {v : Value} {y : DataW H × List MemPlace} (h : DataW.trod enc Try.prog W 0 (fun _ => true) true fuel 23 [v] = some y) :
    ∃ a n cap zs, v = .slice a n cap ∧ zs.length = n ∧ n ≤ 9223372036854775807 ∧ At .i64 W a zs := by
  rcases open_ints Try.underlying23 Try.underlying2 (by kernel_rfl) h with ⟨hcs, _⟩ | ⟨x, l, c, zs, hcs, _, hl, hm, hz, _, hcell, hwz⟩
  · simp at hcs
    exact ⟨none, 0, 0, [], hcs, rfl, by omega, .inl rfl⟩
  · simp at hcs
    have hz' : zs.length = c := by simpa using hz
    refine ⟨some x, l, c, zs.take l, hcs, by simp; omega, by unfold maxLen at hm; omega, ?_⟩
    by_cases h0 : l = 0
    · left; simp [h0]
    · right
      obtain ⟨b, off, spot⟩ := x
      have hc0 := hcell 0 (by omega)
      have hs : spot = none := by simpa [Addr.add] using World.cell?_spot hc0
      subst hs
      refine ⟨b, off, rfl, block_lt_of_cell (a := (⟨b, off, none⟩ : Addr).add 0) hc0, fun i hi => ?_⟩
      have hi' : i < l := by simp at hi; omega
      have := hcell i (by omega)
      rw [Addr.add_lit] at this
      rw [this]
      simp [List.getD, hi']
set_option maxRecDepth 100000 in
theorem taps_of {fuel : Nat} {v : Value} {y : DataW H × List MemPlace} (h : DataW.trod enc Try.prog W 0 (fun _ => true) true fuel 27 [v] = some y) :
    ∃ a n cap T, v = .slice a n cap ∧ T.length = n * 2 ∧ n ≤ 9223372036854775807 ∧ At .i64 W a T := by
  rcases Go.Deep.open_slice_pairs Try.underlying27 Try.underlying130 (by kernel_rfl) rfl rfl (by kernel_rfl) (by kernel_rfl) h with ⟨hcs, _⟩ | ⟨x, l, c, m, nn, V0, V1, D0, D1, P0, P1, hcs, _, hl, hm, hmm, _, hx⟩
  · simp at hcs
    exact ⟨none, 0, 0, [], hcs, rfl, by omega, .inl rfl⟩
  · simp at hcs hmm
    subst hmm
    have each : ∀ i, i < m → ∃ q : Int × Int, V0 i = .int .i64 q.1 ∧ V1 i = .int .i64 q.2 := by
      intro i hi
      obtain ⟨h1, h2, h3, h4⟩ := hx i hi
      obtain ⟨s, e1, _, hw⟩ := DataW.trod_int (k := .i64) Try.underlying2 h3
      obtain ⟨s', e2, _, hw'⟩ := DataW.trod_int (k := .i64) Try.underlying2 h4
      simp at e1 e2
      exact ⟨(s, s'), e1, e2⟩
    obtain ⟨q, hq⟩ := Go.Deep.choose_lt each
    refine ⟨some x, l, m, (List.range (l * 2)).map fun i => if i % 2 = 0 then (q (i / 2)).1 else (q (i / 2)).2, hcs, by simp, by unfold maxLen at hm; omega, ?_⟩
    by_cases h0 : l = 0
    · left; simp [h0]
    · right
      obtain ⟨b, off, spot⟩ := x
      have hc0 := (hx 0 (by omega)).1
      have hs : spot = none := by simpa [Addr.add] using World.cell?_spot hc0
      subst hs
      refine ⟨b, off, rfl, block_lt_of_cell (a := (⟨b, off, none⟩ : Addr).add (0 * 2)) hc0, fun i hi => ?_⟩
      have hi' : i < l * 2 := by simpa using hi
      obtain ⟨h1, h2, _, _⟩ := hx (i / 2) (by omega)
      obtain ⟨g1, g2⟩ := hq (i / 2) (by omega)
      rw [Addr.add_lit] at h1 h2
      have hg : ((List.range (l * 2)).map fun i => if i % 2 = 0 then (q (i / 2)).1 else (q (i / 2)).2).getD i 0 = if i % 2 = 0 then (q (i / 2)).1 else (q (i / 2)).2 := by simp [List.getD, hi']
      rw [hg]
      by_cases hp : i % 2 = 0
      · rw [if_pos hp, ← g1, ← h1]; congr 2; omega
      · rw [if_neg hp, ← g2, ← h2]; congr 2; omega
/-- The cells of an argument. -/
def ArgState (W : World) (v0 v1 v2 v3 : Value) : Prop :=
  ∃ (aD : Option Addr) (nD cD : Nat) (D : List Int) (aU : Option Addr) (nU cU : Nat) (U : List Int) (aT : Option Addr) (nT cT : Nat) (T : List Int) (k : Int), v0 = .slice aD nD cD ∧ v1 = .slice aU nU cU ∧ v2 = .int .i64 k ∧ v3 = .slice aT nT cT ∧ D.length = nD ∧ U.length = nU ∧ T.length = nT * 2 ∧ nD ≤ 9223372036854775807 ∧ nU ≤ 9223372036854775807 ∧ nT ≤ 9223372036854775807 ∧ At .i64 W aD D ∧ At .i64 W aU U ∧ At .i64 W aT T ∧ I64 k
set_option maxRecDepth 100000 in
theorem state_cells {fuel : Nat} {v0 v1 v2 v3 : Value} {y : DataW H × List MemPlace} (h : DataW.trod enc Try.prog W 0 (fun _ => true) true fuel 29 [v0, v1, v2, v3] = some y) : ArgState W v0 v1 v2 v3 := by
  have k1 : Try.prog.cellsOf 23 = 1 := by kernel_rfl
  have k2 : Try.prog.cellsOf 2 = 1 := by kernel_rfl
  have k3 : Try.prog.cellsOf 27 = 1 := by kernel_rfl
  obtain ⟨xs, n, _, _, _, hlen, hf⟩ := DataW.trod_struct Try.underlying29 h
  match xs, hlen with
  | [y0, y1, y2, y3], _ =>
    have g0 := hf 0 _ rfl
    have g1 := hf 1 _ rfl
    have g2 := hf 2 _ rfl
    have g3 := hf 3 _ rfl
    simp [k1, k2, k3] at g0 g1 g2 g3
    obtain ⟨aD, nD, cD, D, e0, hD, mD, AD⟩ := ints_of g0
    obtain ⟨aU, nU, cU, U, e1, hU, mU, AU⟩ := ints_of g1
    obtain ⟨k, e2, _, Wk⟩ := DataW.trod_int (k := .i64) Try.underlying2 g2
    simp at e2
    obtain ⟨aT, nT, cT, T, e3, hT, mT, AT⟩ := taps_of g3
    exact ⟨aD, nD, cD, D, aU, nU, cU, U, aT, nT, cT, T, k, e0, e1, e2, e3, hD, hU, hT, mD, mU, mT, AD, AU, AT, I64.of_wf Wk⟩
set_option maxRecDepth 100000 in
theorem state_of {r : Reach} {b0 : Nat} {v : Value} {d : DataW H} {p : List MemPlace} (hv : Value.okWide Try.prog W r b0 29 v) (h : DataW.Trod enc Try.prog W 0 (fun _ => true) true 29 v d p) : ∃ v0 v1 v2 v3, v = .agg #[v0, v1, v2, v3] ∧ ArgState W v0 v1 v2 v3 := by
  obtain ⟨cs, rfl, hsz⟩ := okWide_struct Try.underlying29 hv
  have hC : Try.prog.cellsOf 29 = 4 := by kernel_rfl
  obtain ⟨fuel, hf⟩ := h
  match cs, hsz.trans hC with
  | ⟨[v0, v1, v2, v3]⟩, _ => exact ⟨v0, v1, v2, v3, rfl, state_cells hf⟩
end
end Go.Proofs.Ythghkfncpdnpoad
