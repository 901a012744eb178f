/-
  Own work: arguments that are snaps (written by wip/mklsn.py).
-/
import Derived.Test.YthghkfncpdnpoacCpe
import Derived.WalkKit
import Derived.ProofKit
import Derived.OpenShut
import Derived.ShutString
import Derived.ChangeOld
import Derived.Below
import Derived.Lib.SmallJoins
import Derived.Deep.SlicePairs
namespace Go.Proofs.Ythghkfncpdnpoac
open Go.ChangeShapes Go.WideShapes Go.ChangeAt Go.RowKit
set_option linter.unusedVariables false

theorem ownA : ownKnob Try.prog.godebug = none := by kernel_rfl
theorem laidOutA : laidOutB Try.prog = true := by kernel_rfl
def I64 (x : Int) : Prop := -9223372036854775808 ≤ x ∧ x ≤ 9223372036854775807
theorem I64.of_wf {x : Int} (h : (Lit.int .i64 x).wf = true) : I64 x := by
  simp [Lit.wf, IntKind.min, IntKind.max, IntKind.signed, IntKind.bits] at h
  exact ⟨by omega, by omega⟩
theorem u32_of_wf {x : Int} (h : (Lit.int .u32 x).wf = true) : U32 x := by
  simp [Lit.wf, IntKind.min, IntKind.max, IntKind.signed, IntKind.bits] at h
  exact ⟨by omega, by omega⟩
section
variable {H : Type} {enc : TypeId × Value → H} {W : World}
set_option maxRecDepth 100000 in
theorem ints_of {fuel : Nat} {v : Value} {y : DataW H × List MemPlace} (h : DataW.trod enc Try.prog W 0 (fun _ => true) true fuel 48 [v] = some y) :
    ∃ a n cap zs, v = .slice a n cap ∧ zs.length = n ∧ n ≤ 9223372036854775807 ∧ At .i64 W a zs := by
  rcases open_ints Try.underlying48 Try.underlying2 (by kernel_rfl) h with ⟨hcs, _⟩ | ⟨x, l, c, zs, hcs, _, hl, hm, hz, _, hcell, hwz⟩
  · simp at hcs
    exact ⟨none, 0, 0, [], hcs, rfl, by omega, .inl rfl⟩
  · simp at hcs
    have hz' : zs.length = c := by simpa using hz
    refine ⟨some x, l, c, zs.take l, hcs, by simp; omega, by unfold maxLen at hm; omega, ?_⟩
    by_cases h0 : l = 0
    · left; simp [h0]
    · right
      obtain ⟨b, off, spot⟩ := x
      have hc0 := hcell 0 (by omega)
      have hs : spot = none := by simpa [Addr.add] using World.cell?_spot hc0
      subst hs
      refine ⟨b, off, rfl, block_lt_of_cell (a := (⟨b, off, none⟩ : Addr).add 0) hc0, fun i hi => ?_⟩
      have hi' : i < l := by simp at hi; omega
      have := hcell i (by omega)
      rw [Addr.add_lit] at this
      rw [this]
      simp [List.getD, hi']
/-- The cells of an argument. -/
def ArgSnap (W : World) (v0 v1 v2 v3 : Value) : Prop :=
  ∃ (aD : Option Addr) (nD cD : Nat) (D : List Int) (aU : Option Addr) (nU cU : Nat) (U : List Int) (gn tl : Int), v0 = .int .u32 gn ∧ v1 = .int .u32 tl ∧ v2 = .slice aD nD cD ∧ v3 = .slice aU nU cU ∧ D.length = nD ∧ U.length = nU ∧ nD ≤ 9223372036854775807 ∧ nU ≤ 9223372036854775807 ∧ At .i64 W aD D ∧ At .i64 W aU U ∧ U32 gn ∧ U32 tl
set_option maxRecDepth 100000 in
theorem snap_cells {fuel : Nat} {v0 v1 v2 v3 : Value} {y : DataW H × List MemPlace} (h : DataW.trod enc Try.prog W 0 (fun _ => true) true fuel 50 [v0, v1, v2, v3] = some y) : ArgSnap W v0 v1 v2 v3 := by
  have k1 : Try.prog.cellsOf 23 = 1 := by kernel_rfl
  have k2 : Try.prog.cellsOf 48 = 1 := by kernel_rfl
  obtain ⟨xs, n, _, _, _, hlen, hf⟩ := DataW.trod_struct Try.underlying50 h
  match xs, hlen with
  | [y0, y1, y2, y3], _ =>
    have g0 := hf 0 _ rfl
    have g1 := hf 1 _ rfl
    have g2 := hf 2 _ rfl
    have g3 := hf 3 _ rfl
    simp [k1, k2] at g0 g1 g2 g3
    obtain ⟨gn, e0, _, Wgn⟩ := DataW.trod_int (k := .u32) Try.underlying23 g0
    simp at e0
    obtain ⟨tl, e1, _, Wtl⟩ := DataW.trod_int (k := .u32) Try.underlying23 g1
    simp at e1
    obtain ⟨aD, nD, cD, D, e2, hD, mD, AD⟩ := ints_of g2
    obtain ⟨aU, nU, cU, U, e3, hU, mU, AU⟩ := ints_of g3
    exact ⟨aD, nD, cD, D, aU, nU, cU, U, gn, tl, e0, e1, e2, e3, hD, hU, mD, mU, AD, AU, u32_of_wf Wgn, u32_of_wf Wtl⟩
set_option maxRecDepth 100000 in
theorem snap_of {r : Reach} {b0 : Nat} {v : Value} {d : DataW H} {p : List MemPlace} (hv : Value.okWide Try.prog W r b0 50 v) (h : DataW.Trod enc Try.prog W 0 (fun _ => true) true 50 v d p) : ∃ v0 v1 v2 v3, v = .agg #[v0, v1, v2, v3] ∧ ArgSnap W v0 v1 v2 v3 := by
  obtain ⟨cs, rfl, hsz⟩ := okWide_struct Try.underlying50 hv
  have hC : Try.prog.cellsOf 50 = 4 := by kernel_rfl
  obtain ⟨fuel, hf⟩ := h
  match cs, hsz.trans hC with
  | ⟨[v0, v1, v2, v3]⟩, _ => exact ⟨v0, v1, v2, v3, rfl, snap_cells hf⟩
end
end Go.Proofs.Ythghkfncpdnpoac
