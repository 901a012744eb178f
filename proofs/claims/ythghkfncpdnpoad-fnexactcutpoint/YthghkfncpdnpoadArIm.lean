/-
  Own work: arguments that are images (written by wip/mkarg.py).
-/
import Derived.Test.YthghkfncpdnpoadFrS
import Derived.WalkKit
import Derived.ProofKit
import Derived.OpenShut
import Derived.ShutString
import Derived.ChangeOld
import Derived.Below
import Derived.Lib.SmallJoins
import Derived.Deep.SlicePairs
namespace Go.Proofs.Ythghkfncpdnpoad
open Go.ChangeShapes Go.WideShapes Go.ChangeAt Go.RowKit
set_option linter.unusedVariables false

theorem ownA : ownKnob Try.prog.godebug = none := by kernel_rfl
theorem laidOutA : laidOutB Try.prog = true := by kernel_rfl
def I64 (x : Int) : Prop := -9223372036854775808 ≤ x ∧ x ≤ 9223372036854775807
theorem I64.of_wf {x : Int} (h : (Lit.int .i64 x).wf = true) : I64 x := by
  simp [Lit.wf, IntKind.min, IntKind.max, IntKind.signed, IntKind.bits] at h
  exact ⟨by omega, by omega⟩
theorem u32_of_wf {x : Int} (h : (Lit.int .u32 x).wf = true) : U32 x := by
  simp [Lit.wf, IntKind.min, IntKind.max, IntKind.signed, IntKind.bits] at h
  exact ⟨by omega, by omega⟩
section
variable {H : Type} {enc : TypeId × Value → H} {W : World}
set_option maxRecDepth 100000 in
theorem ints_of {fuel : Nat} {v : Value} {y : DataW H × List MemPlace} (h : DataW.trod enc Try.prog W 0 (fun _ => true) true fuel 23 [v] = some y) :
    ∃ a n cap zs, v = .slice a n cap ∧ zs.length = n ∧ n ≤ 9223372036854775807 ∧ At .i64 W a zs := by
  rcases open_ints Try.underlying23 Try.underlying2 (by kernel_rfl) h with ⟨hcs, _⟩ | ⟨x, l, c, zs, hcs, _, hl, hm, hz, _, hcell, hwz⟩
  · simp at hcs
    exact ⟨none, 0, 0, [], hcs, rfl, by omega, .inl rfl⟩
  · simp at hcs
    have hz' : zs.length = c := by simpa using hz
    refine ⟨some x, l, c, zs.take l, hcs, by simp; omega, by unfold maxLen at hm; omega, ?_⟩
    by_cases h0 : l = 0
    · left; simp [h0]
    · right
      obtain ⟨b, off, spot⟩ := x
      have hc0 := hcell 0 (by omega)
      have hs : spot = none := by simpa [Addr.add] using World.cell?_spot hc0
      subst hs
      refine ⟨b, off, rfl, block_lt_of_cell (a := (⟨b, off, none⟩ : Addr).add 0) hc0, fun i hi => ?_⟩
      have hi' : i < l := by simp at hi; omega
      have := hcell i (by omega)
      rw [Addr.add_lit] at this
      rw [this]
      simp [List.getD, hi']
set_option maxRecDepth 100000 in
theorem taps_of {fuel : Nat} {v : Value} {y : DataW H × List MemPlace} (h : DataW.trod enc Try.prog W 0 (fun _ => true) true fuel 27 [v] = some y) :
    ∃ a n cap T, v = .slice a n cap ∧ T.length = n * 2 ∧ n ≤ 9223372036854775807 ∧ At .i64 W a T := by
  rcases Go.Deep.open_slice_pairs Try.underlying27 Try.underlying130 (by kernel_rfl) rfl rfl (by kernel_rfl) (by kernel_rfl) h with ⟨hcs, _⟩ | ⟨x, l, c, m, nn, V0, V1, D0, D1, P0, P1, hcs, _, hl, hm, hmm, _, hx⟩
  · simp at hcs
    exact ⟨none, 0, 0, [], hcs, rfl, by omega, .inl rfl⟩
  · simp at hcs hmm
    subst hmm
    have each : ∀ i, i < m → ∃ q : Int × Int, V0 i = .int .i64 q.1 ∧ V1 i = .int .i64 q.2 := by
      intro i hi
      obtain ⟨h1, h2, h3, h4⟩ := hx i hi
      obtain ⟨s, e1, _, hw⟩ := DataW.trod_int (k := .i64) Try.underlying2 h3
      obtain ⟨s', e2, _, hw'⟩ := DataW.trod_int (k := .i64) Try.underlying2 h4
      simp at e1 e2
      exact ⟨(s, s'), e1, e2⟩
    obtain ⟨q, hq⟩ := Go.Deep.choose_lt each
    refine ⟨some x, l, m, (List.range (l * 2)).map fun i => if i % 2 = 0 then (q (i / 2)).1 else (q (i / 2)).2, hcs, by simp, by unfold maxLen at hm; omega, ?_⟩
    by_cases h0 : l = 0
    · left; simp [h0]
    · right
      obtain ⟨b, off, spot⟩ := x
      have hc0 := (hx 0 (by omega)).1
      have hs : spot = none := by simpa [Addr.add] using World.cell?_spot hc0
      subst hs
      refine ⟨b, off, rfl, block_lt_of_cell (a := (⟨b, off, none⟩ : Addr).add (0 * 2)) hc0, fun i hi => ?_⟩
      have hi' : i < l * 2 := by simpa using hi
      obtain ⟨h1, h2, _, _⟩ := hx (i / 2) (by omega)
      obtain ⟨g1, g2⟩ := hq (i / 2) (by omega)
      rw [Addr.add_lit] at h1 h2
      have hg : ((List.range (l * 2)).map fun i => if i % 2 = 0 then (q (i / 2)).1 else (q (i / 2)).2).getD i 0 = if i % 2 = 0 then (q (i / 2)).1 else (q (i / 2)).2 := by simp [List.getD, hi']
      rw [hg]
      by_cases hp : i % 2 = 0
      · rw [if_pos hp, ← g1, ← h1]; congr 2; omega
      · rw [if_neg hp, ← g2, ← h2]; congr 2; omega
set_option maxRecDepth 100000 in
theorem frames_of {fuel : Nat} {v : Value} {y : DataW H × List MemPlace} (h : DataW.trod enc Try.prog W 0 (fun _ => true) true fuel 26 [v] = some y) :
    ∃ a n cap F, v = .slice a n cap ∧ F.length = n * 4 ∧ n ≤ 9223372036854775807 ∧ FAt W a F := by
  have ce : Try.prog.cellsOf 45 = 4 := by kernel_rfl
  have cu : Try.prog.cellsOf 22 = 1 := by kernel_rfl
  have ci : Try.prog.cellsOf 2 = 1 := by kernel_rfl
  rcases Go.Deep.open_slice Try.underlying26 h with ⟨hcs, _⟩ | ⟨x, l, c, m, nn, D, Pl, hcs, _, hl, hm, hmm, _, hx⟩
  · simp at hcs
    exact ⟨none, 0, 0, [], hcs, rfl, by omega, .inl rfl⟩
  · simp at hcs hmm
    subst hmm
    have each : ∀ i, i < m → ∃ q : Int × Int × Int × Int, W.cell? (x.add (i * 4)) = some (.int .u32 q.1) ∧ W.cell? (x.add (i * 4 + 1)) = some (.int .i64 q.2.1) ∧ W.cell? (x.add (i * 4 + 2)) = some (.int .u32 q.2.2.1) ∧ W.cell? (x.add (i * 4 + 3)) = some (.int .u32 q.2.2.2) := by
      intro i hi
      obtain ⟨cs', h1, h2⟩ := hx i hi
      rw [ce] at h1
      obtain ⟨_, hlen, hcell⟩ := World.cells?_some h1
      obtain ⟨y0, y1, y2, y3, n, _, _, g0, g1, g2, g3⟩ := Go.Joins.trod_struct4 Try.underlying45 h2
      match cs', hlen with
      | [v0, v1, v2, v3], _ =>
        simp [cu, ci] at g0 g1 g2 g3
        obtain ⟨s0, e0, _, _⟩ := DataW.trod_int (k := .u32) Try.underlying22 g0
        obtain ⟨s1, e1, _, _⟩ := DataW.trod_int (k := .i64) Try.underlying2 g1
        obtain ⟨s2, e2, _, _⟩ := DataW.trod_int (k := .u32) Try.underlying22 g2
        obtain ⟨s3, e3, _, _⟩ := DataW.trod_int (k := .u32) Try.underlying22 g3
        simp at e0 e1 e2 e3
        subst e0 e1 e2 e3
        have c0 := hcell 0 (by omega)
        have c1 := hcell 1 (by omega)
        have c2 := hcell 2 (by omega)
        have c3 := hcell 3 (by omega)
        rw [Go.Deep.add_add] at c0 c1 c2 c3
        exact ⟨(s0, s1, s2, s3), by simpa using c0, by simpa using c1, by simpa using c2, by simpa using c3⟩
    obtain ⟨q, hq⟩ := Go.Deep.choose_lt each
    refine ⟨some x, l, m, (List.range (l * 4)).map fun i => if i % 4 = 0 then (q (i / 4)).1 else if i % 4 = 1 then (q (i / 4)).2.1 else if i % 4 = 2 then (q (i / 4)).2.2.1 else (q (i / 4)).2.2.2, hcs, by simp, by unfold maxLen at hm; omega, ?_⟩
    by_cases h0 : l = 0
    · left; simp [h0]
    · right
      obtain ⟨b, off, spot⟩ := x
      have hc0 := (hq 0 (by omega)).1
      have hs : spot = none := by simpa [Addr.add] using World.cell?_spot hc0
      subst hs
      refine ⟨b, off, rfl, block_lt_of_cell (a := (⟨b, off, none⟩ : Addr).add (0 * 4)) hc0, fun i hi => ?_⟩
      have hi' : i < l * 4 := by simpa using hi
      obtain ⟨h1, h2, h3, h4⟩ := hq (i / 4) (by omega)
      rw [Addr.add_lit] at h1 h2 h3 h4
      have hg : ((List.range (l * 4)).map fun i => if i % 4 = 0 then (q (i / 4)).1 else if i % 4 = 1 then (q (i / 4)).2.1 else if i % 4 = 2 then (q (i / 4)).2.2.1 else (q (i / 4)).2.2.2).getD i 0 = if i % 4 = 0 then (q (i / 4)).1 else if i % 4 = 1 then (q (i / 4)).2.1 else if i % 4 = 2 then (q (i / 4)).2.2.1 else (q (i / 4)).2.2.2 := by simp [List.getD, hi']
      rw [hg]
      by_cases p0 : i % 4 = 0
      · rw [if_pos p0, show i = i / 4 * 4 by omega, kF0, show i / 4 * 4 / 4 = i / 4 by omega]; exact h1
      · rw [if_neg p0]
        by_cases p1 : i % 4 = 1
        · rw [if_pos p1, show i = i / 4 * 4 + 1 by omega, kF1, show (i / 4 * 4 + 1) / 4 = i / 4 by omega]; exact h2
        · rw [if_neg p1]
          by_cases p2 : i % 4 = 2
          · rw [if_pos p2, show i = i / 4 * 4 + 2 by omega, kF2, show (i / 4 * 4 + 2) / 4 = i / 4 by omega]; exact h3
          · rw [if_neg p2, show i = i / 4 * 4 + 3 by omega, kF3, show (i / 4 * 4 + 3) / 4 = i / 4 by omega]; exact h4
/-- The cells of an argument. -/
def ArgSnap (W : World) (v0 v1 v2 v3 : Value) : Prop :=
  ∃ (aD : Option Addr) (nD cD : Nat) (D : List Int) (aU : Option Addr) (nU cU : Nat) (U : List Int) (gn tl : Int), v0 = .int .u32 gn ∧ v1 = .int .u32 tl ∧ v2 = .slice aD nD cD ∧ v3 = .slice aU nU cU ∧ D.length = nD ∧ U.length = nU ∧ nD ≤ 9223372036854775807 ∧ nU ≤ 9223372036854775807 ∧ At .i64 W aD D ∧ At .i64 W aU U ∧ U32 gn ∧ U32 tl
set_option maxRecDepth 100000 in
theorem snap_cells {fuel : Nat} {v0 v1 v2 v3 : Value} {y : DataW H × List MemPlace} (h : DataW.trod enc Try.prog W 0 (fun _ => true) true fuel 25 [v0, v1, v2, v3] = some y) : ArgSnap W v0 v1 v2 v3 := by
  have k1 : Try.prog.cellsOf 22 = 1 := by kernel_rfl
  have k2 : Try.prog.cellsOf 23 = 1 := by kernel_rfl
  obtain ⟨xs, n, _, _, _, hlen, hf⟩ := DataW.trod_struct Try.underlying25 h
  match xs, hlen with
  | [y0, y1, y2, y3], _ =>
    have g0 := hf 0 _ rfl
    have g1 := hf 1 _ rfl
    have g2 := hf 2 _ rfl
    have g3 := hf 3 _ rfl
    simp [k1, k2] at g0 g1 g2 g3
    obtain ⟨gn, e0, _, Wgn⟩ := DataW.trod_int (k := .u32) Try.underlying22 g0
    simp at e0
    obtain ⟨tl, e1, _, Wtl⟩ := DataW.trod_int (k := .u32) Try.underlying22 g1
    simp at e1
    obtain ⟨aD, nD, cD, D, e2, hD, mD, AD⟩ := ints_of g2
    obtain ⟨aU, nU, cU, U, e3, hU, mU, AU⟩ := ints_of g3
    exact ⟨aD, nD, cD, D, aU, nU, cU, U, gn, tl, e0, e1, e2, e3, hD, hU, mD, mU, AD, AU, u32_of_wf Wgn, u32_of_wf Wtl⟩
/-- The cells of an argument. -/
def ArgState (W : World) (v0 v1 v2 v3 : Value) : Prop :=
  ∃ (aD : Option Addr) (nD cD : Nat) (D : List Int) (aU : Option Addr) (nU cU : Nat) (U : List Int) (aT : Option Addr) (nT cT : Nat) (T : List Int) (k : Int), v0 = .slice aD nD cD ∧ v1 = .slice aU nU cU ∧ v2 = .int .i64 k ∧ v3 = .slice aT nT cT ∧ D.length = nD ∧ U.length = nU ∧ T.length = nT * 2 ∧ nD ≤ 9223372036854775807 ∧ nU ≤ 9223372036854775807 ∧ nT ≤ 9223372036854775807 ∧ At .i64 W aD D ∧ At .i64 W aU U ∧ At .i64 W aT T ∧ I64 k
set_option maxRecDepth 100000 in
theorem state_cells {fuel : Nat} {v0 v1 v2 v3 : Value} {y : DataW H × List MemPlace} (h : DataW.trod enc Try.prog W 0 (fun _ => true) true fuel 29 [v0, v1, v2, v3] = some y) : ArgState W v0 v1 v2 v3 := by
  have k1 : Try.prog.cellsOf 23 = 1 := by kernel_rfl
  have k2 : Try.prog.cellsOf 2 = 1 := by kernel_rfl
  have k3 : Try.prog.cellsOf 27 = 1 := by kernel_rfl
  obtain ⟨xs, n, _, _, _, hlen, hf⟩ := DataW.trod_struct Try.underlying29 h
  match xs, hlen with
  | [y0, y1, y2, y3], _ =>
    have g0 := hf 0 _ rfl
    have g1 := hf 1 _ rfl
    have g2 := hf 2 _ rfl
    have g3 := hf 3 _ rfl
    simp [k1, k2, k3] at g0 g1 g2 g3
    obtain ⟨aD, nD, cD, D, e0, hD, mD, AD⟩ := ints_of g0
    obtain ⟨aU, nU, cU, U, e1, hU, mU, AU⟩ := ints_of g1
    obtain ⟨k, e2, _, Wk⟩ := DataW.trod_int (k := .i64) Try.underlying2 g2
    simp at e2
    obtain ⟨aT, nT, cT, T, e3, hT, mT, AT⟩ := taps_of g3
    exact ⟨aD, nD, cD, D, aU, nU, cU, U, aT, nT, cT, T, k, e0, e1, e2, e3, hD, hU, hT, mD, mU, mT, AD, AU, AT, I64.of_wf Wk⟩
/-- The cells of an argument. -/
def ArgImage (W : World) (v0 v1 v2 v3 v4 v5 v6 v7 v8 v9 v10 : Value) : Prop :=
  ∃ (asD : Option Addr) (nsD csD : Nat) (sD : List Int) (asU : Option Addr) (nsU csU : Nat) (sU : List Int) (aF : Option Addr) (nF cF : Nat) (F : List Int) (azD : Option Addr) (nzD czD : Nat) (zD : List Int) (azU : Option Addr) (nzU czU : Nat) (zU : List Int) (azT : Option Addr) (nzT czT : Nat) (zT : List Int) (sgn stl zk nx : Int) (ok : Bool), v0 = .bool ok ∧ v1 = .int .u32 sgn ∧ v2 = .int .u32 stl ∧ v3 = .slice asD nsD csD ∧ v4 = .slice asU nsU csU ∧ v5 = .slice aF nF cF ∧ v6 = .slice azD nzD czD ∧ v7 = .slice azU nzU czU ∧ v8 = .int .i64 zk ∧ v9 = .slice azT nzT czT ∧ v10 = .int .u32 nx ∧ sD.length = nsD ∧ sU.length = nsU ∧ F.length = nF * 4 ∧ zD.length = nzD ∧ zU.length = nzU ∧ zT.length = nzT * 2 ∧ nsD ≤ 9223372036854775807 ∧ nsU ≤ 9223372036854775807 ∧ nF ≤ 9223372036854775807 ∧ nzD ≤ 9223372036854775807 ∧ nzU ≤ 9223372036854775807 ∧ nzT ≤ 9223372036854775807 ∧ At .i64 W asD sD ∧ At .i64 W asU sU ∧ FAt W aF F ∧ At .i64 W azD zD ∧ At .i64 W azU zU ∧ At .i64 W azT zT ∧ U32 sgn ∧ U32 stl ∧ I64 zk ∧ U32 nx
set_option maxRecDepth 100000 in
theorem image_cells {fuel : Nat} {v0 v1 v2 v3 v4 v5 v6 v7 v8 v9 v10 : Value} {y : DataW H × List MemPlace} (h : DataW.trod enc Try.prog W 0 (fun _ => true) true fuel 31 [v0, v1, v2, v3, v4, v5, v6, v7, v8, v9, v10] = some y) : ArgImage W v0 v1 v2 v3 v4 v5 v6 v7 v8 v9 v10 := by
  have k1 : Try.prog.cellsOf 4 = 1 := by kernel_rfl
  have k2 : Try.prog.cellsOf 25 = 4 := by kernel_rfl
  have k3 : Try.prog.cellsOf 26 = 1 := by kernel_rfl
  have k4 : Try.prog.cellsOf 29 = 4 := by kernel_rfl
  have k5 : Try.prog.cellsOf 22 = 1 := by kernel_rfl
  obtain ⟨xs, n, _, _, _, hlen, hf⟩ := DataW.trod_struct Try.underlying31 h
  match xs, hlen with
  | [y0, y1, y2, y3, y4], _ =>
    have g0 := hf 0 _ rfl
    have g1 := hf 1 _ rfl
    have g2 := hf 2 _ rfl
    have g3 := hf 3 _ rfl
    have g4 := hf 4 _ rfl
    simp [k1, k2, k3, k4, k5] at g0 g1 g2 g3 g4
    obtain ⟨ok, e0, _⟩ := DataW.trod_bool Try.underlying4 g0
    simp at e0
    obtain ⟨asD, nsD, csD, sD, asU, nsU, csU, sU, sgn, stl, e1x0, e1x1, e1x2, e1x3, hsD, hsU, msD, msU, AsD, AsU, Wsgn, Wstl⟩ := snap_cells g1
    obtain ⟨aF, nF, cF, F, e2, hF, mF, AF⟩ := frames_of g2
    obtain ⟨azD, nzD, czD, zD, azU, nzU, czU, zU, azT, nzT, czT, zT, zk, e3x0, e3x1, e3x2, e3x3, hzD, hzU, hzT, mzD, mzU, mzT, AzD, AzU, AzT, Wzk⟩ := state_cells g3
    obtain ⟨nx, e4, _, Wnx⟩ := DataW.trod_int (k := .u32) Try.underlying22 g4
    simp at e4
    exact ⟨asD, nsD, csD, sD, asU, nsU, csU, sU, aF, nF, cF, F, azD, nzD, czD, zD, azU, nzU, czU, zU, azT, nzT, czT, zT, sgn, stl, zk, nx, ok, e0, e1x0, e1x1, e1x2, e1x3, e2, e3x0, e3x1, e3x2, e3x3, e4, hsD, hsU, hF, hzD, hzU, hzT, msD, msU, mF, mzD, mzU, mzT, AsD, AsU, AF, AzD, AzU, AzT, Wsgn, Wstl, Wzk, u32_of_wf Wnx⟩
set_option maxRecDepth 100000 in
theorem image_of {r : Reach} {b0 : Nat} {v : Value} {d : DataW H} {p : List MemPlace} (hv : Value.okWide Try.prog W r b0 31 v) (h : DataW.Trod enc Try.prog W 0 (fun _ => true) true 31 v d p) : ∃ v0 v1 v2 v3 v4 v5 v6 v7 v8 v9 v10, v = .agg #[v0, v1, v2, v3, v4, v5, v6, v7, v8, v9, v10] ∧ ArgImage W v0 v1 v2 v3 v4 v5 v6 v7 v8 v9 v10 := by
  obtain ⟨cs, rfl, hsz⟩ := okWide_struct Try.underlying31 hv
  have hC : Try.prog.cellsOf 31 = 11 := by kernel_rfl
  obtain ⟨fuel, hf⟩ := h
  match cs, hsz.trans hC with
  | ⟨[v0, v1, v2, v3, v4, v5, v6, v7, v8, v9, v10]⟩, _ => exact ⟨v0, v1, v2, v3, v4, v5, v6, v7, v8, v9, v10, rfl, image_cells hf⟩
end
end Go.Proofs.Ythghkfncpdnpoad
