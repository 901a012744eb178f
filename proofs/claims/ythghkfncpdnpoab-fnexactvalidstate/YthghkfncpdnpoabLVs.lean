/-
  Own work: the law on ValidState (written by wip/mklvs.py).
-/
import Derived.Test.YthghkfncpdnpoabSvG
import Derived.Test.YthghkfncpdnpoabReg8
import Derived.WalkKit
import Derived.ProofKit
import Derived.OpenShut
import Derived.ShutString
import Derived.ChangeOld
import Derived.Below
import Derived.Lib.SmallJoins
import Derived.Deep.SlicePairs
namespace Go.Proofs.Ythghkfncpdnpoab.fnExactValidState
open Go.ChangeShapes Go.WideShapes Go.ChangeAt Go.RowKit
set_option linter.unusedVariables false

theorem own : ownKnob Try.prog.godebug = none := by kernel_rfl
theorem laidOut : laidOutB Try.prog = true := by kernel_rfl
def I64 (x : Int) : Prop := -9223372036854775808 ≤ x ∧ x ≤ 9223372036854775807
theorem I64.of_wf {x : Int} (h : (Lit.int .i64 x).wf = true) : I64 x := by
  simp [Lit.wf, IntKind.min, IntKind.max, IntKind.signed, IntKind.bits] at h
  exact ⟨by omega, by omega⟩
section
variable {H : Type} {enc : TypeId × Value → H} {W : World}
set_option maxRecDepth 100000 in
theorem ints_of {fuel : Nat} {v : Value} {y : DataW H × List MemPlace} (h : DataW.trod enc Try.prog W 0 (fun _ => true) true fuel 52 [v] = some y) :
    ∃ a n cap zs, v = .slice a n cap ∧ zs.length = n ∧ n ≤ 9223372036854775807 ∧ At .i64 W a zs := by
  rcases open_ints Try.underlying52 Try.underlying2 (by kernel_rfl) h with ⟨hcs, _⟩ | ⟨x, l, c, zs, hcs, _, hl, hm, hz, _, hcell, hwz⟩
  · simp at hcs
    exact ⟨none, 0, 0, [], hcs, rfl, by omega, .inl rfl⟩
  · simp at hcs
    have hz' : zs.length = c := by simpa using hz
    refine ⟨some x, l, c, zs.take l, hcs, by simp; omega, by unfold maxLen at hm; omega, ?_⟩
    by_cases h0 : l = 0
    · left; simp [h0]
    · right
      obtain ⟨b, off, spot⟩ := x
      have hc0 := hcell 0 (by omega)
      have hs : spot = none := by simpa [Addr.add] using World.cell?_spot hc0
      subst hs
      refine ⟨b, off, rfl, block_lt_of_cell (a := (⟨b, off, none⟩ : Addr).add 0) hc0, fun i hi => ?_⟩
      have hi' : i < l := by simp at hi; omega
      have := hcell i (by omega)
      rw [Addr.add_lit] at this
      rw [this]
      simp [List.getD, hi']
set_option maxRecDepth 100000 in
theorem taps_of {fuel : Nat} {v : Value} {y : DataW H × List MemPlace} (h : DataW.trod enc Try.prog W 0 (fun _ => true) true fuel 53 [v] = some y) :
    ∃ a n cap T, v = .slice a n cap ∧ T.length = n * 2 ∧ n ≤ 9223372036854775807 ∧ At .i64 W a T := by
  rcases Go.Deep.open_slice_pairs Try.underlying53 Try.underlying125 (by kernel_rfl) rfl rfl (by kernel_rfl) (by kernel_rfl) h with ⟨hcs, _⟩ | ⟨x, l, c, m, nn, V0, V1, D0, D1, P0, P1, hcs, _, hl, hm, hmm, _, hx⟩
  · simp at hcs
    exact ⟨none, 0, 0, [], hcs, rfl, by omega, .inl rfl⟩
  · simp at hcs hmm
    subst hmm
    have each : ∀ i, i < m → ∃ q : Int × Int, V0 i = .int .i64 q.1 ∧ V1 i = .int .i64 q.2 := by
      intro i hi
      obtain ⟨h1, h2, h3, h4⟩ := hx i hi
      obtain ⟨s, e1, _, hw⟩ := DataW.trod_int (k := .i64) Try.underlying2 h3
      obtain ⟨s', e2, _, hw'⟩ := DataW.trod_int (k := .i64) Try.underlying2 h4
      simp at e1 e2
      exact ⟨(s, s'), e1, e2⟩
    obtain ⟨q, hq⟩ := Go.Deep.choose_lt each
    refine ⟨some x, l, m, (List.range (l * 2)).map fun i => if i % 2 = 0 then (q (i / 2)).1 else (q (i / 2)).2, hcs, by simp, by unfold maxLen at hm; omega, ?_⟩
    by_cases h0 : l = 0
    · left; simp [h0]
    · right
      obtain ⟨b, off, spot⟩ := x
      have hc0 := (hx 0 (by omega)).1
      have hs : spot = none := by simpa [Addr.add] using World.cell?_spot hc0
      subst hs
      refine ⟨b, off, rfl, block_lt_of_cell (a := (⟨b, off, none⟩ : Addr).add (0 * 2)) hc0, fun i hi => ?_⟩
      have hi' : i < l * 2 := by simpa using hi
      obtain ⟨h1, h2, _, _⟩ := hx (i / 2) (by omega)
      obtain ⟨g1, g2⟩ := hq (i / 2) (by omega)
      rw [Addr.add_lit] at h1 h2
      have hg : ((List.range (l * 2)).map fun i => if i % 2 = 0 then (q (i / 2)).1 else (q (i / 2)).2).getD i 0 = if i % 2 = 0 then (q (i / 2)).1 else (q (i / 2)).2 := by simp [List.getD, hi']
      rw [hg]
      by_cases hp : i % 2 = 0
      · rw [if_pos hp, ← g1, ← h1]; congr 2; omega
      · rw [if_neg hp, ← g2, ← h2]; congr 2; omega
/-- The argument is a state. -/
def ArgS (W : World) (v : Value) : Prop :=
  ∃ (aD aU aT : Option Addr) (nD cD nU cU nT cT : Nat) (D U : List Int) (k : Int) (T : List Int), v = .agg #[.slice aD nD cD, .slice aU nU cU, .int .i64 k, .slice aT nT cT] ∧ D.length = nD ∧ U.length = nU ∧ T.length = nT * 2 ∧
    nD ≤ 9223372036854775807 ∧ nU ≤ 9223372036854775807 ∧ nT ≤ 9223372036854775807 ∧ At .i64 W aD D ∧ At .i64 W aU U ∧ At .i64 W aT T ∧ I64 k
set_option maxRecDepth 100000 in
theorem state_of {r : Reach} {b0 : Nat} {v : Value} {d : DataW H} {p : List MemPlace} (hv : Value.okWide Try.prog W r b0 55 v) (h : DataW.Trod enc Try.prog W 0 (fun _ => true) true 55 v d p) : ArgS W v := by
  obtain ⟨v0, v1, v2, v3, y0, y1, y2, y3, n, rfl, _, _, h0, h1, h2, h3⟩ := Go.Joins.open_agg4 Try.underlying55 (by kernel_rfl) (by kernel_rfl) hv h
  obtain ⟨aD, nD, cD, D, rfl, hD, mD, haD⟩ := ints_of h0
  obtain ⟨aU, nU, cU, U, rfl, hU, mU, haU⟩ := ints_of h1
  obtain ⟨k, e2, _, hk⟩ := DataW.trod_int (k := .i64) Try.underlying2 h2
  obtain ⟨aT, nT, cT, T, rfl, hT, mT, haT⟩ := taps_of h3
  simp at e2
  subst e2
  exact ⟨aD, aU, aT, nD, cD, nU, cU, nT, cT, D, U, k, T, rfl, hD, hU, hT, mD, mU, mT, haD, haU, haT, I64.of_wf hk⟩
end
/-- The law's own box of the argument. -/
structure LB (w : World) (sc : Array Value) (wr : World) : Prop where
  below : Below w.heap.size w wr
  box : wr.heap[w.heap.size]? = some (.cells sc 55 (0, 0))
theorem LB.lt {w wr : World} {sc : Array Value} (h : LB w sc wr) : w.heap.size < wr.heap.size := (Array.getElem?_eq_some_iff.1 h.box).1
theorem LB.call {w wr w' : World} {sc : Array Value} (h : LB w sc wr) (b : Below wr.heap.size wr w') : LB w sc w' := ⟨h.below.trans (b.mono h.below.size), by rw [b.block _ h.lt]; exact h.box⟩
/-- A copy of the state, as a value. -/
def TSV (D U : List Int) (k : Int) (T : List Int) (nD nU nT : Nat) (w : World) (v : Value) : Prop :=
  ∃ gD gU gT, v = .agg #[.slice (some ⟨gD, 0, none⟩) nD nD, .slice (some ⟨gU, 0, none⟩) nU nU, .int .i64 k, .slice (some ⟨gT, 0, none⟩) nT nT] ∧ At .i64 w (some ⟨gD, 0, none⟩) D ∧ At .i64 w (some ⟨gU, 0, none⟩) U ∧ At .i64 w (some ⟨gT, 0, none⟩) T
theorem TSV.below {D U : List Int} {k : Int} {T : List Int} {nD nU nT : Nat} {w w' : World} {v : Value} (h : TSV D U k T nD nU nT w v) (b : Below w.heap.size w w') : TSV D U k T nD nU nT w' v := by
  obtain ⟨gD, gU, gT, e, h1, h2, h3⟩ := h; exact ⟨gD, gU, gT, e, h1.below b, h2.below b, h3.below b⟩
theorem TSV.elim_ {D U : List Int} {k : Int} {T : List Int} {nD nU nT : Nat} {w : World} {v : Value} {C : Prop} (h : TSV D U k T nD nU nT w v)
    (q : ∀ gD gU gT, v = .agg #[.slice (some ⟨gD, 0, none⟩) nD nD, .slice (some ⟨gU, 0, none⟩) nU nU, .int .i64 k, .slice (some ⟨gT, 0, none⟩) nT nT] → At .i64 w (some ⟨gD, 0, none⟩) D → At .i64 w (some ⟨gU, 0, none⟩) U → At .i64 w (some ⟨gT, 0, none⟩) T → C) : C := by
  obtain ⟨gD, gU, gT, e, h1, h2, h3⟩ := h; exact q gD gU gT e h1 h2 h3

set_option maxRecDepth 100000 in
set_option maxHeartbeats 4000000 in
theorem walk (aD aU aT : Option Addr) (nD cD nU cU nT cT : Nat) (D U : List Int) (k : Int) (T : List Int) (w : World) (hD : D.length = nD) (hU : U.length = nU) (hT : T.length = nT * 2) (mD : nD ≤ 9223372036854775807) (mU : nU ≤ 9223372036854775807) (mT : nT ≤ 9223372036854775807)
    (haD : At .i64 w aD D) (haU : At .i64 w aU U) (haT : At .i64 w aT T) (hk : I64 k) :
    Calls Try.prog 8 #[.agg #[.slice aD nD cD, .slice aU nU cU, .int .i64 k, .slice aT nT cT]] w fun e w' => e = .returned (.bool true) ∧ Below w.heap.size w w' := by
  have HZ : Hid (∀ left n, szQ left n = if left < n then -1 else left - n) := fun _ _ => rfl
  have HS0 : Hid (LB w #[.slice aD nD cD, .slice aU nU cU, .int .i64 k, .slice aT nT cT] (w.alloc (.cells #[.slice aD nD cD, .slice aU nU cU, .int .i64 k, .slice aT nT cT] 55))) := ⟨(Below.refl _ _).alloc (Nat.le_refl _) _, heap_alloc_new w _⟩
  have HA : Hid (At .i64 w aD D ∧ At .i64 w aU U ∧ At .i64 w aT T) := ⟨haD, haU, haT⟩
  have HL : Hid (D.length = nD ∧ U.length = nU ∧ T.length = nT * 2) := ⟨hD, hU, hT⟩
  have HK : Hid (I64 k) := hk
  clear haD haU haT hD hU hT hk
  go_enter Try.func8, Try.ntmps8
  go_wp2_with fail
  refine (szS_any aD aU aT nD cD nU cU nT cT k _ mD mU mT).mono ?_
  rintro e w1 ⟨rfl, hb1⟩
  have HS1 : Hid (LB w #[.slice aD nD cD, .slice aU nU cU, .int .i64 k, .slice aT nT cT] w1) := HS0.out.call hb1
  clear HS0 hb1
  by_cases hbig : (1048576 : Int) < ((nD + nU + nT : Nat) : Int)
  · have hr : szQ 1048576 (nD + nU + nT) = -1 := by rw [HZ.out, if_pos hbig]
    rw [hr]
    have HB1 : Hid (Below w.heap.size w w1) := HS1.out.below
    clear HS1 hr hbig
    go_wp2
    go_ret
    exact ⟨rfl, HB1.out⟩
  have hr : szQ 1048576 (nD + nU + nT) = 1048576 - ((nD + nU + nT : Nat) : Int) := by rw [HZ.out, if_neg hbig]
  have bD : nD ≤ 1048576 := by omega
  have bU : nU ≤ 1048576 := by omega
  have bT : nT ≤ 1048576 := by omega
  have hneg : ¬ (szQ 1048576 (nD + nU + nT) < 0) := by rw [hr]; omega
  generalize szQ 1048576 (nD + nU + nT) = left at *
  clear hr hbig mD mU mT HZ
  have x0 : w1.cell? ⟨w.heap.size, 0, none⟩ = some (.slice aD nD cD) := by rw [cell_of_row w1 w.heap.size 0 _ _ _ HS1.out.box]; rfl
  have x1 : w1.cell? ⟨w.heap.size, 1, none⟩ = some (.slice aU nU cU) := by rw [cell_of_row w1 w.heap.size 1 _ _ _ HS1.out.box]; rfl
  have x2 : w1.cell? ⟨w.heap.size, 2, none⟩ = some (.int .i64 k) := by rw [cell_of_row w1 w.heap.size 2 _ _ _ HS1.out.box]; rfl
  have x3 : w1.cell? ⟨w.heap.size, 3, none⟩ = some (.slice aT nT cT) := by rw [cell_of_row w1 w.heap.size 3 _ _ _ HS1.out.box]; rfl
  go_wp2_with fail
  refine (toS_any aD aU aT nD cD nU cU nT cT D U k T _ HL.out.1 HL.out.2.1 HL.out.2.2 bD bU bT (HA.out.1.below HS1.out.below) (HA.out.2.1.below HS1.out.below) (HA.out.2.2.below HS1.out.below)).mono ?_
  rintro e w2 ⟨gD, gU, gT, rfl, h1, h2, h3, hb2⟩
  have HS2 : Hid (LB w #[.slice aD nD cD, .slice aU nU cU, .int .i64 k, .slice aT nT cT] w2) := HS1.out.call hb2
  have HC := svs_any (some ⟨gD, 0, none⟩) (some ⟨gU, 0, none⟩) (some ⟨gT, 0, none⟩) nD nD nU nU nT nT D U k T w2 HL.out.1 HL.out.2.1 HL.out.2.2 bD bU bT h1 h2 h3 HK.out.1 (by have := HK.out.2; omega)
  clear h1 h2 h3 hb2 HS1 x0 x1 x2 x3
  go_wp2_with fail
  refine HC.mono ?_
  rintro e w3 ⟨rfl, hb3⟩
  have HS3 : Hid (LB w #[.slice aD nD cD, .slice aU nU cU, .int .i64 k, .slice aT nT cT] w3) := HS2.out.call hb3
  clear HC HS2 hb3
  generalize hq : stB D U k T nT = q at *
  have HQ : Hid (stB D U k T nT = q) := hq
  clear hq
  have x0 : w3.cell? ⟨w.heap.size, 0, none⟩ = some (.slice aD nD cD) := by rw [cell_of_row w3 w.heap.size 0 _ _ _ HS3.out.box]; rfl
  have x1 : w3.cell? ⟨w.heap.size, 1, none⟩ = some (.slice aU nU cU) := by rw [cell_of_row w3 w.heap.size 1 _ _ _ HS3.out.box]; rfl
  have x2 : w3.cell? ⟨w.heap.size, 2, none⟩ = some (.int .i64 k) := by rw [cell_of_row w3 w.heap.size 2 _ _ _ HS3.out.box]; rfl
  have x3 : w3.cell? ⟨w.heap.size, 3, none⟩ = some (.slice aT nT cT) := by rw [cell_of_row w3 w.heap.size 3 _ _ _ HS3.out.box]; rfl
  go_wp2_with fail
  refine (toS_any aD aU aT nD cD nU cU nT cT D U k T _ HL.out.1 HL.out.2.1 HL.out.2.2 bD bU bT (HA.out.1.below HS3.out.below) (HA.out.2.1.below HS3.out.below) (HA.out.2.2.below HS3.out.below)).mono ?_
  rintro e w4 ⟨gD, gU, gT, rfl, h1, h2, h3, hb4⟩
  have b5 : Below w4.heap.size w4 (w4.alloc (.cells #[.slice (some ⟨gD, 0, none⟩) nD nD, .slice (some ⟨gU, 0, none⟩) nU nU, .int .i64 k, .slice (some ⟨gT, 0, none⟩) nT nT] 60)) := (Below.refl _ _).alloc (Nat.le_refl _) _
  have HS5 : Hid (LB w #[.slice aD nD cD, .slice aU nU cU, .int .i64 k, .slice aT nT cT] (w4.alloc (.cells #[.slice (some ⟨gD, 0, none⟩) nD nD, .slice (some ⟨gU, 0, none⟩) nU nU, .int .i64 k, .slice (some ⟨gT, 0, none⟩) nT nT] 60))) := (HS3.out.call hb4).call b5
  have HX5 : Hid ((w4.alloc (.cells #[.slice (some ⟨gD, 0, none⟩) nD nD, .slice (some ⟨gU, 0, none⟩) nU nU, .int .i64 k, .slice (some ⟨gT, 0, none⟩) nT nT] 60)).heap[w4.heap.size]? = some (.cells #[.slice (some ⟨gD, 0, none⟩) nD nD, .slice (some ⟨gU, 0, none⟩) nU nU, .int .i64 k, .slice (some ⟨gT, 0, none⟩) nT nT] 60 (0, 0))) := heap_alloc_new w4 _
  have HT5 : Hid (At .i64 (w4.alloc (.cells #[.slice (some ⟨gD, 0, none⟩) nD nD, .slice (some ⟨gU, 0, none⟩) nU nU, .int .i64 k, .slice (some ⟨gT, 0, none⟩) nT nT] 60)) (some ⟨gD, 0, none⟩) D ∧ At .i64 (w4.alloc (.cells #[.slice (some ⟨gD, 0, none⟩) nD nD, .slice (some ⟨gU, 0, none⟩) nU nU, .int .i64 k, .slice (some ⟨gT, 0, none⟩) nT nT] 60)) (some ⟨gU, 0, none⟩) U ∧ At .i64 (w4.alloc (.cells #[.slice (some ⟨gD, 0, none⟩) nD nD, .slice (some ⟨gU, 0, none⟩) nU nU, .int .i64 k, .slice (some ⟨gT, 0, none⟩) nT nT] 60)) (some ⟨gT, 0, none⟩) T) := ⟨h1.below b5, h2.below b5, h3.below b5⟩
  have HC := ivs_any (some ⟨gD, 0, none⟩) (some ⟨gU, 0, none⟩) (some ⟨gT, 0, none⟩) nD nD nU nU nT nT D U k T (w4.alloc (.cells #[.slice (some ⟨gD, 0, none⟩) nD nD, .slice (some ⟨gU, 0, none⟩) nU nU, .int .i64 k, .slice (some ⟨gT, 0, none⟩) nT nT] 60)) HL.out.1 HL.out.2.1 HL.out.2.2 bD bU bT HT5.out.1 HT5.out.2.1 HT5.out.2.2 (fun h => by cases h) HK.out.1 (by have := HK.out.2; omega)
  rw [HQ.out] at HC
  clear h1 h2 h3 hb4 HS3 x0 x1 x2 x3 b5
  go_wp2_with fail
  generalize w4.alloc (.cells #[.slice (some ⟨gD, 0, none⟩) nD nD, .slice (some ⟨gU, 0, none⟩) nU nU, .int .i64 k, .slice (some ⟨gT, 0, none⟩) nT nT] 60) = w5 at *
  generalize w4.heap.size = X at *
  refine HC.mono ?_
  rintro e w6 ⟨rfl, hb6⟩
  have HS6 : Hid (LB w #[.slice aD nD cD, .slice aU nU cU, .int .i64 k, .slice aT nT cT] w6) := HS5.out.call hb6
  have hX5 : X < w5.heap.size := (Array.getElem?_eq_some_iff.1 HX5.out).1
  have HX6 : Hid (w6.heap[X]? = some (.cells #[.slice (some ⟨gD, 0, none⟩) nD nD, .slice (some ⟨gU, 0, none⟩) nU nU, .int .i64 k, .slice (some ⟨gT, 0, none⟩) nT nT] 60 (0, 0))) := by show _ = _; rw [hb6.block _ hX5]; exact HX5.out
  have HT6 : Hid (At .i64 w6 (some ⟨gD, 0, none⟩) D ∧ At .i64 w6 (some ⟨gU, 0, none⟩) U ∧ At .i64 w6 (some ⟨gT, 0, none⟩) T) := ⟨HT5.out.1.below hb6, HT5.out.2.1.below hb6, HT5.out.2.2.below hb6⟩
  have hX6 : X < w6.heap.size := by have := hb6.size; omega
  have tv : (q != q) = false := by simp
  have HSZ : Hid ((Try.prog.info? 60).map (·.size) = some 4) := by show _ = _; kernel_rfl
  have HSL : Hid ((Try.prog.info? 55).map (·.size) = some 4) := by show _ = _; kernel_rfl
  clear HC HS5 HX5 HT5 hb6 hX5
  go_wp2_with fail
  refine wp_region_any (by kernel_rfl) ?_
  refine wpAny_slotsG (fun _ a b => Below a.heap.size a b) (frame := (fun (c0 c1 c2 c3 c4 c5 c6 c7 c8 c9 c10 c11 c12 c13 c14 c15 c16 c17 c18 c19 c20 c21 : Value) => fun (t : Nat → Value) => ({ tmps := List.toArray (c0 :: c1 :: c2 :: c3 :: c4 :: c5 :: c6 :: c7 :: c8 :: c9 :: c10 :: c11 :: c12 :: c13 :: c14 :: c15 :: c16 :: c17 :: c18 :: c19 :: c20 :: c21 :: t 0 :: t 1 :: t 2 :: t 3 :: t 4 :: []), defers := [] } : Act)) _ _ _ _ _ _ _ _ _ _ _ _ _ _ _ _ _ _ _ _ _ _)
    (Ext := fun L w' => Below w6.heap.size w6 w') (Good := fun i L w' v => if i = 0 then v = .agg #[.slice (some ⟨gD, 0, none⟩) nD nD, .slice (some ⟨gU, 0, none⟩) nU nU, .int .i64 k, .slice (some ⟨gT, 0, none⟩) nT nT] else if i = 1 then v = .agg #[.slice aD nD cD, .slice aU nU cU, .int .i64 k, .slice aT nT cT] else if i = 2 then TSV D U k T nD nU nT w' v else if i = 3 then v = .bool true else if i = 4 then v = .bool false else True) ?hstab (by kernel_rfl) ?hop ?hdone _ _ ((fun (x0 x1 x2 x3 x4 : Value) => fun (i : Nat) => if i = 0 then x0 else if i = 1 then x1 else if i = 2 then x2 else if i = 3 then x3 else if i = 4 then x4 else undef) _ _ _ _ _) _ (by simp) ?ext ?start (by simp)
  case start => intro i hi h; exact absurd h (by rw [Array.getD_eq_getD_getElem?, Array.getElem?_replicate]; split <;> simp)
  case ext => exact ⟨rfl, rfl, rfl, Nat.le_refl _, fun _ _ => rfl⟩
  case hstab =>
    intro j L w9 w' i v hM _ _ h
    by_cases h2 : j = 2
    · subst h2
      simp at h ⊢
      exact h.below hM
    simp only [if_neg h2] at h ⊢
    exact h
  case hop =>
    intro i o L t w' ho hLi hx hdep K hK
    have hi : i < 5 := (Array.getElem?_eq_some_iff.1 ho).1
    obtain rfl | rfl | rfl | rfl | rfl : i = 0 ∨ i = 1 ∨ i = 2 ∨ i = 3 ∨ i = 4 := by omega
    all_goals (simp at ho; subst ho)
    · clear hdep
      have hK' := hK w' (.agg #[.slice (some ⟨gD, 0, none⟩) nD nD, .slice (some ⟨gU, 0, none⟩) nU nU, .int .i64 k, .slice (some ⟨gT, 0, none⟩) nT nT]) (by simp) hx (Below.refl _ _)
      have hr : w'.heap[X]? = some (.cells #[.slice (some ⟨gD, 0, none⟩) nD nD, .slice (some ⟨gU, 0, none⟩) nU nU, .int .i64 k, .slice (some ⟨gT, 0, none⟩) nT nT] 60 (0, 0)) := by rw [hx.block _ hX6]; exact HX6.out
      clear hK
      rw [if_pos (by rfl)]
      refine wp_load_row 60 (.tmp 5) rfl X rfl 60 _ (0, 0) _ hr Try.underlying60 rfl HSZ.out ?_
      go_simp
      simpa [upd] using hK'
    · clear hdep
      have hK' := hK w' (.agg #[.slice aD nD cD, .slice aU nU cU, .int .i64 k, .slice aT nT cT]) (by simp) hx (Below.refl _ _)
      have hr : w'.heap[w.heap.size]? = some (.cells #[.slice aD nD cD, .slice aU nU cU, .int .i64 k, .slice aT nT cT] 55 (0, 0)) := by rw [hx.block _ HS6.out.lt]; exact HS6.out.box
      clear hK
      rw [if_pos (by rfl)]
      refine wp_load_row 55 (.tmp 1) rfl w.heap.size rfl 55 _ (0, 0) _ hr Try.underlying55 rfl HSL.out ?_
      go_simp
      simpa [upd] using hK'
    · have d1 : t 1 = .agg #[.slice aD nD cD, .slice aU nU cU, .int .i64 k, .slice aT nT cT] := by simpa using hdep ⟨1, .data⟩ (by simp) rfl
      clear hdep
      have bw : Below w.heap.size w w' := HS6.out.below.trans (hx.mono HS6.out.below.size)
      have A := toS_any aD aU aT nD cD nU cU nT cT D U k T w' HL.out.1 HL.out.2.1 HL.out.2.2 bD bU bT (HA.out.1.below bw) (HA.out.2.1.below bw) (HA.out.2.2.below bw)
      have hK' : ∀ ww v, TSV D U k T nD nU nT ww v → Below w'.heap.size w' ww → K _ ww := fun ww v hv hb => hK ww v (by simpa using hv) (hx.trans (hb.mono hx.size)) hb
      clear hK
      rw [if_pos (by rfl)]
      go_simp
      try simp only [d1]
      refine A.mono ?_
      rintro e w9 ⟨hgD, hgU, hgT, rfl, h1, h2, h3, hb⟩
      have hK2 := hK' w9 _ ⟨hgD, hgU, hgT, rfl, h1, h2, h3⟩ hb
      clear hK' A h1 h2 h3 hb bw
      go_simp
      simpa [upd, d1] using hK2
    · have d0 : t 0 = .agg #[.slice (some ⟨gD, 0, none⟩) nD nD, .slice (some ⟨gU, 0, none⟩) nU nU, .int .i64 k, .slice (some ⟨gT, 0, none⟩) nT nT] := by simpa using hdep ⟨0, .data⟩ (by simp) rfl
      have f2 : TSV D U k T nD nU nT w' (t 2) := by simpa using hdep ⟨2, .data⟩ (by simp) rfl
      clear hdep
      refine f2.elim_ fun hgD hgU hgT d2 e1 e2 e3 => ?_
      have A := eqS_any (some ⟨gD, 0, none⟩) (some ⟨gU, 0, none⟩) (some ⟨gT, 0, none⟩) (some ⟨hgD, 0, none⟩) (some ⟨hgU, 0, none⟩) (some ⟨hgT, 0, none⟩) nD nD nU nU nT nT nD nU nT D U k T w' HL.out.1 HL.out.2.1 HL.out.2.2 bD bU bT (HT6.out.1.below hx) (HT6.out.2.1.below hx) (HT6.out.2.2.below hx) e1 e2 e3
      have hK' : ∀ ww, Below w'.heap.size w' ww → K _ ww := fun ww hb => hK ww (.bool true) (by simp) (hx.trans (hb.mono hx.size)) hb
      clear hK e1 e2 e3
      rw [if_pos (by rfl)]
      go_simp
      try simp only [d0, d2]
      refine A.mono ?_
      rintro e w9 ⟨rfl, hb⟩
      have hK2 := hK' w9 hb
      clear hK' A hb
      go_simp
      simpa [upd, d0, d2] using hK2
    · have d3 : t 3 = .bool true := by simpa using hdep ⟨3, .data⟩ (by simp) rfl
      clear hdep
      have hK' := hK w' (.bool false) (by simp) hx (Below.refl _ _)
      clear hK
      rw [if_pos (by rfl)]
      go_simp
      simpa [upd, d3] using hK'
  case hdone =>
    intro L t w' hx hg
    have d4 : t 4 = .bool false := by simpa using hg 4 (by decide)
    clear hg
    have HB : Hid (Below w.heap.size w w') := HS6.out.below.trans (hx.mono HS6.out.below.size)
    simp only [d4]
    clear hx d4
    go_wp2
    go_ret
    exact ⟨rfl, HB.out⟩

set_option maxRecDepth 100000 in
theorem lifted (os : Os) (started : os.Started) (H : Type) (enc : TypeId × Value → H) :
    ReturnsInHanded {} Try.checked os 8 .any (Rows.fnExactValidStateSpec.pre6 enc Try.prog Try.f8 Rows.fnExactValidStateRow.domain false) (Rows.fnExactValidStateSpec.post enc Try.prog Try.f8 false true false false) := by
  refine returnsInHanded_of_change (C := Try.checked) own started (by kernel_rfl) Try.func8
    (ChangeSpec.witness6 (enc := enc) (C := Try.checked) false ⟨#[], #[.agg #[.slice none 0 0, .slice none 0 0, .int .i64 0, .slice none 0 0]], []⟩ 8 (by kernel_rfl) (by kernel_rfl) (by kernel_rfl) (by kernel_rfl)) ?_
  intro W base args ds gs before hval0 hW hcnd _
  have hval : ∀ (j : Nat) t v, Try.f8.params[j]? = some t → args[j]? = some v → Value.okWide Try.prog W .any base t v := hval0
  have hW' := hW
  obtain ⟨p, q, hA0, hV, rfl, hfz, hnd⟩ := hW
  have hA : DataW.TrodAll enc Try.prog W 0 (fun _ => true) true Try.f8.params.toList args.toList ds p := hA0
  rw [Try.params8] at hA hval
  obtain ⟨v0, vs0, d0, ds0, p0, q0, hargs, rfl, rfl, h0, r0⟩ := trodAll_cons hA
  obtain ⟨rfl, rfl, rfl⟩ := trodAll_nil r0
  obtain rfl : args = #[v0] := by cases args; simp_all
  obtain ⟨rfl, rfl⟩ := trodVars_none hV
  have k0 := h0
  have lt0 : ∀ x ∈ p0, x.block < W.heap.size := by obtain ⟨m, hm⟩ := k0; exact DataW.trod_lt m _ _ _ hm
  obtain ⟨aD, aU, aT, nD, cD, nU, cU, nT, cT, D, U, k, T, rfl, hD, hU, hT, mD, mU, mT, haD, haU, haT, hk⟩ := state_of (hval 0 55 v0 rfl rfl) h0
  clear hA0 hval0
  refine (walk aD aU aT nD cD nU cU nT cT D U k T W hD hU hT mD mU mT haD haU haT hk).mono fun e W' ⟨he, bel⟩ => ?_
  subst he
  exact ⟨_, rfl, _, _, _, [], _, [], hW', trodAll_mk1 (shut_bool Try.underlying4 _), (trodAll_cons_mk (Below.trod laidOut (by kernel_rfl) (of_decide_eq_true (by kernel_rfl)) k0 bel lt0) trodAll_mk0), rfl, bel.frame _, fun h => by cases h⟩

theorem over : Rows.fnExactValidStateRow.holds Try.pinned (OpenSpec.ofChange Rows.fnExactValidStateSpec) :=
  OpenClaim.holds_of_wide 8 Try.f8 rfl rfl rfl rfl rfl rfl rfl ⟨rfl, rfl, rfl, rfl, rfl⟩ rfl rfl rfl rfl rfl (by kernel_rfl) Try.func8 (by kernel_rfl)
    (of_decide_eq_true (by kernel_rfl)) (by unfold Func.isWrapper; first | (rw [if_pos (by decide +kernel)]; kernel_rfl) | (rw [if_neg (by decide +kernel)]; exact ⟨rfl, rfl⟩))
    (fun os started H enc _ => lifted os started H enc)
end Go.Proofs.Ythghkfncpdnpoab.fnExactValidState
namespace Go.Proofs.Ythghkfncpdnpoab
theorem validState_holds : Rows.FnExactValidStateSaid := fnExactValidState.over
#print axioms validState_holds
end Go.Proofs.Ythghkfncpdnpoab
