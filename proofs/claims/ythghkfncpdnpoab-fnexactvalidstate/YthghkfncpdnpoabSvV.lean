/-
  Own work: ValidState, by the model.
-/
import Derived.Test.YthghkfncpdnpoabSvS
namespace Go.Proofs.Ythghkfncpdnpoab
open Go.ChangeShapes Go.WideShapes Go.ChangeAt Go.RowKit
set_option linter.unusedVariables false

theorem below_dq {B : Nat} {a w : World} (h : Below B a w) (n : Nat) : Below B a (w.drewN n) := ⟨h.os, h.tape, h.output, h.size, h.block⟩
/-- The state's box and what else stands. -/
structure VSE (w : World) (sc : Array Value) (wr : World) : Prop where
  below : Below w.heap.size w wr
  box : wr.heap[w.heap.size]? = some (.cells sc 60 (0, 0))
theorem VSE.lt {w wr : World} {sc : Array Value} (h : VSE w sc wr) : w.heap.size < wr.heap.size := (Array.getElem?_eq_some_iff.1 h.box).1
theorem VSE.call {w wr w' : World} {sc : Array Value} (h : VSE w sc wr) (b : Below wr.heap.size wr w') : VSE w sc w' := ⟨h.below.trans (b.mono h.below.size), by rw [b.block _ h.lt]; exact h.box⟩
theorem VSE.drew {w wr : World} {sc : Array Value} (h : VSE w sc wr) (q : Nat) : VSE w sc (wr.drewN q) := ⟨below_dq h.below q, h.box⟩

set_option maxRecDepth 100000 in
set_option maxHeartbeats 8000000 in
theorem svs_any (aD aU aT : Option Addr) (nD cD nU cU nT cT : Nat) (D U : List Int) (k : Int) (T : List Int) (w : World) (hD : D.length = nD) (hU : U.length = nU) (hT : T.length = nT * 2) (mD : nD ≤ 1048576) (mU : nU ≤ 1048576) (mT : nT ≤ 1048576)
    (haD : At .i64 w aD D) (haU : At .i64 w aU U) (haT : At .i64 w aT T) (hk0 : -9223372036854775808 ≤ k) (hk1 : k < 9223372036854775808) :
    Calls Try.prog 32 #[.agg #[.slice aD nD cD, .slice aU nU cU, .int .i64 k, .slice aT nT cT]] w fun e w' => e = .returned (.bool (stB D U k T nT)) ∧ Below w.heap.size w w' := by
  have HE0 : Hid (VSE w #[.slice aD nD cD, .slice aU nU cU, .int .i64 k, .slice aT nT cT] (w.alloc (.cells #[.slice aD nD cD, .slice aU nU cU, .int .i64 k, .slice aT nT cT] 60))) := ⟨(Below.refl _ _).alloc (Nat.le_refl _) _, heap_alloc_new w _⟩
  have HAD : Hid (At .i64 w aD D) := haD
  have HAU : Hid (At .i64 w aU U) := haU
  have HAT : Hid (At .i64 w aT T) := haT
  have HLT : Hid (T.length = nT * 2) := hT
  have HLN : Hid (D.length = nD ∧ U.length = nU) := ⟨hD, hU⟩
  have HKB : Hid (-9223372036854775808 ≤ k ∧ k < 9223372036854775808) := ⟨hk0, hk1⟩
  clear haD haU haT hT hD hU hk0 hk1
  go_enter Try.func32, Try.ntmps32
  go_wp2_with fail
  generalize (w.alloc (.cells #[.slice aD nD cD, .slice aU nU cU, .int .i64 k, .slice aT nT cT] 60)) = w0 at *
  refine (serials_any aD nD cD D _ HLN.out.1 mD (HAD.out.below HE0.out.below)).mono ?_
  rintro e w1' ⟨rfl, q1, rfl⟩
  have HE1 : Hid (VSE w #[.slice aD nD cD, .slice aU nU cU, .int .i64 k, .slice aT nT cT] (w0.drewN q1)) := HE0.out.drew q1
  clear HE0
  generalize w0.drewN q1 = w1 at *
  have HB : Hid (Below w.heap.size w w1) := HE1.out.below
  have c0 : w1.cell? ⟨w.heap.size, 0, none⟩ = some (.slice aD nD cD) := by rw [cell_of_row w1 w.heap.size 0 _ _ _ HE1.out.box]; rfl
  have c1 : w1.cell? ⟨w.heap.size, 1, none⟩ = some (.slice aU nU cU) := by rw [cell_of_row w1 w.heap.size 1 _ _ _ HE1.out.box]; rfl
  cases hsD : serB D with
  | false =>
    have HPD : Hid (¬ SerP D) := fun h => by rw [serB_yes h] at hsD; cases hsD
    have HFB : Hid (stB D U k T nT = false) := stB_no (fun h => HPD.out h.1)
    go_wp2
    go_ret
    exact ⟨by rw [HFB.out]; rfl, HB.out⟩
  | true =>
  have HPD : Hid (SerP D) := (serB_iff D).1 hsD
  by_cases h16 : nD ≤ 16
  · have h16' : decide ((16 : Int) < (nD : Int)) = false := decide_eq_false (by omega)
    go_wp2_with fail
    refine (serials_any aU nU cU U _ HLN.out.2 mU (HAU.out.below HE1.out.below)).mono ?_
    rintro e w2' ⟨rfl, q2, rfl⟩
    have HE2 : Hid (VSE w #[.slice aD nD cD, .slice aU nU cU, .int .i64 k, .slice aT nT cT] (w1.drewN q2)) := HE1.out.drew q2
    clear HE1 HB c0 c1
    generalize w1.drewN q2 = w2 at *
    have HB : Hid (Below w.heap.size w w2) := HE2.out.below
    have c1 : w2.cell? ⟨w.heap.size, 1, none⟩ = some (.slice aU nU cU) := by rw [cell_of_row w2 w.heap.size 1 _ _ _ HE2.out.box]; rfl
    have c2 : w2.cell? ⟨w.heap.size, 2, none⟩ = some (.int .i64 k) := by rw [cell_of_row w2 w.heap.size 2 _ _ _ HE2.out.box]; rfl
    have c3 : w2.cell? ⟨w.heap.size, 3, none⟩ = some (.slice aT nT cT) := by rw [cell_of_row w2 w.heap.size 3 _ _ _ HE2.out.box]; rfl
    cases hsU : serB U with
    | false =>
      have HPU : Hid (¬ SerP U) := fun h => by rw [serB_yes h] at hsU; cases hsU
      have HFB : Hid (stB D U k T nT = false) := stB_no (fun h => HPU.out h.2.2.1)
      go_wp2
      go_ret
      exact ⟨by rw [HFB.out]; rfl, HB.out⟩
    | true =>
    have HPU : Hid (SerP U) := (serB_iff U).1 hsU
    by_cases hk : k < 0
    · have HK9 : Hid (k < 0) := hk
      have hkb : decide (k < 0) = true := decide_eq_true hk
      clear hk c1 c3
      have HFB : Hid (stB D U k T nT = false) := stB_no (fun h => by have := h.2.2.2.1; have := HK9.out; omega)
      go_wp2
      go_ret
      exact ⟨by rw [HFB.out]; rfl, HB.out⟩
    · have HK9 : Hid (0 ≤ k) := by show _ ≤ _; omega
      have hkb : decide (k < 0) = false := decide_eq_false hk
      by_cases hka : k + (nT : Int) = nU
      · have HKA : Hid (k + nT = U.length) := by show _ = _; rw [HLN.out.2]; exact hka
        have hwr : IntKind.i64.wrap (k + (nT : Int)) = (nU : Int) := by rw [IntKind.wrap_i64]; omega
        have hwr2 : wrap64 (k + (nT : Int)) = (nU : Int) := by unfold wrap64; omega
        clear hka hk
        go_wp2_with fail
        clear HB c1 c2 c3 hwr hwr2 hkb h16' hsD hsU
        go_loopw [3] (fun i wr => ∃ m : Nat, m ≤ nT ∧ i = .int .i64 m ∧ VSE w #[.slice aD nD cD, .slice aU nU cU, .int .i64 k, .slice aT nT cT] wr ∧ Hid (∀ j, j < m → tapI U T j)) (fun i _ => nT - (intOf i).toNat)
        case atStart => exact ⟨0, Nat.zero_le _, rfl, HE2.out, fun j hj => by omega⟩
        case round =>
          clear HE2
          obtain ⟨m, hm, rfl, hE, hno⟩ := hrel
          have c1 : wr.cell? ⟨w.heap.size, 1, none⟩ = some (.slice aU nU cU) := by rw [cell_of_row wr w.heap.size 1 _ _ _ hE.box]; rfl
          have c3 : wr.cell? ⟨w.heap.size, 3, none⟩ = some (.slice aT nT cT) := by rw [cell_of_row wr w.heap.size 3 _ _ _ hE.box]; rfl
          have HE : Hid (VSE w #[.slice aD nD cD, .slice aU nU cU, .int .i64 k, .slice aT nT cT] wr) := hE
          clear hE
          by_cases hlt : m < nT
          · have hlt' : (m : Int) < nT := by omega
            obtain ⟨b, off, ea, hb, hc⟩ := (HAT.out.below HE.out.below).get (by have := HLT.out; omega)
            have t0 := hc (m * 2) (by have := HLT.out; omega)
            have t1 := hc (m * 2 + 1) (by have := HLT.out; omega)
            rw [← Nat.add_assoc] at t1
            subst ea
            have HCT : Hid (∀ j, j < nT → wr.cell? ⟨b, off + j * 2, none⟩ = some (.int .i64 (T.getD (j * 2) 0))) := fun j hj => hc (j * 2) (by have := HLT.out; omega)
            have HBL : Hid (b < wr.heap.size) := hb
            have HTI : Hid (tapI U T m ↔ (T.getD (m * 2) 0 ∈ U ∧ (0 ≤ T.getD (m * 2 + 1) 0 ∧ T.getD (m * 2 + 1) 0 ≤ 4294967295) ∧ ∀ j, j < m → T.getD (j * 2) 0 ≠ T.getD (m * 2) 0)) := Iff.rfl
            generalize T.getD (m * 2) 0 = s at *
            generalize T.getD (m * 2 + 1) 0 = nw at *
            have b1 : Below wr.heap.size wr (wr.alloc (.cells #[.int .i64 s, .int .i64 nw] 99)) := (Below.refl _ _).alloc (Nat.le_refl _) _
            have HEW : Hid (VSE w #[.slice aD nD cD, .slice aU nU cU, .int .i64 k, .slice (some ⟨b, off, none⟩) nT cT] (wr.alloc (.cells #[.int .i64 s, .int .i64 nw] 99))) := HE.out.call b1
            have HBW : Hid (Below w.heap.size w (wr.alloc (.cells #[.int .i64 s, .int .i64 nw] 99))) := HEW.out.below
            have HRT : Hid ((wr.alloc (.cells #[.int .i64 s, .int .i64 nw] 99)).heap[wr.heap.size]? = some (.cells #[.int .i64 s, .int .i64 nw] 99 (0, 0))) := heap_alloc_new wr _
            have HCW : Hid (∀ j, j < nT → (wr.alloc (.cells #[.int .i64 s, .int .i64 nw] 99)).cell? ⟨b, off + j * 2, none⟩ = some (.int .i64 (T.getD (j * 2) 0))) := fun j hj => by rw [b1.cell (p := ⟨b, off + j * 2, none⟩) HBL.out]; exact HCT.out j hj
            have d1 : (wr.alloc (.cells #[.int .i64 s, .int .i64 nw] 99)).cell? ⟨w.heap.size, 1, none⟩ = some (.slice aU nU cU) := by rw [cell_of_row _ w.heap.size 1 _ _ _ HEW.out.box]; rfl
            have d3 : (wr.alloc (.cells #[.int .i64 s, .int .i64 nw] 99)).cell? ⟨w.heap.size, 3, none⟩ = some (.slice (some ⟨b, off, none⟩) nT cT) := by rw [cell_of_row _ w.heap.size 3 _ _ _ HEW.out.box]; rfl
            clear hc hb b1 HCT
            by_cases hn0 : nw < 0
            · have hn0' : decide (nw < 0) = true := decide_eq_true hn0
              have HX : Hid (nw < 0) := hn0
              clear hn0
              have HFB : Hid (stB D U k T nT = false) := stB_no (fun h => by have := (HTI.out.1 (h.2.2.2.2.2 m hlt)).2.1.1; have := HX.out; omega)
              go_wp2
              go_ret
              exact ⟨by rw [HFB.out]; rfl, HBW.out⟩
            · have hn0' : decide (nw < 0) = false := decide_eq_false hn0
              by_cases hn1 : 4294967295 < nw
              · have hn1' : decide (4294967295 < nw) = true := decide_eq_true hn1
                have HX : Hid (4294967295 < nw) := hn1
                clear hn1 hn0
                have HFB : Hid (stB D U k T nT = false) := stB_no (fun h => by have := (HTI.out.1 (h.2.2.2.2.2 m hlt)).2.1.2; have := HX.out; omega)
                go_wp2
                go_ret
                exact ⟨by rw [HFB.out]; rfl, HBW.out⟩
              · have hn1' : decide (4294967295 < nw) = false := decide_eq_false hn1
                have HNW : Hid (0 ≤ nw ∧ nw ≤ 4294967295) := ⟨by omega, by omega⟩
                clear hn0 hn1
                go_wp2_with fail
                refine (holds_any aU nU cU U s _ HLN.out.2 mU (HAU.out.below HBW.out)).mono ?_
                rintro e w5 ⟨rfl, rfl⟩
                by_cases hin : s ∈ U
                · rw [memB_yes hin]
                  have HIN : Hid (s ∈ U) := hin
                  clear hin
                  have d0 : (wr.alloc (.cells #[.int .i64 s, .int .i64 nw] 99)).cell? ⟨wr.heap.size, 0, none⟩ = some (.int .i64 s) := by rw [cell_of_row _ wr.heap.size 0 _ _ _ HRT.out]; rfl
                  have t0' := HCW.out m hlt
                  clear t0 t1 t0' c1 c3
                  go_wp2_with fail
                  generalize wr.alloc (.cells #[.int .i64 s, .int .i64 nw] 99) = W at *
                  go_loopw [5] (fun i wq => ∃ j : Nat, j ≤ m ∧ i = .int .i64 j ∧ Hid (∃ p, wq = W.drewN p) ∧ Hid (∀ l, l < j → T.getD (l * 2) 0 ≠ s)) (fun i _ => m - (intOf i).toNat)
                  case atStart => exact ⟨0, Nat.zero_le _, rfl, ⟨0, rfl⟩, fun l hl => by omega⟩
                  case round =>
                    obtain ⟨j, hj, rfl, hwp, hne⟩ := hrel
                    obtain ⟨p, rfl⟩ := hwp.out
                    clear hwp
                    by_cases hjm : j < m
                    · have hjm' : (j : Int) < m := by omega
                      have hjn : (j : Int) < nT := by omega
                      have tj := HCW.out j (by omega)
                      by_cases hes : T.getD (j * 2) 0 = s
                      · have HX : Hid (T.getD (j * 2) 0 = s) := hes
                        have HBQ : Hid (∀ n, Below w.heap.size w ((W.drewN p).drewN n)) := fun n => below_dq (below_dq HBW.out p) n
                        rw [hes] at tj
                        clear hes
                        have HFB : Hid (stB D U k T nT = false) := stB_no (fun h => (HTI.out.1 (h.2.2.2.2.2 m hlt)).2.2 j hjm HX.out)
                        go_wp2_with fail
                        go_quiet (fail)
                        go_wp2
                        go_ret
                        exact ⟨by rw [HFB.out]; rfl, by first | exact HBQ.out _ | exact below_dq HBW.out _⟩
                      · have HN : Hid (∀ l, l < j + 1 → T.getD (l * 2) 0 ≠ s) := fun l hl => by
                          by_cases hlj : l < j
                          · exact hne.out l hlj
                          · have : l = j := by omega
                            rw [this]; exact hes
                        have hes' : (T.getD (j * 2) 0 == s) = false := by simpa using hes
                        clear hes hne
                        generalize T.getD (j * 2) 0 = y at *
                        go_wp2_with fail
                        go_quiet (fail)
                        go_wp2
                        go_roundw
                        case rel => exact ⟨j + 1, by omega, by go_num, by first | exact ⟨_, rfl⟩ | exact ⟨_, dN _ _ _⟩, HN⟩
                        case measure => simp [intOf]; omega
                    · have hjm' : ¬ ((j : Int) < m) := by omega
                      have HN : Hid (∀ l, l < m + 1 → tapI U T l) := fun l hl => by
                        by_cases hlm : l < m
                        · exact hno.out l hlm
                        · have e : l = m := by omega
                          subst e
                          exact HTI.out.2 ⟨HIN.out, HNW.out, fun l' hl' => hne.out l' (by omega)⟩
                      have HEQ : Hid (VSE w #[.slice aD nD cD, .slice aU nU cU, .int .i64 k, .slice (some ⟨b, off, none⟩) nT cT] (W.drewN p)) := HEW.out.drew p
                      go_wp2
                      go_roundw
                      case rel => exact ⟨m + 1, by omega, by go_num, HEQ.out, HN⟩
                      case measure => simp [intOf]; omega
                · rw [memB_no hin]
                  have HIN : Hid (¬ s ∈ U) := hin
                  clear hin
                  have HFB : Hid (stB D U k T nT = false) := stB_no (fun h => HIN.out (HTI.out.1 (h.2.2.2.2.2 m hlt)).1)
                  go_wp2
                  go_ret
                  exact ⟨by rw [HFB.out]; rfl, HBW.out⟩
          · have hlt' : ¬ ((m : Int) < nT) := by omega
            have HYE : Hid (stB D U k T nT = true) := stB_yes ⟨HPD.out, by rw [HLN.out.1]; exact h16, HPU.out, HK9.out, HKA.out, fun i hi => hno.out i (by omega)⟩
            have HBW : Hid (Below w.heap.size w wr) := HE.out.below
            go_wp2
            go_ret
            exact ⟨by rw [HYE.out]; rfl, HBW.out⟩
      · have HKN : Hid (¬ k + (nT : Int) = nU) := hka
        have hwr : (IntKind.i64.wrap (k + (nT : Int)) == (nU : Int)) = false := by
          have := HKB.out
          simp only [beq_eq_false_iff_ne, ne_eq]; rw [IntKind.wrap_i64]; omega
        have hwr2 : (wrap64 (k + (nT : Int)) == (nU : Int)) = false := by
          have := HKB.out
          simp only [beq_eq_false_iff_ne, ne_eq]; unfold wrap64; omega
        clear hka hk
        have HFB : Hid (stB D U k T nT = false) := stB_no (fun h => by have := h.2.2.2.2.1; rw [HLN.out.2] at this; exact HKN.out this)
        go_wp2
        go_ret
        exact ⟨by rw [HFB.out]; rfl, HB.out⟩
  · have h16' : decide ((16 : Int) < (nD : Int)) = true := decide_eq_true (by omega)
    have HFB : Hid (stB D U k T nT = false) := stB_no (fun h => by have := h.2.1; rw [HLN.out.1] at this; omega)
    go_wp2
    go_ret
    exact ⟨by rw [HFB.out]; rfl, HB.out⟩
end Go.Proofs.Ythghkfncpdnpoab
