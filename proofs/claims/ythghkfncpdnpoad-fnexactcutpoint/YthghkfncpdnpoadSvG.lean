/-
  Own work: comparisons of taps, copies and comparisons of states, as the laws make them (written by wip/mksg.py).
-/
import Derived.Test.YthghkfncpdnpoadSvF
namespace Go.Proofs.Ythghkfncpdnpoad
open Go.ChangeShapes Go.WideShapes Go.ChangeAt Go.RowKit
set_option linter.unusedVariables false

set_option maxRecDepth 100000 in
set_option maxHeartbeats 2000000 in
theorem eqTS_any (a a' : Option Addr) (n c c' : Nat) (T : List Int) (w : World) (hl : T.length = n * 2) (hn : n ≤ 1048576) (ha : At .i64 w a T) (ha' : At .i64 w a' T) :
    Calls Try.prog 51 #[.slice a n c, .slice a' n c'] w fun e w' => e = .returned (.bool true) ∧ Below w.heap.size w w' := by
  have h0 : ((n : Int) != (n : Int)) = false := by simp
  have HLT : Hid (T.length = n * 2) := hl
  have HA : Hid (At .i64 w a T) := ha
  have HA' : Hid (At .i64 w a' T) := ha'
  clear hl ha ha'
  go_enter Try.func51, Try.ntmps51
  go_wp2
  go_loopw [5] (fun i wr => ∃ k : Nat, k ≤ n ∧ i = .int .i64 k ∧ Below w.heap.size w wr) (fun i _ => n - (intOf i).toNat)
  case atStart => exact ⟨0, Nat.zero_le _, rfl, Below.refl _ _⟩
  case round =>
    obtain ⟨k, hk, rfl, hbel⟩ := hrel
    have HB : Hid (Below w.heap.size w wr) := hbel
    by_cases hlt : k < n
    · have hlt' : (k : Int) < n := by omega
      obtain ⟨b, o, ea, hb, hc⟩ := (HA.out.below hbel).get (by have := HLT.out; omega)
      obtain ⟨b', o', ea', hb', hc'⟩ := (HA'.out.below hbel).get (by have := HLT.out; omega)
      have t0 := hc (k * 2) (by have := HLT.out; omega)
      have t1 := hc (k * 2 + 1) (by have := HLT.out; omega)
      have u0 := hc' (k * 2) (by have := HLT.out; omega)
      have u1 := hc' (k * 2 + 1) (by have := HLT.out; omega)
      rw [← Nat.add_assoc] at t1 u1
      subst ea ea'
      clear hc hc' hbel
      generalize T.getD (k * 2) 0 = s at *
      generalize T.getD (k * 2 + 1) 0 = nw at *
      have HC1 : Hid (b < wr.heap.size ∧ wr.cell? ⟨b, o + k * 2, none⟩ = some (.int .i64 s) ∧ wr.cell? ⟨b, o + k * 2 + 1, none⟩ = some (.int .i64 nw)) := ⟨hb, t0, t1⟩
      have HC2 : Hid (b' < wr.heap.size ∧ wr.cell? ⟨b', o' + k * 2, none⟩ = some (.int .i64 s) ∧ wr.cell? ⟨b', o' + k * 2 + 1, none⟩ = some (.int .i64 nw)) := ⟨hb', u0, u1⟩
      clear hb hb' t0 t1 u0 u1
      go_wp2_with fail
      refine wp_region_any (by kernel_rfl) ?_
      refine wpAny_slotsG (fun _ _ _ => True) (frame := (fun (c0 c1 c2 c3 c4 c5 c6 c7 c8 c9 c10 c11 c12 c13 c14 c15 c16 : Value) => fun (t : Nat → Value) => ({ tmps := List.toArray (c0 :: c1 :: c2 :: c3 :: c4 :: c5 :: c6 :: c7 :: c8 :: c9 :: c10 :: c11 :: c12 :: c13 :: c14 :: c15 :: c16 :: t 0 :: t 1 :: t 2 :: t 3 :: t 4 :: t 5 :: t 6 :: t 7 :: t 8 :: t 9 :: []), defers := [] } : Act)) _ _ _ _ _ _ _ _ _ _ _ _ _ _ _ _ _)
        (Ext := fun L w' => Below wr.heap.size wr w') (Good := fun i L w' v => if i = 0 then v = .slice (some ⟨b, o, none⟩) n c else if i = 1 then v = .int .i64 k else if i = 2 then v = .pointer (some ⟨b, o + k * 2, none⟩) else if i = 3 then v = .agg #[.int .i64 s, .int .i64 nw] else if i = 4 then v = .slice (some ⟨b', o', none⟩) n c' else if i = 5 then v = .int .i64 k else if i = 6 then v = .pointer (some ⟨b', o' + k * 2, none⟩) else if i = 7 then v = .agg #[.int .i64 s, .int .i64 nw] else if i = 8 then v = .bool true else if i = 9 then v = .bool false else True) (fun j L w9 w' i v _ _ _ h => h) (by kernel_rfl) ?hop ?hdone _ _ ((fun (x0 x1 x2 x3 x4 x5 x6 x7 x8 x9 : Value) => fun (i : Nat) => if i = 0 then x0 else if i = 1 then x1 else if i = 2 then x2 else if i = 3 then x3 else if i = 4 then x4 else if i = 5 then x5 else if i = 6 then x6 else if i = 7 then x7 else if i = 8 then x8 else if i = 9 then x9 else undef) _ _ _ _ _ _ _ _ _ _) _ (by simp) ?ext ?start (by simp)
      case start => intro i hi h; exact absurd h (by rw [Array.getD_eq_getD_getElem?, Array.getElem?_replicate]; split <;> simp)
      case ext => exact ⟨rfl, rfl, rfl, Nat.le_refl _, fun _ _ => rfl⟩
      case hop =>
        intro i o L t w' ho hLi hx hdep K hK
        have hi : i < 10 := (Array.getElem?_eq_some_iff.1 ho).1
        obtain rfl | rfl | rfl | rfl | rfl | rfl | rfl | rfl | rfl | rfl : i = 0 ∨ i = 1 ∨ i = 2 ∨ i = 3 ∨ i = 4 ∨ i = 5 ∨ i = 6 ∨ i = 7 ∨ i = 8 ∨ i = 9 := by omega
        all_goals (simp at ho; subst ho)
        · clear hdep
          have hK' := hK w' (.slice (some ⟨b, o, none⟩) n c) (by simp) hx trivial
          clear hK
          rw [if_pos (by rfl)]
          go_simp
          simpa [upd] using hK'
        · clear hdep
          have hK' := hK w' (.int .i64 k) (by simp) hx trivial
          clear hK
          rw [if_pos (by rfl)]
          go_simp
          simpa [upd] using hK'
        · have d0 : t 0 = .slice (some ⟨b, o, none⟩) n c := by simpa using hdep ⟨0, .data⟩ (by simp) rfl
          have d1 : t 1 = .int .i64 k := by simpa using hdep ⟨1, .data⟩ (by simp) rfl
          clear hdep
          have hK' := hK w' (.pointer (some ⟨b, o + k * 2, none⟩)) (by simp) hx trivial
          clear hK
          rw [if_pos (by rfl)]
          go_simp
          simpa [upd, d0, d1] using hK'
        · have d2 : t 2 = .pointer (some ⟨b, o + k * 2, none⟩) := by simpa using hdep ⟨2, .data⟩ (by simp) rfl
          clear hdep
          have q0 : w'.cell? ⟨b, o + k * 2, none⟩ = some (.int .i64 s) := by rw [hx.cell (p := ⟨b, o + k * 2, none⟩) HC1.out.1]; exact HC1.out.2.1
          have q1 : w'.cell? ⟨b, o + k * 2 + 1, none⟩ = some (.int .i64 nw) := by rw [hx.cell (p := ⟨b, o + k * 2 + 1, none⟩) HC1.out.1]; exact HC1.out.2.2
          have hK' := hK w' (.agg #[.int .i64 s, .int .i64 nw]) (by simp) hx trivial
          clear hK
          rw [if_pos (by rfl)]
          go_simp
          simpa [upd, d2] using hK'
        · clear hdep
          have hK' := hK w' (.slice (some ⟨b', o', none⟩) n c') (by simp) hx trivial
          clear hK
          rw [if_pos (by rfl)]
          go_simp
          simpa [upd] using hK'
        · clear hdep
          have hK' := hK w' (.int .i64 k) (by simp) hx trivial
          clear hK
          rw [if_pos (by rfl)]
          go_simp
          simpa [upd] using hK'
        · have d4 : t 4 = .slice (some ⟨b', o', none⟩) n c' := by simpa using hdep ⟨4, .data⟩ (by simp) rfl
          have d5 : t 5 = .int .i64 k := by simpa using hdep ⟨5, .data⟩ (by simp) rfl
          clear hdep
          have hK' := hK w' (.pointer (some ⟨b', o' + k * 2, none⟩)) (by simp) hx trivial
          clear hK
          rw [if_pos (by rfl)]
          go_simp
          simpa [upd, d4, d5] using hK'
        · have d6 : t 6 = .pointer (some ⟨b', o' + k * 2, none⟩) := by simpa using hdep ⟨6, .data⟩ (by simp) rfl
          clear hdep
          have q0 : w'.cell? ⟨b', o' + k * 2, none⟩ = some (.int .i64 s) := by rw [hx.cell (p := ⟨b', o' + k * 2, none⟩) HC2.out.1]; exact HC2.out.2.1
          have q1 : w'.cell? ⟨b', o' + k * 2 + 1, none⟩ = some (.int .i64 nw) := by rw [hx.cell (p := ⟨b', o' + k * 2 + 1, none⟩) HC2.out.1]; exact HC2.out.2.2
          have hK' := hK w' (.agg #[.int .i64 s, .int .i64 nw]) (by simp) hx trivial
          clear hK
          rw [if_pos (by rfl)]
          go_simp
          simpa [upd, d6] using hK'
        · have d3 : t 3 = .agg #[.int .i64 s, .int .i64 nw] := by simpa using hdep ⟨3, .data⟩ (by simp) rfl
          have d7 : t 7 = .agg #[.int .i64 s, .int .i64 nw] := by simpa using hdep ⟨7, .data⟩ (by simp) rfl
          clear hdep
          have A := eqT1_any s nw w'
          have hK' : ∀ ww, Below w'.heap.size w' ww → K _ ww := fun ww hb => hK ww (.bool true) (by simp) (hx.trans (hb.mono hx.size)) trivial
          clear hK
          rw [if_pos (by rfl)]
          go_simp
          try simp only [d3, d7]
          refine A.mono ?_
          rintro e w9 ⟨rfl, hb⟩
          have hK2 := hK' w9 hb
          clear hK' A hb
          go_simp
          simpa [upd, d3, d7] using hK2
        · have d8 : t 8 = .bool true := by simpa using hdep ⟨8, .data⟩ (by simp) rfl
          clear hdep
          have hK' := hK w' (.bool false) (by simp) hx trivial
          clear hK
          rw [if_pos (by rfl)]
          go_simp
          simpa [upd, d8] using hK'
      case hdone =>
        intro L t w' hx hg
        have d9 : t 9 = .bool false := by simpa using hg 9 (by decide)
        clear hg
        have HBW : Hid (Below w.heap.size w w') := HB.out.trans (hx.mono HB.out.size)
        simp only [d9]
        clear hx d9
        go_wp2
        go_roundw
        case rel => exact ⟨k + 1, by omega, by go_num, HBW.out⟩
        case measure => simp [intOf]; omega
    · have hlt' : ¬ ((k : Int) < n) := by omega
      clear hbel
      go_wp2
      go_ret
      exact ⟨rfl, HB.out⟩
/-- The two states in memory while one is copied. -/
structure TSE (w : World) (sc vs : Array Value) (wr : World) : Prop where
  below : Below w.heap.size w wr
  box : wr.heap[w.heap.size]? = some (.cells sc 29 (0, 0))
  res : wr.heap[w.heap.size + 1]? = some (.cells #[.slice none 0 0, .slice none 0 0, .int .i64 0, .slice none 0 0] 38 (0, 0))
  var : wr.heap[w.heap.size + 1 + 1]? = some (.cells vs 38 (0, 0))
theorem TSE.lt {w wr : World} {sc vs : Array Value} (h : TSE w sc vs wr) : w.heap.size + 1 + 1 < wr.heap.size := (Array.getElem?_eq_some_iff.1 h.var).1
theorem TSE.call {w wr w' : World} {sc vs : Array Value} (h : TSE w sc vs wr) (b : Below wr.heap.size wr w') : TSE w sc vs w' := by
  have := h.lt
  exact ⟨h.below.trans (b.mono h.below.size), by rw [b.block _ (by omega)]; exact h.box, by rw [b.block _ (by omega)]; exact h.res, by rw [b.block _ (by omega)]; exact h.var⟩
theorem TSE.put {w wr : World} {sc vs : Array Value} (h : TSE w sc vs wr) (i : Nat) (v : Value) : TSE w sc (vs.setIfInBounds i v) (wr.setCell ⟨w.heap.size + 1 + 1, i, none⟩ v) := by
  have hw : Wr (w.heap.size + 1 + 1) wr (wr.setCell ⟨w.heap.size + 1 + 1, i, none⟩ v) := (Wr.refl _ _).setCell _ _
  exact ⟨h.below.trans (hw.below (by omega)), (hw.block _ (by omega)).trans h.box, (hw.block _ (by omega)).trans h.res, heap_setCell_same _ _ _ _ _ _ h.var⟩
theorem At.wrX {w w' : World} {g V : Nat} {xs : List Int} (h : At .i64 w (some ⟨g, 0, none⟩) xs) (hw : Wr V w w') (hne : g ≠ V) : At .i64 w' (some ⟨g, 0, none⟩) xs := by
  rcases h with h | ⟨b, off, e, hl, hc⟩
  · exact .inl h
  · cases e
    exact .inr ⟨g, 0, rfl, by rw [hw.size]; exact hl, fun i hi => by rw [World.cell?_of_block (a := ⟨g, 0 + i, none⟩) (w := w) (hw.block g hne)]; exact hc i hi⟩

set_option maxRecDepth 100000 in
set_option maxHeartbeats 4000000 in
theorem toS_any (aD aU aT : Option Addr) (nD cD nU cU nT cT : Nat) (D U : List Int) (k : Int) (T : List Int) (w : World) (hD : D.length = nD) (hU : U.length = nU) (hT : T.length = nT * 2) (mD : nD ≤ 1048576) (mU : nU ≤ 1048576) (mT : nT ≤ 1048576)
    (haD : At .i64 w aD D) (haU : At .i64 w aU U) (haT : At .i64 w aT T) :
    Calls Try.prog 13 #[.agg #[.slice aD nD cD, .slice aU nU cU, .int .i64 k, .slice aT nT cT]] w (ToS w D U k T nD nU nT) := by
  have HEV : Hid (TSE w #[.slice aD nD cD, .slice aU nU cU, .int .i64 k, .slice aT nT cT] #[.slice none 0 0, .slice none 0 0, .int .i64 0, .slice none 0 0] (((w.alloc (.cells #[.slice aD nD cD, .slice aU nU cU, .int .i64 k, .slice aT nT cT] 29)).alloc (.cells #[.slice none 0 0, .slice none 0 0, .int .i64 0, .slice none 0 0] 38)).alloc (.cells #[.slice none 0 0, .slice none 0 0, .int .i64 0, .slice none 0 0] 38))) := by
    refine ⟨(((Below.refl _ _).alloc (Nat.le_refl _) _).alloc (by simp) _).alloc (by simp; omega) _, ?_, ?_, ?_⟩
    · rw [Below.heap_alloc _ _ w.heap.size (by simp; omega), Below.heap_alloc _ _ w.heap.size (by simp)]; exact heap_alloc_new w _
    · rw [Below.heap_alloc _ _ (w.heap.size + 1) (by simp)]
      have := heap_alloc_new (w.alloc (.cells #[.slice aD nD cD, .slice aU nU cU, .int .i64 k, .slice aT nT cT] 29)) (.cells #[.slice none 0 0, .slice none 0 0, .int .i64 0, .slice none 0 0] 38)
      rwa [show (w.alloc (.cells #[.slice aD nD cD, .slice aU nU cU, .int .i64 k, .slice aT nT cT] 29)).heap.size = w.heap.size + 1 by simp] at this
    · have := heap_alloc_new ((w.alloc (.cells #[.slice aD nD cD, .slice aU nU cU, .int .i64 k, .slice aT nT cT] 29)).alloc (.cells #[.slice none 0 0, .slice none 0 0, .int .i64 0, .slice none 0 0] 38)) (.cells #[.slice none 0 0, .slice none 0 0, .int .i64 0, .slice none 0 0] 38)
      rwa [show ((w.alloc (.cells #[.slice aD nD cD, .slice aU nU cU, .int .i64 k, .slice aT nT cT] 29)).alloc (.cells #[.slice none 0 0, .slice none 0 0, .int .i64 0, .slice none 0 0] 38)).heap.size = w.heap.size + 1 + 1 by simp] at this
  have HAD : Hid (At .i64 w aD D) := haD
  have HAU : Hid (At .i64 w aU U) := haU
  have HAT : Hid (At .i64 w aT T) := haT
  have HLN : Hid (D.length = nD ∧ U.length = nU ∧ T.length = nT * 2) := ⟨hD, hU, hT⟩
  clear haD haU haT hD hU hT
  go_enter Try.func13, Try.ntmps13
  go_wp2_with fail
  generalize (((w.alloc (.cells #[.slice aD nD cD, .slice aU nU cU, .int .i64 k, .slice aT nT cT] 29)).alloc (.cells #[.slice none 0 0, .slice none 0 0, .int .i64 0, .slice none 0 0] 38)).alloc (.cells #[.slice none 0 0, .slice none 0 0, .int .i64 0, .slice none 0 0] 38)) = w0 at *
  refine (toI_any aD nD cD D _ HLN.out.1 mD (HAD.out.below HEV.out.below)).mono ?_
  rintro e w1 ⟨rfl, ho, hb⟩
  have hA : At .i64 w1 (some ⟨w0.heap.size, 0, none⟩) D := by obtain ⟨a, cap, h, _, _, _, h'⟩ := At.of_owns ho; cases h; exact h'
  have HE1 : Hid (TSE w #[.slice aD nD cD, .slice aU nU cU, .int .i64 k, .slice aT nT cT] #[.slice none 0 0, .slice none 0 0, .int .i64 0, .slice none 0 0] w1) := HEV.out.call hb
  have hg1 : w.heap.size + 1 + 1 < w0.heap.size := HEV.out.lt
  have HD1 : Hid (At .i64 w1 (some ⟨w0.heap.size, 0, none⟩) D) := hA
  have v0 : w1.cell? ⟨w.heap.size + 1 + 1, 0, none⟩ = some (.slice none 0 0) := by rw [cell_of_row w1 _ 0 _ _ _ HE1.out.var]; rfl
  have f0 := frozen_of_row w1 (w.heap.size + 1 + 1) 0 _ _ HE1.out.var
  have x1 : (w1.setCell ⟨w.heap.size + 1 + 1, 0, none⟩ (.slice (some ⟨w0.heap.size, 0, none⟩) nD nD)).cell? ⟨w.heap.size, 1, none⟩ = some (.slice aU nU cU) := by rw [cell_of_row _ w.heap.size 1 _ _ _ (HE1.out.put 0 _).box]; rfl
  clear ho hb hA HEV
  go_wp2_with fail
  have HE2 : Hid (TSE w #[.slice aD nD cD, .slice aU nU cU, .int .i64 k, .slice aT nT cT] #[.slice (some ⟨w0.heap.size, 0, none⟩) nD nD, .slice none 0 0, .int .i64 0, .slice none 0 0] (w1.setCell ⟨w.heap.size + 1 + 1, 0, none⟩ (.slice (some ⟨w0.heap.size, 0, none⟩) nD nD))) := HE1.out.put 0 _
  have HD2 : Hid (At .i64 (w1.setCell ⟨w.heap.size + 1 + 1, 0, none⟩ (.slice (some ⟨w0.heap.size, 0, none⟩) nD nD)) (some ⟨w0.heap.size, 0, none⟩) D) := HD1.out.wrX ((Wr.refl _ _).setCell _ _) (by omega)
  clear HE1 HD1 v0 f0 x1
  generalize w0.heap.size = gD at *
  generalize w1.setCell ⟨w.heap.size + 1 + 1, 0, none⟩ (.slice (some ⟨gD, 0, none⟩) nD nD) = w2 at *
  refine (toI_any aU nU cU U _ HLN.out.2.1 mU (HAU.out.below HE2.out.below)).mono ?_
  rintro e w3 ⟨rfl, ho, hb⟩
  have hA : At .i64 w3 (some ⟨w2.heap.size, 0, none⟩) U := by obtain ⟨a, cap, h, _, _, _, h'⟩ := At.of_owns ho; cases h; exact h'
  have HE3 : Hid (TSE w #[.slice aD nD cD, .slice aU nU cU, .int .i64 k, .slice aT nT cT] #[.slice (some ⟨gD, 0, none⟩) nD nD, .slice none 0 0, .int .i64 0, .slice none 0 0] w3) := HE2.out.call hb
  have hg2 : w.heap.size + 1 + 1 < w2.heap.size := HE2.out.lt
  have HD3 : Hid (At .i64 w3 (some ⟨gD, 0, none⟩) D ∧ At .i64 w3 (some ⟨w2.heap.size, 0, none⟩) U) := ⟨HD2.out.below hb, hA⟩
  clear ho hb hA HE2 HD2
  generalize w2.heap.size = gU at *
  have hw4 : Wr (w.heap.size + 1 + 1) w3 ((w3.setCell ⟨w.heap.size + 1 + 1, 1, none⟩ (.slice (some ⟨gU, 0, none⟩) nU nU)).setCell ⟨w.heap.size + 1 + 1, 2, none⟩ (.int .i64 k)) := ((Wr.refl _ _).setCell _ _).setCell _ _
  have HE4 : Hid (TSE w #[.slice aD nD cD, .slice aU nU cU, .int .i64 k, .slice aT nT cT] #[.slice (some ⟨gD, 0, none⟩) nD nD, .slice (some ⟨gU, 0, none⟩) nU nU, .int .i64 k, .slice none 0 0] ((w3.setCell ⟨w.heap.size + 1 + 1, 1, none⟩ (.slice (some ⟨gU, 0, none⟩) nU nU)).setCell ⟨w.heap.size + 1 + 1, 2, none⟩ (.int .i64 k))) := (HE3.out.put 1 _).put 2 _
  have HD4 : Hid (At .i64 ((w3.setCell ⟨w.heap.size + 1 + 1, 1, none⟩ (.slice (some ⟨gU, 0, none⟩) nU nU)).setCell ⟨w.heap.size + 1 + 1, 2, none⟩ (.int .i64 k)) (some ⟨gD, 0, none⟩) D ∧ At .i64 ((w3.setCell ⟨w.heap.size + 1 + 1, 1, none⟩ (.slice (some ⟨gU, 0, none⟩) nU nU)).setCell ⟨w.heap.size + 1 + 1, 2, none⟩ (.int .i64 k)) (some ⟨gU, 0, none⟩) U) := ⟨HD3.out.1.wrX hw4 (by omega), HD3.out.2.wrX hw4 (by omega)⟩
  have v1 : w3.cell? ⟨w.heap.size + 1 + 1, 1, none⟩ = some (.slice none 0 0) := by rw [cell_of_row w3 _ 1 _ _ _ HE3.out.var]; rfl
  have f1 := frozen_of_row w3 (w.heap.size + 1 + 1) 1 _ _ HE3.out.var
  have v2 : w3.cell? ⟨w.heap.size + 1 + 1, 2, none⟩ = some (.int .i64 0) := by rw [cell_of_row w3 _ 2 _ _ _ HE3.out.var]; rfl
  have f2 := frozen_of_row w3 (w.heap.size + 1 + 1) 2 _ _ HE3.out.var
  have x2 : w3.cell? ⟨w.heap.size, 2, none⟩ = some (.int .i64 k) := by rw [cell_of_row w3 w.heap.size 2 _ _ _ HE3.out.box]; rfl
  have x3 : w3.cell? ⟨w.heap.size, 3, none⟩ = some (.slice aT nT cT) := by rw [cell_of_row w3 w.heap.size 3 _ _ _ HE3.out.box]; rfl
  clear hw4 HE3 HD3
  go_wp2_with fail
  generalize (w3.setCell ⟨w.heap.size + 1 + 1, 1, none⟩ (.slice (some ⟨gU, 0, none⟩) nU nU)).setCell ⟨w.heap.size + 1 + 1, 2, none⟩ (.int .i64 k) = w4 at *
  clear v1 f1 v2 f2 x2 x3
  refine (toT_any aT nT cT T _ HLN.out.2.2 mT (HAT.out.below HE4.out.below)).mono ?_
  rintro e w5 ⟨rfl, hA, hb⟩
  have HE5 : Hid (TSE w #[.slice aD nD cD, .slice aU nU cU, .int .i64 k, .slice aT nT cT] #[.slice (some ⟨gD, 0, none⟩) nD nD, .slice (some ⟨gU, 0, none⟩) nU nU, .int .i64 k, .slice none 0 0] w5) := HE4.out.call hb
  have hg3 : w.heap.size + 1 + 1 < w4.heap.size := HE4.out.lt
  have hw6 : Wr (w.heap.size + 1 + 1) w5 (w5.setCell ⟨w.heap.size + 1 + 1, 3, none⟩ (.slice (some ⟨w4.heap.size, 0, none⟩) nT nT)) := (Wr.refl _ _).setCell _ _
  have HE6 : Hid (TSE w #[.slice aD nD cD, .slice aU nU cU, .int .i64 k, .slice aT nT cT] #[.slice (some ⟨gD, 0, none⟩) nD nD, .slice (some ⟨gU, 0, none⟩) nU nU, .int .i64 k, .slice (some ⟨w4.heap.size, 0, none⟩) nT nT] (w5.setCell ⟨w.heap.size + 1 + 1, 3, none⟩ (.slice (some ⟨w4.heap.size, 0, none⟩) nT nT))) := HE5.out.put 3 _
  have HD6 : Hid (At .i64 (w5.setCell ⟨w.heap.size + 1 + 1, 3, none⟩ (.slice (some ⟨w4.heap.size, 0, none⟩) nT nT)) (some ⟨gD, 0, none⟩) D ∧ At .i64 (w5.setCell ⟨w.heap.size + 1 + 1, 3, none⟩ (.slice (some ⟨w4.heap.size, 0, none⟩) nT nT)) (some ⟨gU, 0, none⟩) U ∧ At .i64 (w5.setCell ⟨w.heap.size + 1 + 1, 3, none⟩ (.slice (some ⟨w4.heap.size, 0, none⟩) nT nT)) (some ⟨w4.heap.size, 0, none⟩) T) :=
    ⟨(HD4.out.1.below hb).wrX hw6 (by omega), (HD4.out.2.below hb).wrX hw6 (by omega), hA.wrX hw6 (by omega)⟩
  have v3 : w5.cell? ⟨w.heap.size + 1 + 1, 3, none⟩ = some (.slice none 0 0) := by rw [cell_of_row w5 _ 3 _ _ _ HE5.out.var]; rfl
  have f3 := frozen_of_row w5 (w.heap.size + 1 + 1) 3 _ _ HE5.out.var
  have HSZ : Hid ((Try.prog.info? 38).map (·.size) = some 4) := by show _ = _; kernel_rfl
  have HVR : Hid ((w5.setCell ⟨w.heap.size + 1 + 1, 3, none⟩ (.slice (some ⟨w4.heap.size, 0, none⟩) nT nT)).heap[w.heap.size + 1 + 1]? = some (.cells #[.slice (some ⟨gD, 0, none⟩) nD nD, .slice (some ⟨gU, 0, none⟩) nU nU, .int .i64 k, .slice (some ⟨w4.heap.size, 0, none⟩) nT nT] 38 (0, 0))) := HE6.out.var
  have HRR : Hid ((w5.setCell ⟨w.heap.size + 1 + 1, 3, none⟩ (.slice (some ⟨w4.heap.size, 0, none⟩) nT nT)).heap[w.heap.size + 1]? = some (.cells #[.slice none 0 0, .slice none 0 0, .int .i64 0, .slice none 0 0] 38 (0, 0))) := HE6.out.res
  clear hA hb hw6 HE5 HE4 HD4
  generalize w4.heap.size = gT at *
  go_wp2_with (first
    | (refine wpList_load_row rfl 38 (.tmp 3) rfl (w.heap.size + 1 + 1) rfl 38 _ (0, 0) _ HVR.out Try.underlying38 rfl HSZ.out ?_)
    | (refine wpList_store_row rfl 38 (.tmp 2) (.tmp 19) rfl (w.heap.size + 1) #[.slice (some ⟨gD, 0, none⟩) nD nD, .slice (some ⟨gU, 0, none⟩) nU nU, .int .i64 k, .slice (some ⟨gT, 0, none⟩) nT nT] rfl rfl 38 _ HRR.out HSZ.out rfl (by simp [Value.oneCell']) ?_)
    | fail)
  refine bodyPost_ret (v := .agg #[.slice (some ⟨gD, 0, none⟩) nD nD, .slice (some ⟨gU, 0, none⟩) nU nU, .int .i64 k, .slice (some ⟨gT, 0, none⟩) nT nT]) (results_cell_row rfl _ _ (w.heap.size + 1) 38 _ (0, 0) _ rfl (setRow_heap _ _ _ _ _ _ HRR.out) Try.underlying38 rfl HSZ.out) rfl ?_
  have hwz : Wr (w.heap.size + 1) (w5.setCell ⟨w.heap.size + 1 + 1, 3, none⟩ (.slice (some ⟨gT, 0, none⟩) nT nT)) ((w5.setCell ⟨w.heap.size + 1 + 1, 3, none⟩ (.slice (some ⟨gT, 0, none⟩) nT nT)).setRow (w.heap.size + 1) #[.slice (some ⟨gD, 0, none⟩) nD nD, .slice (some ⟨gU, 0, none⟩) nU nU, .int .i64 k, .slice (some ⟨gT, 0, none⟩) nT nT]) := Wr.setRow _ _ _
  exact ⟨gD, gU, gT, rfl, HD6.out.1.wrX hwz (by omega), HD6.out.2.1.wrX hwz (by omega), HD6.out.2.2.wrX hwz (by omega), HE6.out.below.trans (hwz.below (by omega))⟩
set_option maxRecDepth 100000 in
set_option maxHeartbeats 2000000 in
theorem eqS_any (aD aU aT aD' aU' aT' : Option Addr) (nD cD nU cU nT cT cD' cU' cT' : Nat) (D U : List Int) (k : Int) (T : List Int) (w : World) (hD : D.length = nD) (hU : U.length = nU) (hT : T.length = nT * 2) (mD : nD ≤ 1048576) (mU : nU ≤ 1048576) (mT : nT ≤ 1048576)
    (haD : At .i64 w aD D) (haU : At .i64 w aU U) (haT : At .i64 w aT T) (haD' : At .i64 w aD' D) (haU' : At .i64 w aU' U) (haT' : At .i64 w aT' T) :
    Calls Try.prog 17 #[.agg #[.slice aD nD cD, .slice aU nU cU, .int .i64 k, .slice aT nT cT], .agg #[.slice aD' nD cD', .slice aU' nU cU', .int .i64 k, .slice aT' nT cT']] w fun e w' => e = .returned (.bool true) ∧ Below w.heap.size w w' := by
  have HB : Below w.heap.size w ((w.alloc (.cells #[.slice aD nD cD, .slice aU nU cU, .int .i64 k, .slice aT nT cT] 38)).alloc (.cells #[.slice aD' nD cD', .slice aU' nU cU', .int .i64 k, .slice aT' nT cT'] 38)) := ((Below.refl _ _).alloc (Nat.le_refl _) _).alloc (by simp) _
  have hne : (k != k) = false := by simp
  have HA : Hid (∀ wz, Below w.heap.size w wz → At .i64 wz aD D ∧ At .i64 wz aU U ∧ At .i64 wz aT T ∧ At .i64 wz aD' D ∧ At .i64 wz aU' U ∧ At .i64 wz aT' T) := fun wz b => ⟨haD.below b, haU.below b, haT.below b, haD'.below b, haU'.below b, haT'.below b⟩
  have HL : Hid (D.length = nD ∧ U.length = nU ∧ T.length = nT * 2) := ⟨hD, hU, hT⟩
  have HBB : Hid (Below w.heap.size w ((w.alloc (.cells #[.slice aD nD cD, .slice aU nU cU, .int .i64 k, .slice aT nT cT] 38)).alloc (.cells #[.slice aD' nD cD', .slice aU' nU cU', .int .i64 k, .slice aT' nT cT'] 38))) := HB
  have HDQ : Hid (∀ q, Below w.heap.size w (((w.alloc (.cells #[.slice aD nD cD, .slice aU nU cU, .int .i64 k, .slice aT nT cT] 38)).alloc (.cells #[.slice aD' nD cD', .slice aU' nU cU', .int .i64 k, .slice aT' nT cT'] 38)).drewN q)) := fun q => below_dq HB q
  clear HB haD haU haT haD' haU' haT' hD hU hT
  go_enter Try.func17, Try.ntmps17
  go_wp2_with fail
  refine (eqI_any _ _ nD _ _ D _ HL.out.1 mD (HA.out _ HBB.out).1 (HA.out _ HBB.out).2.2.2.1).mono ?_
  rintro e w1 ⟨rfl, q1, rfl⟩
  go_wp2_with fail
  refine (eqI_any _ _ nU _ _ U _ HL.out.2.1 mU (HA.out _ (HDQ.out q1)).2.1 (HA.out _ (HDQ.out q1)).2.2.2.2.1).mono ?_
  rintro e w2 ⟨rfl, q2, rfl⟩
  rw [dN]
  go_wp2_with fail
  refine (eqTS_any _ _ nT _ _ T _ HL.out.2.2 mT (HA.out _ (HDQ.out _)).2.2.1 (HA.out _ (HDQ.out _)).2.2.2.2.2).mono ?_
  rintro e w3 ⟨rfl, hb3⟩
  have HF : Hid (Below w.heap.size w w3) := (HDQ.out (q1 + q2)).trans (hb3.mono (HDQ.out (q1 + q2)).size)
  clear hb3 HDQ HBB HA
  go_wp2
  go_ret
  exact ⟨rfl, HF.out⟩
end Go.Proofs.Ythghkfncpdnpoad
