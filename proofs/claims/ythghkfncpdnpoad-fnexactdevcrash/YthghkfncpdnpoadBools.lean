/-
  Own work: lists of bools and crashes, as the laws measure, copy, hold and mark them.
-/
import Derived.Test.YthghkfncpdnpoadDevTo
import Derived.Test.YthghkfncpdnpoadArgDev
import Derived.Deep.Grids
namespace Go.Proofs.Ythghkfncpdnpoad
open Go.ChangeShapes Go.WideShapes Go.ChangeAt Go.RowKit
set_option linter.unusedVariables false

/-- The slice with head 'a' reads as the bools bs. -/
def BAt (w : World) (a : Option Addr) (bs : List Bool) : Prop :=
  bs = [] ∨ ∃ b off, a = some ⟨b, off, none⟩ ∧ b < w.heap.size ∧ ∀ i, i < bs.length → w.cell? ⟨b, off + i, none⟩ = some (.bool (bs.getD i false))
theorem BAt.get {w : World} {a : Option Addr} {bs : List Bool} (h : BAt w a bs) (hz : 0 < bs.length) :
    ∃ b off, a = some ⟨b, off, none⟩ ∧ b < w.heap.size ∧ ∀ i, i < bs.length → w.cell? ⟨b, off + i, none⟩ = some (.bool (bs.getD i false)) := by
  rcases h with h | h
  · simp [h] at hz
  · exact h
theorem BAt.below {w w' : World} {a : Option Addr} {bs : List Bool} (h : BAt w a bs) (hb : Below w.heap.size w w') : BAt w' a bs := by
  rcases h with h | ⟨b, off, rfl, hl, hc⟩
  · exact .inl h
  · exact .inr ⟨b, off, rfl, by have := hb.size; omega, fun i hi => by rw [hb.cell (p := ⟨b, off + i, none⟩) hl]; exact hc i hi⟩

theorem Try.infoBool : (Try.prog.info? 4).map (fun i => (i.zero, i.size, i.bytes)) = some (some (.bool false), 1, 1) := by kernel_rfl

def cpb (bs : List Bool) (k : Nat) : List Bool := bs.take k ++ List.replicate (bs.length - k) false
theorem cpb_zero (bs : List Bool) : cpb bs 0 = List.replicate bs.length false := by simp [cpb]
theorem cpb_all (bs : List Bool) : cpb bs bs.length = bs := by simp [cpb]
theorem cpb_len (bs : List Bool) (k : Nat) (h : k ≤ bs.length) : (cpb bs k).length = bs.length := by simp [cpb]; omega
theorem cpb_succ (bs : List Bool) (k : Nat) (h : k < bs.length) : (cpb bs k).set k (bs.getD k false) = cpb bs (k + 1) := by
  unfold cpb
  have hl : (bs.take k).length = k := by simp; omega
  have hs : bs.take (k + 1) = bs.take k ++ [bs.getD k false] := by
    rw [List.take_succ_eq_append_getElem h, List.getD_eq_getElem?_getD, List.getElem?_eq_getElem h]; rfl
  rw [hs, List.set_append_right _ _ (by omega), hl, Nat.sub_self]
  have : bs.length - k = (bs.length - (k + 1)) + 1 := by omega
  rw [this, List.replicate_succ, List.set_cons_zero]; simp

/-- A list of bools in memory of the call's own. -/
def BMine (B : Nat) (w : World) (a : Option Addr) (bs : List Bool) : Prop := BAt w a bs ∧ Open w a bs.length ∧ ∀ ad, a = some ad → B ≤ ad.block ∧ ad.block < w.heap.size
theorem BMine.of_owns {w : World} {B n : Nat} {v : Value} {bs : List Bool} (h : w.ownsRow B 4 1 v n (bs.map Value.bool)) (g c : Nat) (hv : v = .slice (some ⟨g, 0, none⟩) n c) : BMine B w (some ⟨g, 0, none⟩) bs := by
  obtain ⟨h1, ⟨h2, _⟩ | ⟨g', cap, cur, h2, hg, hh, hc, hm, hs, ht⟩⟩ := h
  · rw [hv] at h2; cases h2
  · rw [hv] at h2; cases h2
    have hn : bs.length = n := by simpa using h1
    have hlt := (Array.getElem?_eq_some_iff.1 hh).1
    have hcell : ∀ i, i < bs.length → w.cell? ⟨g, 0 + i, none⟩ = some (.bool (bs.getD i false)) := fun i hi => by
      have e1 : cur.toList[i]? = some (.bool (bs.getD i false)) := by
        have : (cur.toList.take (n * 1))[i]? = (bs.map Value.bool)[i]? := by rw [ht]
        rw [List.getElem?_take_of_lt (by omega)] at this
        rw [this]; simp [hi]
      rw [cell_of_row w g (0 + i) cur _ (0, 0) hh, Nat.zero_add]
      simpa using e1
    exact ⟨.inr ⟨g, 0, rfl, hlt, hcell⟩, .inr ⟨g, 0, rfl, hlt, fun i hi => ⟨by rw [hcell i hi]; rfl, frozen_of_row w g _ cur _ hh⟩⟩, fun ad e => by cases e; exact ⟨hg, hlt⟩⟩
theorem BMine.below {B : Nat} {w w' : World} {a : Option Addr} {bs : List Bool} (h : BMine B w a bs) (hb : Below w.heap.size w w') : BMine B w' a bs :=
  ⟨h.1.below hb, h.2.1.below hb, fun ad e => by have := h.2.2 ad e; have := hb.size; omega⟩

set_option maxHeartbeats 400000 in
theorem toBS_any (a : Option Addr) (n cap : Nat) (bs : List Bool) (w : World) (hn : bs.length = n) (hm : n ≤ 1048576) (ha : BAt w a bs) :
    Calls Try.prog 62 #[.slice a n cap] w fun e w' => e = .returned (.slice (some ⟨w.heap.size, 0, none⟩) n n) ∧
      BMine w.heap.size w' (some ⟨w.heap.size, 0, none⟩) bs ∧ Below w.heap.size w w' := by
  obtain ⟨i0, hi, hz0, hz1, hz2⟩ := info_parts Try.infoBool
  have HI : Hid (i0.bytes = 1) := hz2
  clear hz2
  go_enter Try.func62, Try.ntmps62
  go_wp2_with (first
    | (at_make; refine wpList_make_full _ rfl _ _ 62 rfl w.heap.size 4 i0 (.bool false) 1 Try.underlying62 hi hz0 hz1 _ _ _ _ n rfl rfl rfl rfl ?c1 ?c2 ?c3 ?_)
    | fail)
  case c1 => rw [HI.out]; omega
  case c2 => unfold maxLen; omega
  case c3 => exact Nat.le_refl _
  intro w1 hown hgrow
  have hb1 : Below w.heap.size w w1 := (Below.refl _ _).grown hgrow (Nat.le_refl _) (by simp)
  have hown0 : w1.ownsRow w.heap.size 4 1 (.slice (some ⟨w.heap.size, 0, none⟩) n n) n ((cpb bs 0).map Value.bool) := by
    have e : (madeCells #[Value.bool false] n).toList = (cpb bs 0).map Value.bool := by
      rw [cpb_zero]; simp only [toList_madeCells_one, List.map_replicate, hn]
    rw [← e]; exact hown
  clear hown hgrow
  go_wp2
  go_loopw [4] (fun i wr => ∃ k : Nat, k ≤ n ∧ i = .int .i64 k ∧ wr.ownsRow w.heap.size 4 1 (.slice (some ⟨w.heap.size, 0, none⟩) n n) n ((cpb bs k).map Value.bool) ∧ Below w.heap.size w wr) (fun i _ => n - (intOf i).toNat)
  case atStart => exact ⟨0, Nat.zero_le _, rfl, hown0, hb1⟩
  case round =>
    obtain ⟨k, hk, rfl, hown, hbel⟩ := hrel
    by_cases hlt : k < n
    · obtain ⟨b, off, rfl, hb, hc⟩ := ha.get (by omega)
      have hck : wr.cell? ⟨b, off + k, none⟩ = some (.bool (bs.getD k false)) := by rw [hbel.cell (p := ⟨b, off + k, none⟩) hb]; exact hc k (by omega)
      have hst := hown.stored k (.bool (bs.getD k false))
      have hmem : wr.cell? ⟨w.heap.size, k, none⟩ = some (.bool ((cpb bs k).getD k false)) := by
        rw [hown.cellAt k (by omega)]
        have := cpb_len bs k (by omega)
        simp [show k < (cpb bs k).length by omega]
      have hfz := hown.frozenAt k
      rw [← List.map_set, cpb_succ bs k (by omega)] at hst
      have HX := hst.1
      have HB : Below w.heap.size w (wr.setCell ⟨w.heap.size, k, none⟩ (.bool (bs.getD k false))) := hbel.setCell (Nat.le_refl _) _
      clear hst hown hc ha hbel hown0 hb1
      generalize bs.getD k false = x at *
      generalize (cpb bs k).getD k false = y at *
      have HXX : Hid _ := HX
      have HBB : Hid _ := HB
      clear HX HB
      go_wp2
      go_roundw
      case rel => exact ⟨k + 1, by omega, by go_num, HXX.out, HBB.out⟩
      case measure => simp [intOf]; omega
    · have hkn : k = bs.length := by omega
      have HO : Hid (BMine w.heap.size wr (some ⟨w.heap.size, 0, none⟩) bs) := by rw [hkn, cpb_all] at hown; exact BMine.of_owns hown _ _ rfl
      clear hown
      go_wp2
      go_ret
      exact ⟨rfl, HO.out, hbel⟩

set_option maxHeartbeats 400000 in
theorem szBS_any (a : Option Addr) (n cap : Nat) (left : Int) (w : World) (h0 : 0 ≤ left) (h1 : left ≤ 1048576) (hn : n ≤ 9223372036854775807) :
    Calls Try.prog 57 #[.slice a n cap, .int .i64 left] w fun e w' => e = .returned (.int .i64 (szR left n)) ∧ w' = w := by
  have HZ : Hid (szR left n = if left < n then -1 else left - n) := rfl
  by_cases h : left < n
  · have t : left - (n : Int) < 0 := by omega
    go_enter Try.func57, Try.ntmps57
    go_wp2
    go_ret
    exact ⟨ret_int (by rw [HZ.out, if_pos h]), rfl⟩
  · have t : ¬ (left - (n : Int) < 0) := by omega
    go_enter Try.func57, Try.ntmps57
    go_wp2
    go_ret
    exact ⟨ret_int (by rw [HZ.out, if_neg (by omega)]), rfl⟩

set_option maxHeartbeats 400000 in
theorem szC_any (x : Option Addr) (n c : Nat) (t u : Int) (left : Int) (w : World) (h0 : 0 ≤ left) (h1 : left ≤ 1048576) (hn : n ≤ 9223372036854775807) :
    Calls Try.prog 22 #[.agg #[.slice x n c, .int .i64 t, .int .i64 u], .int .i64 left] w fun e w' => e = .returned (.int .i64 (szR left n)) ∧ Below w.heap.size w w' := by
  have HZ : Hid (szR left n = if left < n then -1 else left - n) := rfl
  have hb := (Below.refl w.heap.size w).alloc (Nat.le_refl _) (.cells #[.slice x n c, .int .i64 t, .int .i64 u] 64)
  go_enter Try.func22, Try.ntmps22
  go_wp2_with (go_at_call 57; refine (szBS_any _ _ _ _ _ h0 h1 hn).mono ?_; rintro e w1 ⟨rfl, rfl⟩)
  · go_ret
    refine ⟨ret_int ?_, hb⟩
    rename_i h
    rw [HZ.out] at h ⊢
    split <;> simp_all <;> omega
  · go_ret
    exact ⟨rfl, hb⟩

set_option maxHeartbeats 400000 in
theorem eqBS_any (a a' : Option Addr) (n cap cap' : Nat) (bs : List Bool) (w : World) (hn : bs.length = n) (hm : n ≤ 1048576) (ha : BAt w a bs) (ha' : BAt w a' bs) :
    Calls Try.prog 72 #[.slice a n cap, .slice a' n cap'] w fun e w' => e = .returned (.bool true) ∧ ∃ q, w' = w.drewN q := by
  have h0 : ((n : Int) != (n : Int)) = false := by simp
  go_enter Try.func72, Try.ntmps72
  go_wp2
  go_loopw [5] (fun i wr => ∃ k q : Nat, k ≤ n ∧ i = .int .i64 k ∧ wr = w.drewN q) (fun i _ => n - (intOf i).toNat)
  case atStart => exact ⟨0, 0, Nat.zero_le _, rfl, rfl⟩
  case round =>
    obtain ⟨k, q, hk, rfl, rfl⟩ := hrel
    by_cases hlt : k < n
    · obtain ⟨b, off, rfl, hb, hc⟩ := ha.get (by omega)
      obtain ⟨b', off', rfl, hb', hc'⟩ := ha'.get (by omega)
      have g1 := hc k (by omega)
      have g2 := hc' k (by omega)
      generalize bs.getD k false = x at *
      have hx : (x != x) = false := by simp
      have hx' : (x == x) = true := by simp
      have hlt' : (k : Int) < (n : Int) := by omega
      clear hc hc' ha ha'
      go_wp2
      go_quiet (fail)
      go_wp2
      go_roundw
      case rel => exact ⟨k + 1, _, by omega, by go_num, rfl⟩
      case measure => simp [intOf]; omega
    · go_wp2
      go_ret
      exact ⟨rfl, q, rfl⟩

/-- A crash in memory. -/
def CAt (w : World) (v : Value) (bs : List Bool) (t u : Int) : Prop := ∃ x c, v = .agg #[.slice x bs.length c, .int .i64 t, .int .i64 u] ∧ BAt w x bs
def CMine (B : Nat) (w : World) (v : Value) (bs : List Bool) (t u : Int) : Prop := ∃ x c, v = .agg #[.slice x bs.length c, .int .i64 t, .int .i64 u] ∧ BMine B w x bs
theorem CMine.at_ {B : Nat} {w : World} {v : Value} {bs : List Bool} {t u : Int} (h : CMine B w v bs t u) : CAt w v bs t u := by
  obtain ⟨x, c, hv, h⟩ := h; exact ⟨x, c, hv, h.1⟩
theorem CAt.below {w w' : World} {v : Value} {bs : List Bool} {t u : Int} (h : CAt w v bs t u) (hb : Below w.heap.size w w') : CAt w' v bs t u := by
  obtain ⟨x, c, hv, h⟩ := h; exact ⟨x, c, hv, h.below hb⟩
theorem CMine.below {B : Nat} {w w' : World} {v : Value} {bs : List Bool} {t u : Int} (h : CMine B w v bs t u) (hb : Below w.heap.size w w') : CMine B w' v bs t u := by
  obtain ⟨x, c, hv, h⟩ := h; exact ⟨x, c, hv, h.below hb⟩

set_option maxHeartbeats 400000 in
theorem eqC_any (v v' : Value) (bs : List Bool) (t u : Int) (w : World) (h : CAt w v bs t u) (h' : CAt w v' bs t u) (hn : bs.length ≤ 1048576) :
    Calls Try.prog 28 #[v, v'] w fun e w' => e = .returned (.bool true) ∧ Below w.heap.size w w' := by
  obtain ⟨x, c, rfl, ha⟩ := h
  obtain ⟨x', c', rfl, ha'⟩ := h'
  generalize hl : bs.length = n at *
  have e2 : (t != t) = false := by simp
  have e3 : (u != u) = false := by simp
  have hB := ((Below.refl w.heap.size w).alloc (Nat.le_refl _) (.cells #[.slice x n c, .int .i64 t, .int .i64 u] 72)).alloc (by simp) (.cells #[.slice x' n c', .int .i64 t, .int .i64 u] 72)
  have A2 := ha.below hB
  have A2' := ha'.below hB
  have HB : Hid _ := hB
  clear hB
  go_enter Try.func28, Try.ntmps28
  go_wp2_with fail
  refine (eqBS_any _ _ n _ _ bs _ hl hn A2 A2').mono ?_
  rintro e w1 ⟨rfl, q, rfl⟩
  clear A2 A2'
  go_wp2
  go_ret
  exact ⟨rfl, ⟨(show Below _ _ _ from HB.out).os, (show Below _ _ _ from HB.out).tape, (show Below _ _ _ from HB.out).output, (show Below _ _ _ from HB.out).size, (show Below _ _ _ from HB.out).block⟩⟩

set_option maxHeartbeats 400000 in
theorem markBS_any (a : Option Addr) (n cap : Nat) (k : Int) (w : World) (ho : Open w a n) (hk : 0 ≤ k) (hk' : k + n ≤ 1099511627776) :
    Calls Try.prog 75 #[.slice a n cap, .int .i64 k] w fun e w' => e = .returned (.int .i64 (k + n)) ∧ WrO a w w' := by
  go_enter Try.func75, Try.ntmps75
  go_wp2
  go_loopw [1, 5] (fun q i wr => ∃ j : Nat, j ≤ n ∧ i = .int .i64 j ∧ q = .int .i64 (k + j) ∧ WrO a w wr ∧
      (n = 0 ∨ ∃ g o, a = some ⟨g, o, none⟩ ∧ g < w.heap.size ∧ (∀ t, t < n → (wr.cell? ⟨g, o + t, none⟩).isSome = true ∧ wr.frozen? ⟨g, o + t, none⟩ = false))) (fun _ i _ => n - (intOf i).toNat)
  case atStart => exact ⟨0, Nat.zero_le _, rfl, by simp, WrO.refl _ _, ho⟩
  case round =>
    obtain ⟨j, hj, rfl, rfl, hwr, hs⟩ := hrel
    by_cases hlt : j < n
    · rcases hs with h | ⟨g, o, rfl, hg, hc⟩
      · omega
      · obtain ⟨hc1, hf1⟩ := hc j hlt
        obtain ⟨v0, hv0⟩ := Option.isSome_iff_exists.1 hc1
        have HW : Hid (∀ x : Value, WrO (some ⟨g, o, none⟩) w (wr.setCell ⟨g, o + j, none⟩ x)) := fun x => hwr.setCell _ rfl _ _
        have HC : Hid (∀ x : Value, ∀ t, t < n → ((wr.setCell ⟨g, o + j, none⟩ x).cell? ⟨g, o + t, none⟩).isSome = true ∧ (wr.setCell ⟨g, o + j, none⟩ x).frozen? ⟨g, o + t, none⟩ = false) := by
          intro x t ht
          obtain ⟨u, hu⟩ := Option.isSome_iff_exists.1 (hc t ht).1
          obtain ⟨u', hu'⟩ := cell?_setCell_some (w := wr) (p := ⟨g, o + j, none⟩) (x := x) (q := ⟨g, o + t, none⟩) (v := u) hu
          refine ⟨by rw [hu']; rfl, ?_⟩
          rw [World.frozen?_setCell]; exact (hc t ht).2
        clear hc hwr ho hc1
        go_wp2
        go_roundw
        case rel => exact ⟨j + 1, by omega, by go_num, by go_num, HW.out _, .inr ⟨g, o, rfl, hg, HC.out _⟩⟩
        case measure => simp [intOf]; omega
    · have hjn : j = n := by omega
      subst hjn
      clear hs ho
      go_wp2
      go_ret
      exact ⟨rfl, hwr⟩

set_option maxHeartbeats 400000 in
theorem markC_any (x : Option Addr) (c : Nat) (bs : List Bool) (t u k : Int) (B : Nat) (w : World) (h : BMine B w x bs) (hk : 0 ≤ k) (hk' : k + bs.length ≤ 1099511627776) :
    Calls Try.prog 30 #[.agg #[.slice x bs.length c, .int .i64 t, .int .i64 u], .int .i64 k] w fun e w' => e = .returned (.int .i64 (k + bs.length)) ∧
      w'.os = w.os ∧ w'.tape = w.tape ∧ w'.output = w.output ∧ w.heap.size ≤ w'.heap.size ∧ ∀ j, j < w.heap.size → (∀ ad, x = some ad → j ≠ ad.block) → w'.heap[j]? = w.heap[j]? := by
  generalize hl : bs.length = n at *
  have hb := (Below.refl w.heap.size w).alloc (Nat.le_refl _) (.cells #[.slice x n c, .int .i64 t, .int .i64 u] 72)
  have HO : Hid _ := h.2.1.below hb
  have HB : Hid _ := hb
  clear hb
  go_enter Try.func30, Try.ntmps30
  go_wp2_with fail
  refine (markBS_any x n c k _ (hl ▸ HO.out) hk (by omega)).mono ?_
  rintro e w1 ⟨rfl, hwr⟩
  have HW : Hid _ := hwr
  clear hwr
  go_wp2
  go_ret
  have hb := HB.out
  have hw := HW.out
  exact ⟨rfl, hw.os.trans hb.os, hw.tape.trans hb.tape, hw.output.trans hb.output, by rw [hw.size]; exact hb.size, fun j hj hx => (hw.block j hx).trans (hb.block j hj)⟩

section
variable {H : Type} {enc : TypeId × Value → H} {W : World}
set_option maxRecDepth 100000 in
theorem bools_of {fuel : Nat} {v : Value} {y : DataW H × List MemPlace} (h : DataW.trod enc Try.prog W 0 (fun _ => true) true fuel 62 [v] = some y) :
    ∃ a n cap bs, v = .slice a n cap ∧ bs.length = n ∧ n ≤ 9223372036854775807 ∧ BAt W a bs := by
  rcases Go.Deep.open_bools Try.underlying62 Try.underlying4 (by kernel_rfl) h with ⟨hcs, _⟩ | ⟨x, l, c, Bf, hcs, _, hl, hm, _, hcell⟩
  · simp at hcs
    exact ⟨none, 0, 0, [], hcs, rfl, by omega, .inl rfl⟩
  · simp at hcs
    refine ⟨some x, l, c, (List.range l).map Bf, hcs, by simp, by unfold maxLen at hm; omega, ?_⟩
    by_cases h0 : l = 0
    · left; simp [h0]
    · right
      obtain ⟨b, off, spot⟩ := x
      have hc0 := hcell 0 (by omega)
      have hs : spot = none := by simpa [Addr.add] using World.cell?_spot hc0
      subst hs
      refine ⟨b, off, rfl, block_lt_of_cell (a := (⟨b, off, none⟩ : Addr).add 0) hc0, fun i hi => ?_⟩
      have hi' : i < l := by simpa using hi
      have := hcell i (by omega)
      rw [Addr.add_lit] at this
      rw [this]
      simp [List.getD, hi']

/-- The argument is a crash. -/
def ArgC (W : World) (v : Value) : Prop :=
  ∃ (a : Option Addr) (n cap : Nat) (bs : List Bool) (t u : Int), v = .agg #[.slice a n cap, .int .i64 t, .int .i64 u] ∧ bs.length = n ∧ n ≤ 9223372036854775807 ∧ BAt W a bs ∧ I64 t ∧ I64 u
set_option maxRecDepth 100000 in
theorem crash_of {r : Reach} {b0 : Nat} {v : Value} {d : DataW H} {p : List MemPlace} (hv : Value.okWide Try.prog W r b0 64 v) (h : DataW.Trod enc Try.prog W 0 (fun _ => true) true 64 v d p) : ArgC W v := by
  obtain ⟨v0, v1, v2, y0, y1, y2, n, rfl, _, _, h0, h1, h2⟩ := Go.Joins.open_agg3 Try.underlying64 (by kernel_rfl) (by kernel_rfl) hv h
  obtain ⟨a, n, cap, bs, rfl, hn, hn2, ha⟩ := bools_of h0
  obtain ⟨t, e1, _, ht⟩ := DataW.trod_int (k := .i64) Try.underlying2 h1
  obtain ⟨u, e2, _, hu⟩ := DataW.trod_int (k := .i64) Try.underlying2 h2
  simp at e1 e2
  subst e1 e2
  exact ⟨a, n, cap, bs, t, u, rfl, hn, hn2, ha, I64.of_wf ht, I64.of_wf hu⟩
end
end Go.Proofs.Ythghkfncpdnpoad
