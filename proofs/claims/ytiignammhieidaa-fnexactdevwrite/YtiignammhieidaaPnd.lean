/-
  Own work: lists of pending writes in memory; how the laws measure them.
-/
import Derived.Test.YtiignammhieidaaBytes
namespace Go.Proofs.Ytiignammhieidaa
open Go.ChangeShapes Go.WideShapes Go.ChangeAt Go.RowKit
set_option linter.unusedVariables false

abbrev PD := Int × List Int
/-- The slice with head 'a' reads as the pending writes ps. -/
def PAt (w : World) (a : Option Addr) (ps : List PD) : Prop :=
  ps = [] ∨ ∃ b off, a = some ⟨b, off, none⟩ ∧ b < w.heap.size ∧ ∀ i, i < ps.length → ∃ x c, w.cell? ⟨b, off + i * 2, none⟩ = some (.int .i64 (ps.getD i (0, [])).1) ∧
    w.cell? ⟨b, off + i * 2 + 1, none⟩ = some (.slice x (ps.getD i (0, [])).2.length c) ∧ At .u8 w x (ps.getD i (0, [])).2

theorem PAt.get {w : World} {a : Option Addr} {ps : List PD} (h : PAt w a ps) (hz : 0 < ps.length) :
    ∃ b off, a = some ⟨b, off, none⟩ ∧ b < w.heap.size ∧ ∀ i, i < ps.length → ∃ x c, w.cell? ⟨b, off + i * 2, none⟩ = some (.int .i64 (ps.getD i (0, [])).1) ∧
    w.cell? ⟨b, off + i * 2 + 1, none⟩ = some (.slice x (ps.getD i (0, [])).2.length c) ∧ At .u8 w x (ps.getD i (0, [])).2 := by
  rcases h with h | h
  · simp [h] at hz
  · exact h

theorem PAt.below {w w' : World} {a : Option Addr} {ps : List PD} (h : PAt w a ps) (hb : Below w.heap.size w w') : PAt w' a ps := by
  rcases h with h | ⟨b, off, rfl, hl, hc⟩
  · exact .inl h
  · exact .inr ⟨b, off, rfl, by have := hb.size; omega, fun i hi => by
      obtain ⟨x, c, h1, h2, h3⟩ := hc i hi
      exact ⟨x, c, by rw [hb.cell (p := ⟨b, off + i * 2, none⟩) hl]; exact h1, by rw [hb.cell (p := ⟨b, off + i * 2 + 1, none⟩) hl]; exact h2, h3.below hb⟩⟩

/-- What the laws count of a list of pending writes. -/
def pSum (ps : List PD) : Nat := (ps.map (fun p => p.2.length)).sum
theorem pSum_snoc (ps : List PD) (k : Nat) (h : k < ps.length) : pSum (ps.take (k + 1)) = pSum (ps.take k) + (ps.getD k (0, [])).2.length := by
  rw [List.take_succ_eq_append_getElem h]
  unfold pSum
  rw [List.map_append, List.sum_append]
  simp [h]
theorem pSum_take (ps : List PD) (k : Nat) : pSum (ps.take k) ≤ pSum ps := by
  conv => rhs; rw [← List.take_append_drop k ps]
  unfold pSum
  rw [List.map_append, List.sum_append]
  omega

def szR (left : Int) (n : Nat) : Int := if left < n then -1 else left - n

set_option maxHeartbeats 400000 in
theorem szB_any (a : Option Addr) (n cap : Nat) (left : Int) (w : World) (h0 : 0 ≤ left) (h1 : left ≤ 1048576) (hn : n ≤ 9223372036854775807) :
    Calls Try.prog 17 #[.slice a n cap, .int .i64 left] w fun e w' => e = .returned (.int .i64 (szR left n)) ∧ w' = w := by
  have HZ : Hid (szR left n = if left < n then -1 else left - n) := rfl
  by_cases h : left < n
  · have t : left - (n : Int) < 0 := by omega
    go_enter Try.func17, Try.ntmps17
    go_wp2
    go_ret
    exact ⟨ret_int (by rw [HZ.out, if_pos h]), rfl⟩
  · have t : ¬ (left - (n : Int) < 0) := by omega
    go_enter Try.func17, Try.ntmps17
    go_wp2
    go_ret
    exact ⟨ret_int (by rw [HZ.out, if_neg (by omega)]), rfl⟩

set_option maxHeartbeats 400000 in
theorem szP_any (s : Int) (x : Option Addr) (n c : Nat) (left : Int) (w : World) (h0 : 0 ≤ left) (h1 : left ≤ 1048576) (hn : n ≤ 9223372036854775807) :
    Calls Try.prog 37 #[.agg #[.int .i64 s, .slice x n c], .int .i64 left] w fun e w' => e = .returned (.int .i64 (szR left n)) ∧ Below w.heap.size w w' := by
  have HZ : Hid (szR left n = if left < n then -1 else left - n) := rfl
  have hb := (Below.refl w.heap.size w).alloc (Nat.le_refl _) (.cells #[.int .i64 s, .slice x n c] 56)
  go_enter Try.func37, Try.ntmps37
  go_wp2_with (go_at_call 17; refine (szB_any _ _ _ _ _ h0 h1 hn).mono ?_; rintro e w1 ⟨rfl, rfl⟩)
  · go_ret
    refine ⟨ret_int ?_, hb⟩
    rename_i h
    rw [HZ.out] at h ⊢
    split <;> simp_all <;> omega
  · go_ret
    exact ⟨rfl, hb⟩

set_option maxHeartbeats 400000 in
theorem szPS_any (a : Option Addr) (n cap : Nat) (ps : List PD) (left : Int) (w : World) (hl : ps.length = n) (h0 : 0 ≤ left) (h1 : left ≤ 1048576) (hn : n ≤ 9223372036854775807) (ha : PAt w a ps) (hps : ∀ i, (ps.getD i (0, [])).2.length ≤ 9223372036854775807) :
    Calls Try.prog 18 #[.slice a n cap, .int .i64 left] w fun e w' => e = .returned (.int .i64 (szR left (n + pSum ps))) ∧ Below w.heap.size w w' := by
  have HZ : Hid (∀ left n, szR left n = if left < n then -1 else left - n) := fun _ _ => rfl
  by_cases h : left < n
  · have t : left - (n : Int) < 0 := by omega
    go_enter Try.func18, Try.ntmps18
    go_wp2
    go_ret
    exact ⟨ret_int (by rw [HZ.out, if_pos (by omega)]), Below.refl _ _⟩
  have t : ¬ (left - (n : Int) < 0) := by omega
  go_enter Try.func18, Try.ntmps18
  go_wp2
  go_loopw [1, 5] (fun q i wr => ∃ k : Nat, k ≤ n ∧ i = .int .i64 k ∧ q = .int .i64 (left - n - pSum (ps.take k)) ∧ 0 ≤ left - n - pSum (ps.take k) ∧ Below w.heap.size w wr) (fun _ i _ => n - (intOf i).toNat)
  case atStart => exact ⟨0, Nat.zero_le _, rfl, by simp [pSum], by simp [pSum]; omega, Below.refl _ _⟩
  case round =>
    obtain ⟨k, hk, rfl, rfl, hpos, hbel⟩ := hrel
    by_cases hlt : k < n
    · have hps' := hps k
      have hsn := pSum_snoc ps k (by omega)
      have hst := pSum_take ps (k + 1)
      obtain ⟨b, off, rfl, hb, hc⟩ := (ha.below hbel).get (by omega)
      obtain ⟨x, c, h1, h2, h3⟩ := hc k (by omega)
      generalize (ps.getD k (0, [])).1 = s at *
      generalize (ps.getD k (0, [])).2.length = m at *
      clear hc ha
      by_cases hneg : left - n - pSum (ps.take k) < m
      · have hr : szR (left - n - pSum (ps.take k)) m = -1 := by rw [HZ.out, if_pos hneg]
        have e := HZ.out left (n + pSum ps)
        rw [if_pos (by omega)] at e
        go_wp2_with (go_at_call 37; refine (szP_any _ _ _ _ _ _ hpos (by omega) hps').mono ?_; rintro e w1 ⟨rfl, hb1⟩; rw [hr])
        go_ret
        exact ⟨ret_int e.symm, hbel.trans (hb1.mono hbel.size)⟩
      · have hr : szR (left - n - pSum (ps.take k)) m = left - n - pSum (ps.take (k + 1)) := by rw [HZ.out, if_neg hneg, hsn]; omega
        have hp' : 0 ≤ left - n - pSum (ps.take (k + 1)) := by omega
        go_wp2_with (go_at_call 37; refine (szP_any _ _ _ _ _ _ hpos (by omega) hps').mono ?_; rintro e w1 ⟨rfl, hb1⟩; rw [hr]; have HB1 : Hid _ := hb1; clear hb1)
        go_roundw
        case rel => exact ⟨k + 1, by omega, by go_num, by rw [hsn, Int.natCast_add], hp', hbel.trans (HB1.out.mono hbel.size)⟩
        case measure => simp [intOf]; omega
    · have hkn : ps.take k = ps := List.take_of_length_le (by omega)
      rw [hkn] at hpos ⊢
      have e := HZ.out left (n + pSum ps)
      go_wp2
      go_ret
      exact ⟨ret_int (by rw [e, if_neg (by omega)]; omega), hbel⟩

set_option maxHeartbeats 400000 in
theorem szD_any (a : Option Addr) (n cap : Nat) (a' : Option Addr) (n' cap' : Nat) (ps : List PD) (f : Int) (d : Bool) (left : Int) (w : World) (hl : ps.length = n') (h0 : 0 ≤ left) (h1 : left ≤ 1048576) (hn : n ≤ 9223372036854775807) (hn' : n' ≤ 9223372036854775807) (ha : PAt w a' ps) (hps : ∀ i, (ps.getD i (0, [])).2.length ≤ 9223372036854775807) :
    Calls Try.prog 5 #[.agg #[.slice a n cap, .slice a' n' cap', .int .i64 f, .bool d], .int .i64 left] w fun e w' => e = .returned (.int .i64 (szR left (n + (n' + pSum ps)))) ∧ Below w.heap.size w w' := by
  have HZ : Hid (∀ left n, szR left n = if left < n then -1 else left - n) := fun _ _ => rfl
  have hb := (Below.refl w.heap.size w).alloc (Nat.le_refl _) (.cells #[.slice a n cap, .slice a' n' cap', .int .i64 f, .bool d] 25)
  have ha1 := ha.below hb
  by_cases hc : left < n
  · have hr : szR left n = -1 := by rw [HZ.out, if_pos hc]
    have e0 := HZ.out left (n + (n' + pSum ps))
    rw [if_pos (by omega)] at e0
    go_enter Try.func5, Try.ntmps5
    go_wp2_with (go_at_call 17; refine (szB_any _ _ _ _ _ h0 h1 hn).mono ?_; rintro e w1 ⟨rfl, rfl⟩; rw [hr])
    go_ret
    exact ⟨ret_int e0.symm, hb⟩
  · have hr : szR left n = left - n := by rw [HZ.out, if_neg hc]
    have hpos : 0 ≤ left - (n : Int) := by omega
    have hd : szR left (n + (n' + pSum ps)) = szR (left - n) (n' + pSum ps) := by
      rw [HZ.out, HZ.out]
      by_cases h : left < ((n + (n' + pSum ps) : Nat) : Int)
      · rw [if_pos h, if_pos (by omega)]
      · rw [if_neg h, if_neg (by omega)]; omega
    have hd' : szR (left - n) (n' + pSum ps) < 0 → szR (left - n) (n' + pSum ps) = -1 := by
      rw [HZ.out]; split <;> omega
    have HD : Hid _ := hd
    have HD' : Hid _ := hd'
    clear hd hd'
    go_enter Try.func5, Try.ntmps5
    go_wp2_with (first
      | (go_at_call 17; refine (szB_any _ _ _ _ _ h0 h1 hn).mono ?_; rintro e w1 ⟨rfl, rfl⟩; rw [hr])
      | (go_at_call 18; refine (szPS_any _ _ _ ps _ _ hl hpos (by omega) hn' ha1 hps).mono ?_; rintro e w2 ⟨rfl, hb2⟩; have HB2 : Hid _ := hb2; clear hb2))
    · go_ret
      rename_i hneg
      exact ⟨ret_int (by rw [HD.out, HD'.out hneg]), hb.trans (HB2.out.mono hb.size)⟩
    · go_ret
      exact ⟨ret_int HD.out.symm, hb.trans (HB2.out.mono hb.size)⟩

theorem owns_row {w : World} {B g n : Nat} {zs : List Int} {e : TypeId} (h : w.ownsRow B e 1 (.slice (some ⟨g, 0, none⟩) n n) n (zs.map (Value.int .u8))) : w.heap[g]? = some (.cells (zs.map (Value.int .u8)).toArray e (0, 0)) := by
  obtain ⟨h1, ⟨h2, _⟩ | ⟨g', cap, cur, hv, hb, hh, hc, hm, hs, ht⟩⟩ := h
  · cases h2
  · cases hv
    rw [List.take_of_length_le (by simp; omega)] at ht
    rw [hh, ← ht]

set_option maxHeartbeats 400000 in
theorem toP_any (s : Int) (x : Option Addr) (n c : Nat) (zs : List Int) (w : World) (hn : zs.length = n) (hm : n ≤ 1048576) (ha : At .u8 w x zs) :
    Calls Try.prog 38 #[.agg #[.int .i64 s, .slice x n c]] w fun e w' => ∃ g, e = .returned (.agg #[.int .i64 s, .slice (some ⟨g, 0, none⟩) n n]) ∧ w.heap.size ≤ g ∧ w'.heap[g]? = some (.cells (zs.map (Value.int .u8)).toArray 5 (0, 0)) ∧ Below w.heap.size w w' := by
  go_enter Try.func38, Try.ntmps38
  go_wp2_with fail
  have hb := (((Below.refl w.heap.size w).alloc (Nat.le_refl _) (.cells #[.int .i64 s, .slice x n c] 56)).alloc (by simp) (.cells #[.int .i64 0, .slice none 0 0] 44)).alloc (by simp; omega) (.cells #[.int .i64 s, .slice none 0 0] 44)
  have h2 : (((w.alloc (.cells #[.int .i64 s, .slice x n c] 56)).alloc (.cells #[.int .i64 0, .slice none 0 0] 44)).alloc (.cells #[.int .i64 s, .slice none 0 0] 44)).heap[w.heap.size + 1 + 1]? = some (.cells #[.int .i64 s, .slice none 0 0] 44 (0, 0)) := by
    have := heap_alloc_new ((w.alloc (.cells #[.int .i64 s, .slice x n c] 56)).alloc (.cells #[.int .i64 0, .slice none 0 0] 44)) (.cells #[.int .i64 s, .slice none 0 0] 44)
    simpa using this
  have h1 : (((w.alloc (.cells #[.int .i64 s, .slice x n c] 56)).alloc (.cells #[.int .i64 0, .slice none 0 0] 44)).alloc (.cells #[.int .i64 s, .slice none 0 0] 44)).heap[w.heap.size + 1]? = some (.cells #[.int .i64 0, .slice none 0 0] 44 (0, 0)) := by
    rw [((Below.refl _ ((w.alloc (.cells #[.int .i64 s, .slice x n c] 56)).alloc (.cells #[.int .i64 0, .slice none 0 0] 44))).alloc (Nat.le_refl _) _).block _ (by simp)]
    have := heap_alloc_new (w.alloc (.cells #[.int .i64 s, .slice x n c] 56)) (.cells #[.int .i64 0, .slice none 0 0] 44)
    simpa using this
  have hz3 : (((w.alloc (.cells #[.int .i64 s, .slice x n c] 56)).alloc (.cells #[.int .i64 0, .slice none 0 0] 44)).alloc (.cells #[.int .i64 s, .slice none 0 0] 44)).heap.size = w.heap.size + 3 := by simp
  generalize (((w.alloc (.cells #[.int .i64 s, .slice x n c] 56)).alloc (.cells #[.int .i64 0, .slice none 0 0] 44)).alloc (.cells #[.int .i64 s, .slice none 0 0] 44)) = w3 at *
  have ha3 := ha.below hb
  have HZ3 : Hid _ := hz3
  clear hz3
  refine (toB_any x n c zs w3 hn hm ha3).mono ?_
  rintro e w4 ⟨rfl, ho4, hb4⟩
  have k2 : w4.heap[w.heap.size + 1 + 1]? = some (.cells #[.int .i64 s, .slice none 0 0] 44 (0, 0)) := by rw [hb4.block _ (by have := HZ3.out; omega)]; exact h2
  have k1 : w4.heap[w.heap.size + 1]? = some (.cells #[.int .i64 0, .slice none 0 0] 44 (0, 0)) := by rw [hb4.block _ (by have := HZ3.out; omega)]; exact h1
  have c20 := cell_of_row w4 (w.heap.size + 1 + 1) 0 _ _ _ k2
  have c21 := cell_of_row w4 (w.heap.size + 1 + 1) 1 _ _ _ k2
  have c10 := cell_of_row w4 (w.heap.size + 1) 0 _ _ _ k1
  have c11 := cell_of_row w4 (w.heap.size + 1) 1 _ _ _ k1
  have f2 := frozen_of_row w4 (w.heap.size + 1 + 1) 1 _ _ k2
  have f10 := frozen_of_row w4 (w.heap.size + 1) 0 _ _ k1
  have f11 := frozen_of_row w4 (w.heap.size + 1) 1 _ _ k1
  simp at c20 c21 c10 c11
  have hv : w4.heap[w3.heap.size]? = some (.cells (zs.map (Value.int .u8)).toArray 5 (0, 0)) := owns_row ho4
  have HV : Hid _ := hv
  have HB4 : Hid _ := hb4
  have HB3 : Hid _ := hb
  have K1 : Hid _ := k1
  clear ho4 hb4 hb k1 k2 h1 h2 ha ha3 hv
  go_wp2
  have K2 := heap_setCell_same _ (w.heap.size + 1) 0 _ _ (.int .i64 s) ((heap_setCell_other w4 ⟨w.heap.size + 1 + 1, 1, none⟩ (w.heap.size + 1) (.slice (some ⟨w3.heap.size, 0, none⟩) n n) (by simp)).trans K1.out)
  have K3 := heap_setCell_same _ (w.heap.size + 1) 1 _ _ (.slice (some ⟨w3.heap.size, 0, none⟩) n n) K2
  have hz3 := HZ3.out
  refine bodyPost_ret (v := .agg #[.int .i64 s, .slice (some ⟨w3.heap.size, 0, none⟩) n n]) (results_cell_row rfl _ _ (w.heap.size + 1) 44 _ (0, 0) _ rfl K3 Try.underlying44 rfl (by kernel_rfl)) rfl ⟨w3.heap.size, rfl, by omega, ?_, ?_⟩
  · rw [heap_setCell_other _ _ _ _ (by simp; omega), heap_setCell_other _ _ _ _ (by simp; omega), heap_setCell_other _ _ _ _ (by simp; omega)]
    exact HV.out
  · exact (((HB3.out.trans (HB4.out.mono (by omega))).setCell (by simp; omega) _).setCell (by simp) _).setCell (by simp) _
end Go.Proofs.Ytiignammhieidaa
