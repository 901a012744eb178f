/-
  Own work: acknowledgements in a book, by the program.
-/
import Derived.Test.YtmnoelfabldpfaaSvU
import Derived.Test.YtmnoelfabldpfaaSvK
import Derived.Test.YtmnoelfabldpfaaMSvM
import Derived.BigQuiet
namespace Go.Proofs.Ytmnoelfabldpfaa
open Go.ChangeShapes Go.WideShapes Go.ChangeAt Go.RowKit
set_option linter.unusedVariables false
variable {w w' : World} {g : Nat} {d u : List Int} {k : Int} {v : Value}
/-- The taps behind the first m. -/
def ackV (t o n c m : Nat) : Value := .slice (if c = m then some ⟨t, o, none⟩ else some ⟨t, o + m * 2, none⟩) (n - m : Nat) (c - m : Nat)
end Go.Proofs.Ytmnoelfabldpfaa
namespace Go.Proofs.Ytmnoelfabldpfaa
open Go.ChangeShapes Go.WideShapes Go.ChangeAt Go.RowKit
set_option linter.unusedVariables false
variable {w w' : World} {g : Nat} {d u : List Int} {k : Int} {v : Value}

/-- The value's block is not g. -/
def NeG (g : Nat) (v : Value) : Prop := ∀ t, v.ownBlock = some t → t ≠ g
/-- Taps in a block of the call's own, from B on. -/
def TapV (B : Nat) (w : World) (v : Value) (T : List Int) (n : Nat) : Prop :=
  T.length = n * 2 ∧ ((v = .slice none 0 0 ∧ n = 0) ∨
    ∃ t o c, v = .slice (some ⟨t, o, none⟩) n c ∧ B ≤ t ∧ t < w.heap.size ∧ n ≤ c ∧ c ≤ 9223372036854775807 ∧ ∀ i, i < n * 2 → w.cell? ⟨t, o + i, none⟩ = some (.int .i64 (T.getD i 0)) ∧ w.frozen? ⟨t, o + i, none⟩ = false)
theorem TapO.tapV {B : Nat} {T : List Int} {n : Nat} (h : TapO B w v T n) : TapV B w v T n := by
  have hT : T.length = n * 2 := by simpa using h.1
  refine ⟨hT, ?_⟩
  rcases h.2 with ⟨h1, h2⟩ | ⟨t, c, cur, h1, h2, h3, h4, h5, h6, h7⟩
  · exact .inl ⟨h1, h2⟩
  · refine .inr ⟨t, 0, c, h1, h2, (Array.getElem?_eq_some_iff.1 h3).1, h4, by unfold maxLen at h5; omega, fun i hi => ?_⟩
    rw [Nat.zero_add]
    refine ⟨?_, frozen_of_row _ _ _ _ _ h3⟩
    subst h1
    rw [World.ownsRow.cellAt h i hi]
    simp [show i < T.length by omega]
theorem TapV.block {B : Nat} {T : List Int} {n : Nat} (h : TapV B w v T n) (hs : w.heap.size ≤ w'.heap.size) (hb : ∀ t, v.ownBlock = some t → t < w.heap.size → w'.heap[t]? = w.heap[t]?) : TapV B w' v T n := by
  obtain ⟨h1, h2 | ⟨t, o, c, e, hB, ht, hc, hm, hx⟩⟩ := h
  · exact ⟨h1, .inl h2⟩
  · refine ⟨h1, .inr ⟨t, o, c, e, hB, by omega, hc, hm, fun i hi => ?_⟩⟩
    have hk := hb t (by rw [e]; rfl) ht
    rw [World.cell?_of_block (a := ⟨t, o + i, none⟩) (w := w) hk, World.frozen?_of_block (a := ⟨t, o + i, none⟩) (w := w) hk]
    exact hx i hi
theorem TapV.drop {B t o c : Nat} {T : List Int} {n : Nat} (h : TapV B w (.slice (some ⟨t, o, none⟩) n c) T n) (m : Nat) (hm : m ≤ n) : TapV B w (ackV t o n c m) (T.drop (m * 2)) (n - m) := by
  obtain ⟨h1, ⟨h2, _⟩ | ⟨t', o', c', e, hB, ht, hc, hx, hy⟩⟩ := h
  · cases h2
  · cases e
    refine ⟨by rw [List.length_drop]; omega, .inr ?_⟩
    unfold ackV
    by_cases he : c = m
    · rw [if_pos he]
      exact ⟨t, o, c - m, rfl, hB, ht, by omega, by omega, fun i hi => by omega⟩
    · rw [if_neg he]
      refine ⟨t, o + m * 2, c - m, rfl, hB, ht, by omega, by omega, fun i hi => ?_⟩
      have := hy (m * 2 + i) (by omega)
      rw [← Nat.add_assoc] at this
      rw [show (T.drop (m * 2)).getD i 0 = T.getD (m * 2 + i) 0 by simp [List.getD]]
      exact this
/-- What applying a frame to a book leaves. -/
def ApP (H B g : Nat) (w : World) (ok : Bool) (D U : Nat → Prop) (k : Int) (T : List Int) (n : Nat) (e : Ending) (w' : World) : Prop :=
  e = .returned (.bool ok) ∧ Below H w w' ∧ (ok = true → ∃ d u v, Bk w' g d u k v ∧ SetB d D ∧ SetB u U ∧ TapV B w' v T n ∧ NeG g v)
/-- The taps that are left, and the count, behind an acknowledgement of a. -/
def ackM (k a : Int) : Nat := (max a k - k).toNat
theorem bk_ack {B H : Nat} {T : List Int} {n m q : Nat} {v' : Value} {k' : Int} (hb : Bk w g d u k v) (hH : H ≤ g) (hgB : NeG g v') (hv : TapV B w v' T n) :
    Bk (((w.setCell ⟨g, 65, none⟩ v').drewN q).setCell ⟨g, 64, none⟩ (.int .i64 k')) g d u k' v' ∧ Below H w (((w.setCell ⟨g, 65, none⟩ v').drewN q).setCell ⟨g, 64, none⟩ (.int .i64 k')) ∧
      TapV B (((w.setCell ⟨g, 65, none⟩ v').drewN q).setCell ⟨g, 64, none⟩ (.int .i64 k')) v' T n := by
  have hw : Wr g w (((w.setCell ⟨g, 65, none⟩ v').drewN q).setCell ⟨g, 64, none⟩ (.int .i64 k')) := (((Wr.refl _ _).setCell _ _).drewN _).setCell _ _
  refine ⟨((hb.setV v').drew q).setK k', hw.below hH, hv.block (by rw [hw.size]; exact Nat.le_refl _) (fun t ht _ => hw.block t (hgB t ht))⟩
end Go.Proofs.Ytmnoelfabldpfaa
namespace Go.Proofs.Ytmnoelfabldpfaa
open Go.ChangeShapes Go.WideShapes Go.ChangeAt Go.RowKit
set_option linter.unusedVariables false

open Classical in
noncomputable def memB (v : Int) (xs : List Int) : Bool := decide (v ∈ xs)
theorem memB_no {v : Int} {xs : List Int} (h : ¬ v ∈ xs) : memB v xs = false := by unfold memB; simp [h]
theorem memB_yes {v : Int} {xs : List Int} (h : v ∈ xs) : memB v xs = true := by unfold memB; simp [h]
theorem getD_mem {xs : List Int} {k : Nat} (h : k < xs.length) : xs.getD k 0 ∈ xs := by
  rw [List.getD_eq_getElem?_getD, List.getElem?_eq_getElem h]; exact List.getElem_mem h
set_option maxHeartbeats 1000000 in
theorem holds_any (a : Option Addr) (n cap : Nat) (xs : List Int) (v : Int) (w : World) (hn : xs.length = n) (hm : n ≤ 1048576) (ha : At .i64 w a xs) :
    Calls Try.prog 48 #[.slice a n cap, .int .i64 v] w fun e w' => e = .returned (.bool (memB v xs)) ∧ w' = w := by
  have HNX : Hid (xs.length = n) := hn
  have HA : Hid (At .i64 w a xs) := ha
  clear hn ha
  go_enter Try.func48, Try.ntmps48
  go_wp2
  go_loop [5] (fun i => ∃ k : Nat, k ≤ n ∧ i = .int .i64 k ∧ Hid (∀ j, j < k → xs.getD j 0 ≠ v)) (fun i => n - (intOf i).toNat)
  case atStart => exact ⟨0, Nat.zero_le _, rfl, fun j hj => by omega⟩
  case round =>
    obtain ⟨k, hk, rfl, hno⟩ := hrel
    by_cases hlt : k < n
    · have hlt' : (k : Int) < n := by omega
      obtain ⟨b, off, ea, hb, hc⟩ := HA.out.get (by have := HNX.out; omega)
      subst ea
      have hck := hc k (by have := HNX.out; omega)
      by_cases he : xs.getD k 0 = v
      · have HM : Hid (memB v xs = true) := memB_yes (by rw [← he]; exact getD_mem (by have := HNX.out; omega))
        rw [he] at hck
        clear hc he hb
        go_wp2
        go_ret
        exact ⟨by rw [HM.out]; rfl, rfl⟩
      · have HN : Hid (∀ j, j < k + 1 → xs.getD j 0 ≠ v) := fun j hj => by
          by_cases hjk : j < k
          · exact hno.out j hjk
          · have : j = k := by omega
            rw [this]; exact he
        have he' : (xs.getD k 0 == v) = false := by simpa using he
        clear hc hb hno he
        generalize xs.getD k 0 = x at *
        go_wp2
        go_round
        case rel => exact ⟨k + 1, by omega, by go_num, HN⟩
        case measure => simp [intOf]; omega
    · have hlt' : ¬ ((k : Int) < n) := by omega
      have HM : Hid (memB v xs = false) := memB_no (fun h => by
        obtain ⟨i, hi, rfl⟩ := List.getElem_of_mem h
        have := hno.out i (by have := HNX.out; omega)
        rw [List.getD_eq_getElem?_getD, List.getElem?_eq_getElem hi] at this
        exact this rfl)
      go_wp2
      go_ret
      exact ⟨by rw [HM.out]; rfl, rfl⟩
set_option maxHeartbeats 4000000 in
theorem serials_any (a : Option Addr) (n cap : Nat) (xs : List Int) (w : World) (hn : xs.length = n) (hm : n ≤ 1048576) (ha : At .i64 w a xs) :
    Calls Try.prog 47 #[.slice a n cap] w fun e w' => e = .returned (.bool (serB xs)) ∧ ∃ q, w' = w.drewN q := by
  have HNX : Hid (xs.length = n) := hn
  have HA : Hid (At .i64 w a xs) := ha
  clear hn ha
  go_enter Try.func47, Try.ntmps47
  go_wp2
  go_loopw [3] (fun i wr => ∃ k : Nat, k ≤ n ∧ i = .int .i64 k ∧ Hid (∀ j, j < k → okI xs j) ∧ Hid (∃ q, wr = w.drewN q)) (fun i _ => n - (intOf i).toNat)
  case atStart => exact ⟨0, Nat.zero_le _, rfl, fun j hj => by omega, ⟨0, rfl⟩⟩
  case round =>
    obtain ⟨k, hk, rfl, hno, hwq⟩ := hrel
    obtain ⟨q, rfl⟩ := hwq.out
    clear hwq
    by_cases hlt : k < n
    · have hlt' : (k : Int) < n := by omega
      obtain ⟨b, off, ea, hb, hc⟩ := HA.out.get (by have := HNX.out; omega)
      subst ea
      have hck := hc k (by have := HNX.out; omega)
      by_cases h0 : xs.getD k 0 < 0
      · have HS : Hid (serB xs = false) := serB_no (fun h => by have := (h k (by have := HNX.out; omega)).1; omega)
        clear hc hb hno
        generalize xs.getD k 0 = x at *
        go_wp2_with fail
        go_quiet (fail)
        go_wp2
        go_ret
        exact ⟨by rw [HS.out]; rfl, q + nq, dN _ _ _⟩
      · have h0' : decide (xs.getD k 0 < 0) = false := decide_eq_false h0
        by_cases h1 : 256 ≤ xs.getD k 0
        · have HS : Hid (serB xs = false) := serB_no (fun h => by have := (h k (by have := HNX.out; omega)).2.1; omega)
          clear hc hb hno h0
          generalize xs.getD k 0 = x at *
          go_wp2_with fail
          go_quiet (fail)
          go_wp2
          go_ret
          exact ⟨by rw [HS.out]; rfl, q + nq, dN _ _ _⟩
        · have h1' : decide (256 ≤ xs.getD k 0) = false := decide_eq_false h1
          by_cases hk0 : 0 < k
          · obtain ⟨m, rfl⟩ : ∃ m, k = m + 1 := ⟨k - 1, by omega⟩
            have hck1 := hc m (by have := HNX.out; omega)
            have hk0' : (0 : Int) < ((m + 1 : Nat) : Int) := by omega
            by_cases h2 : xs.getD (m + 1) 0 ≤ xs.getD m 0
            · have HS : Hid (serB xs = false) := serB_no (fun h => by have := (h (m + 1) (by have := HNX.out; omega)).2.2 (by omega); rw [Nat.add_sub_cancel] at this; omega)
              clear hc hb hno h0 h1 hk0
              generalize xs.getD (m + 1) 0 = x at *
              generalize xs.getD m 0 = y at *
              go_wp2_with fail
              go_quiet (fail)
              go_wp2
              go_ret
              exact ⟨by rw [HS.out]; rfl, q + nq, dN _ _ _⟩
            · have h2' : decide (xs.getD (m + 1) 0 ≤ xs.getD m 0) = false := decide_eq_false h2
              have HN : Hid (∀ j, j < m + 1 + 1 → okI xs j) := fun j hj => by
                by_cases hjk : j < m + 1
                · exact hno.out j hjk
                · have : j = m + 1 := by omega
                  rw [this]; exact ⟨by omega, by omega, fun _ => by rw [Nat.add_sub_cancel]; omega⟩
              clear hc hb hno h0 h1 hk0 h2
              generalize xs.getD (m + 1) 0 = x at *
              generalize xs.getD m 0 = y at *
              go_wp2_with fail
              go_quiet (fail)
              go_wp2
              go_roundw
              case rel => exact ⟨m + 1 + 1, by omega, by go_num, HN, ⟨q + nq, rfl⟩⟩
              case measure => simp [intOf]; omega
          · have hkd : decide (0 < k) = false := decide_eq_false (by omega)
            have HN : Hid (∀ j, j < k + 1 → okI xs j) := fun j hj => by
              have : j = k := by omega
              rw [this]; exact ⟨by omega, by omega, fun h => by omega⟩
            clear hc hb hno h0 h1 hk0
            generalize xs.getD k 0 = x at *
            go_wp2_with fail
            go_quiet (fail)
            go_wp2
            go_roundw
            case rel => exact ⟨k + 1, by omega, by go_num, HN, ⟨q + nq, rfl⟩⟩
            case measure => simp [intOf]; omega
    · have hlt' : ¬ ((k : Int) < n) := by omega
      have HS : Hid (serB xs = true) := serB_yes (fun i hi => hno.out i (by have := HNX.out; omega))
      go_wp2
      go_ret
      exact ⟨by rw [HS.out]; rfl, q, rfl⟩
end Go.Proofs.Ytmnoelfabldpfaa
