/-
  Own work: acknowledgements in a book, by the program.
-/
import Derived.Test.YthghkfncpdnpoadSvU
namespace Go.Proofs.Ythghkfncpdnpoad
open Go.ChangeShapes Go.WideShapes Go.ChangeAt Go.RowKit
set_option linter.unusedVariables false
variable {w w' : World} {g : Nat} {d u : List Int} {k : Int} {v : Value}

set_option maxRecDepth 100000 in
set_option maxHeartbeats 1000000 in
theorem ackN_any (hb : Bk w g d u k (.slice none 0 0)) (h0 : 0 ≤ k) (h1 : k ≤ 1048576) :
    Calls Try.prog 104 #[.pointer (some ⟨g, 0, none⟩), .int .i64 k] w fun e w' => e = .returned (.tuple #[]) ∧ ∃ q, w' = (((w.setCell ⟨g, 65, none⟩ (.slice none 0 0)).drewN q).setCell ⟨g, 64, none⟩ (.int .i64 k)) := by
  have c0 := hb.ck
  have c1 := hb.cv
  have f0 := hb.fz 64
  have f1 := hb.fz 65
  have hb2 := hb.setV (.slice none 0 0)
  have c2 := hb2.ck
  have f2 := hb2.fz 64
  clear hb hb2
  go_enter Try.func104, Try.ntmps104
  go_wp2_with fail
  go_region
  go_wp2
  go_end0
  exact ⟨rfl, 1, rfl⟩
/-- The taps behind the first m. -/
def ackV (t o n c m : Nat) : Value := .slice (if c = m then some ⟨t, o, none⟩ else some ⟨t, o + m * 2, none⟩) (n - m : Nat) (c - m : Nat)
set_option maxRecDepth 100000 in
set_option maxHeartbeats 1000000 in
theorem ackS_any (t o n c m : Nat) (hb : Bk w g d u k (.slice (some ⟨t, o, none⟩) n c)) (h0 : 0 ≤ k) (h1 : k ≤ 1048576) (hm : m ≤ n) (hc : n ≤ c) (hn : n ≤ 1048576) (hcm : c ≤ 9223372036854775807) :
    Calls Try.prog 104 #[.pointer (some ⟨g, 0, none⟩), .int .i64 (k + m)] w fun e w' => e = .returned (.tuple #[]) ∧ ∃ q, w' = (((w.setCell ⟨g, 65, none⟩ (ackV t o n c m)).drewN q).setCell ⟨g, 64, none⟩ (.int .i64 (k + m))) := by
  have c0 := hb.ck
  have c1 := hb.cv
  have f0 := hb.fz 64
  have f1 := hb.fz 65
  have hb2 := hb.setV (ackV t o n c m)
  have c2 := hb2.ck
  have f2 := hb2.fz 64
  have HK : Hid ((k + (m : Int) - k).toNat = m) := by show _ = _; omega
  have HV : Hid (Value.slice (if c = m then some ⟨t, o, none⟩ else some ⟨t, o + m * 2, none⟩) (n - m : Nat) (c - m : Nat) = ackV t o n c m) := rfl
  clear hb hb2
  go_enter Try.func104, Try.ntmps104
  go_wp2_with fail
  go_region
  rw [HK.out, HV.out]
  clear HK HV
  go_wp2
  go_end0
  exact ⟨rfl, 1, rfl⟩
end Go.Proofs.Ythghkfncpdnpoad
namespace Go.Proofs.Ythghkfncpdnpoad
open Go.ChangeShapes Go.WideShapes Go.ChangeAt Go.RowKit
set_option linter.unusedVariables false
variable {w w' : World} {g : Nat} {d u : List Int} {k : Int} {v : Value}

/-- The value's block is not g. -/
def NeG (g : Nat) (v : Value) : Prop := ∀ t, v.ownBlock = some t → t ≠ g
/-- Taps in a block of the call's own, from B on. -/
def TapV (B : Nat) (w : World) (v : Value) (T : List Int) (n : Nat) : Prop :=
  T.length = n * 2 ∧ ((v = .slice none 0 0 ∧ n = 0) ∨
    ∃ t o c, v = .slice (some ⟨t, o, none⟩) n c ∧ B ≤ t ∧ t < w.heap.size ∧ n ≤ c ∧ c ≤ 9223372036854775807 ∧ ∀ i, i < n * 2 → w.cell? ⟨t, o + i, none⟩ = some (.int .i64 (T.getD i 0)) ∧ w.frozen? ⟨t, o + i, none⟩ = false)
theorem TapO.tapV {B : Nat} {T : List Int} {n : Nat} (h : TapO B w v T n) : TapV B w v T n := by
  have hT : T.length = n * 2 := by simpa using h.1
  refine ⟨hT, ?_⟩
  rcases h.2 with ⟨h1, h2⟩ | ⟨t, c, cur, h1, h2, h3, h4, h5, h6, h7⟩
  · exact .inl ⟨h1, h2⟩
  · refine .inr ⟨t, 0, c, h1, h2, (Array.getElem?_eq_some_iff.1 h3).1, h4, by unfold maxLen at h5; omega, fun i hi => ?_⟩
    rw [Nat.zero_add]
    refine ⟨?_, frozen_of_row _ _ _ _ _ h3⟩
    subst h1
    rw [World.ownsRow.cellAt h i hi]
    simp [show i < T.length by omega]
theorem TapV.block {B : Nat} {T : List Int} {n : Nat} (h : TapV B w v T n) (hs : w.heap.size ≤ w'.heap.size) (hb : ∀ t, v.ownBlock = some t → t < w.heap.size → w'.heap[t]? = w.heap[t]?) : TapV B w' v T n := by
  obtain ⟨h1, h2 | ⟨t, o, c, e, hB, ht, hc, hm, hx⟩⟩ := h
  · exact ⟨h1, .inl h2⟩
  · refine ⟨h1, .inr ⟨t, o, c, e, hB, by omega, hc, hm, fun i hi => ?_⟩⟩
    have hk := hb t (by rw [e]; rfl) ht
    rw [World.cell?_of_block (a := ⟨t, o + i, none⟩) (w := w) hk, World.frozen?_of_block (a := ⟨t, o + i, none⟩) (w := w) hk]
    exact hx i hi
theorem TapV.drop {B t o c : Nat} {T : List Int} {n : Nat} (h : TapV B w (.slice (some ⟨t, o, none⟩) n c) T n) (m : Nat) (hm : m ≤ n) : TapV B w (ackV t o n c m) (T.drop (m * 2)) (n - m) := by
  obtain ⟨h1, ⟨h2, _⟩ | ⟨t', o', c', e, hB, ht, hc, hx, hy⟩⟩ := h
  · cases h2
  · cases e
    refine ⟨by rw [List.length_drop]; omega, .inr ?_⟩
    unfold ackV
    by_cases he : c = m
    · rw [if_pos he]
      exact ⟨t, o, c - m, rfl, hB, ht, by omega, by omega, fun i hi => by omega⟩
    · rw [if_neg he]
      refine ⟨t, o + m * 2, c - m, rfl, hB, ht, by omega, by omega, fun i hi => ?_⟩
      have := hy (m * 2 + i) (by omega)
      rw [← Nat.add_assoc] at this
      rw [show (T.drop (m * 2)).getD i 0 = T.getD (m * 2 + i) 0 by simp [List.getD]]
      exact this
/-- What applying a frame to a book leaves. -/
def ApP (H B g : Nat) (w : World) (ok : Bool) (D U : Nat → Prop) (k : Int) (T : List Int) (n : Nat) (e : Ending) (w' : World) : Prop :=
  e = .returned (.bool ok) ∧ Below H w w' ∧ (ok = true → ∃ d u v, Bk w' g d u k v ∧ SetB d D ∧ SetB u U ∧ TapV B w' v T n ∧ NeG g v)
/-- The taps that are left, and the count, behind an acknowledgement of a. -/
def ackM (k a : Int) : Nat := (max a k - k).toNat
theorem bk_ack {B H : Nat} {T : List Int} {n m q : Nat} {v' : Value} {k' : Int} (hb : Bk w g d u k v) (hH : H ≤ g) (hgB : NeG g v') (hv : TapV B w v' T n) :
    Bk (((w.setCell ⟨g, 65, none⟩ v').drewN q).setCell ⟨g, 64, none⟩ (.int .i64 k')) g d u k' v' ∧ Below H w (((w.setCell ⟨g, 65, none⟩ v').drewN q).setCell ⟨g, 64, none⟩ (.int .i64 k')) ∧
      TapV B (((w.setCell ⟨g, 65, none⟩ v').drewN q).setCell ⟨g, 64, none⟩ (.int .i64 k')) v' T n := by
  have hw : Wr g w (((w.setCell ⟨g, 65, none⟩ v').drewN q).setCell ⟨g, 64, none⟩ (.int .i64 k')) := (((Wr.refl _ _).setCell _ _).drewN _).setCell _ _
  refine ⟨((hb.setV v').drew q).setK k', hw.below hH, hv.block (by rw [hw.size]; exact Nat.le_refl _) (fun t ht _ => hw.block t (hgB t ht))⟩
end Go.Proofs.Ythghkfncpdnpoad
