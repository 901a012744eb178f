/-
  Own work: the laws' marks: what a slice holds behind 'mark', and that 'held' finds it.
-/
import Derived.Test.YtiignammhieidaaBase
namespace Go.Proofs.Ytiignammhieidaa
open Go.ChangeShapes Go.WideShapes Go.ChangeAt Go.RowKit
set_option linter.unusedVariables false

def marks (k : Int) (n : Nat) : List Int := (List.range n).map (fun i : Nat => (k + (i : Int)) % 256)
theorem marks_len (k : Int) (n : Nat) : (marks k n).length = n := by simp [marks]
theorem marks_get (k : Int) (n i : Nat) (h : i < n) : (marks k n).getD i 0 = (k + i) % 256 := by simp [marks, h]

/-- At most the block that the slice leads to has turned. -/
structure WrO (a : Option Addr) (w w' : World) : Prop where
  os : w'.os = w.os
  tape : w'.tape = w.tape
  output : w'.output = w.output
  size : w'.heap.size = w.heap.size
  block : ∀ k, (∀ ad, a = some ad → k ≠ ad.block) → w'.heap[k]? = w.heap[k]?
theorem WrO.refl (a : Option Addr) (w : World) : WrO a w w := ⟨rfl, rfl, rfl, rfl, fun _ _ => rfl⟩
theorem WrO.setCell {a : Option Addr} {w w' : World} (h : WrO a w w') (ad : Addr) (ha : a = some ad) (o : Nat) (v : Value) : WrO a w (w'.setCell ⟨ad.block, o, none⟩ v) :=
  ⟨h.os, h.tape, h.output, by simp [World.setCell]; exact h.size, fun k hk => (heap_setCell_other w' ⟨ad.block, o, none⟩ k v (hk ad ha)).trans (h.block k hk)⟩
theorem WrO.below {a : Option Addr} {w w' : World} (h : WrO a w w') (B : Nat) (hB : ∀ ad, a = some ad → B ≤ ad.block) : Below B w w' :=
  ⟨h.os, h.tape, h.output, by rw [h.size]; exact Nat.le_refl _, fun k hk => h.block k (fun ad e => by have := hB ad e; omega)⟩

/-- The cells of the slice may be written. -/
def Open (w : World) (a : Option Addr) (n : Nat) : Prop :=
  n = 0 ∨ ∃ g o, a = some ⟨g, o, none⟩ ∧ g < w.heap.size ∧ ∀ i, i < n → (w.cell? ⟨g, o + i, none⟩).isSome = true ∧ w.frozen? ⟨g, o + i, none⟩ = false

set_option maxHeartbeats 400000 in
theorem markB_any (a : Option Addr) (n cap : Nat) (k : Int) (w : World) (ho : Open w a n) (hk : 0 ≤ k) (hk' : k + n ≤ 1099511627776) :
    Calls Try.prog 13 #[.slice a n cap, .int .i64 k] w fun e w' => e = .returned (.int .i64 (k + n)) ∧ At .u8 w' a (marks k n) ∧ WrO a w w' := by
  go_enter Try.func13, Try.ntmps13
  go_wp2
  go_loopw [1, 5] (fun q i wr => ∃ j : Nat, j ≤ n ∧ i = .int .i64 j ∧ q = .int .i64 (k + j) ∧ WrO a w wr ∧
      (n = 0 ∨ ∃ g o, a = some ⟨g, o, none⟩ ∧ g < w.heap.size ∧ (∀ t, t < n → (wr.cell? ⟨g, o + t, none⟩).isSome = true ∧ wr.frozen? ⟨g, o + t, none⟩ = false) ∧ ∀ t, t < j → wr.cell? ⟨g, o + t, none⟩ = some (.int .u8 ((k + (t : Int)) % 256)))) (fun _ i _ => n - (intOf i).toNat)
  case atStart =>
    refine ⟨0, Nat.zero_le _, rfl, by simp, WrO.refl _ _, ?_⟩
    rcases ho with h | ⟨g, o, h1, h2, h3⟩
    · exact .inl h
    · exact .inr ⟨g, o, h1, h2, h3, fun t ht => by omega⟩
  case round =>
    obtain ⟨j, hj, rfl, rfl, hwr, hs⟩ := hrel
    by_cases hlt : j < n
    · rcases hs with h | ⟨g, o, rfl, hg, hc, hd⟩
      · omega
      · obtain ⟨hc1, hf1⟩ := hc j hlt
        obtain ⟨v0, hv0⟩ := Option.isSome_iff_exists.1 hc1
        have HW : Hid (WrO (some ⟨g, o, none⟩) w (wr.setCell ⟨g, o + j, none⟩ (.int .u8 ((k + (j : Int)) % 256)))) := hwr.setCell _ rfl _ _
        have HC : Hid (∀ t, t < n → ((wr.setCell ⟨g, o + j, none⟩ (.int .u8 ((k + (j : Int)) % 256))).cell? ⟨g, o + t, none⟩).isSome = true ∧ (wr.setCell ⟨g, o + j, none⟩ (.int .u8 ((k + (j : Int)) % 256))).frozen? ⟨g, o + t, none⟩ = false) := by
          intro t ht
          obtain ⟨u, hu⟩ := Option.isSome_iff_exists.1 (hc t ht).1
          obtain ⟨u', hu'⟩ := cell?_setCell_some (w := wr) (p := ⟨g, o + j, none⟩) (x := .int .u8 ((k + (j : Int)) % 256)) (q := ⟨g, o + t, none⟩) (v := u) hu
          refine ⟨by rw [hu']; rfl, ?_⟩
          rw [World.frozen?_setCell]; exact (hc t ht).2
        have HD : Hid (∀ t, t < j + 1 → (wr.setCell ⟨g, o + j, none⟩ (.int .u8 ((k + (j : Int)) % 256))).cell? ⟨g, o + t, none⟩ = some (.int .u8 ((k + (t : Int)) % 256))) := by
          intro t ht
          by_cases e : t = j
          · subst e; exact World.cell?_setCell_same _ _ _ hv0
          · rw [World.cell?_setCell_other _ _ _ _ (by simp; try omega)]; exact hd t (by omega)
        clear hc hd hwr ho hc1
        go_wp2
        go_roundw
        case rel => exact ⟨j + 1, by omega, by go_num, by go_num, HW.out, .inr ⟨g, o, rfl, hg, HC.out, HD.out⟩⟩
        case measure => simp [intOf]; omega
    · have hjn : j = n := by omega
      subst hjn
      have HA : Hid (At .u8 wr a (marks k j)) := by
        rcases hs with h | ⟨g, o, rfl, hg, hc, hd⟩
        · subst h; exact .inl rfl
        · exact .inr ⟨g, o, rfl, by rw [hwr.size]; exact hg, fun i hi => by rw [marks_len] at hi; rw [hd i hi, marks_get k j i hi]⟩
      clear hs ho
      go_wp2
      go_ret
      exact ⟨rfl, HA.out, hwr⟩

set_option maxHeartbeats 400000 in
theorem heldB_any (a : Option Addr) (n cap : Nat) (k : Int) (w : World) (ha : At .u8 w a (marks k n)) (hk : 0 ≤ k) (hk' : k + n ≤ 1099511627776) :
    Calls Try.prog 33 #[.slice a n cap, .int .i64 k] w fun e w' => e = .returned (.int .i64 (k + n)) ∧ w' = w := by
  go_enter Try.func33, Try.ntmps33
  go_wp2
  go_loop [1, 5] (fun q i => ∃ j : Nat, j ≤ n ∧ i = .int .i64 j ∧ q = .int .i64 (k + j)) (fun _ i => n - (intOf i).toNat)
  case atStart => exact ⟨0, Nat.zero_le _, rfl, by simp⟩
  case round =>
    obtain ⟨j, hj, rfl, rfl⟩ := hrel
    by_cases hlt : j < n
    · obtain ⟨b, off, rfl, hb, hc⟩ := ha.get (by rw [marks_len]; omega)
      have hcj := hc j (by rw [marks_len]; omega)
      rw [marks_get k n j hlt] at hcj
      have hne : ((k + (j : Int)) % 256 != (k + (j : Int)) % 256) = false := by simp
      clear hc ha
      go_wp2
      go_round
      case rel => exact ⟨j + 1, by omega, by go_num, by go_num⟩
      case measure => simp [intOf]; omega
    · have hjn : j = n := by omega
      subst hjn
      go_wp2
      go_ret
      exact ⟨rfl, rfl⟩
end Go.Proofs.Ytiignammhieidaa
