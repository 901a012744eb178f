/-
  Own work: a block mixed into the words, by the model (1).
-/
import Derived.Test.YtkmljldcnchlmaaDoorShL
import Derived.Test.YtkmljldcnchlmaaDoorShG
import Derived.Test.YtkmljldcnchlmaaDoorSMul
namespace Go.Proofs.YtkmljldcnchlmaaDoor
open Go.ChangeShapes Go.WideShapes Go.ChangeAt Go.RowKit
set_option linter.unusedVariables false

theorem run_sliceB (w : World) (b o c t : Nat) (ht : t < 16) (hc : 128 ≤ c) : (Instr.sliceAt 22 (.slice (some ⟨b, o, none⟩) 128 c) (some (.int .i64 (8 * (t : Int)))) (some (.int .i64 (8 * (t : Int) + 8))) none).run Tryd.prog w = .ok (.slice (some ⟨b, o + 8 * t, none⟩) 8 (c - 8 * t)) w := by
  have h2 : (8 * (t : Int) + 8) ≤ (c : Int) := by omega
  have h3 : (8 * (t : Int) + 8).toNat = 8 * t + 8 := by omega
  have h4 : ¬ (c = 8 * t) := by omega
  have h5 : (8 * (t : Int)).toNat = 8 * t := by omega
  have h6 : (0 : Int) ≤ 8 * (t : Int) := by omega
  have h7 : (0 : Int) ≤ 8 * (t : Int) + 8 := by omega
  unfold Instr.sliceAt
  simp [run_underlying Tryd.underlying22, go_sem, Instr.sliceBounds, h2, h3, h4, h5, h6, h7, Addr.add]
  rw [if_pos (by omega)]
  by_cases h0 : t = 0
  · subst h0; simp
  · rw [if_neg (by omega)]

/-- What l3Block is handed. -/
structure BK (w : World) (bh oh bb ob bk : Nat) (hs bs : List Int) : Prop where
  h : bh < w.heap.size ∧ ∀ i, i < 8 → w.cell? ⟨bh, oh + i, none⟩ = some (.int .u64 (hs.getD i 0))
  b : bb < w.heap.size ∧ ∀ i, i < 128 → w.cell? ⟨bb, ob + i, none⟩ = some (.int .u8 (bs.getD i 0))
  k : bk < w.heap.size ∧ ∀ i, i < 88 → w.cell? ⟨bk, i, none⟩ = some (.int .u64 (kt i))
theorem BK.below {w w' : World} {bh oh bb ob bk : Nat} {hs bs : List Int} (h : BK w bh oh bb ob bk hs bs) (hb : Below w.heap.size w w') : BK w' bh oh bb ob bk hs bs := by
  have := hb.size
  exact ⟨⟨by have := h.h.1; omega, fun i hi => by rw [World.cell?_of_block (w := w) (hb.block bh h.h.1)]; exact h.h.2 i hi⟩, ⟨by have := h.b.1; omega, fun i hi => by rw [World.cell?_of_block (w := w) (hb.block bb h.b.1)]; exact h.b.2 i hi⟩, ⟨by have := h.k.1; omega, fun i hi => by rw [World.cell?_of_block (w := w) (hb.block bk h.k.1)]; exact h.k.2 i hi⟩⟩

theorem rs1 (x : Int) (w : World) (hx : U64 x) : Calls Tryd.prog 22 #[.int .u64 x, .int .u64 1] w fun e w' => e = .returned (.int .u64 (rtr 1 x)) ∧ w' = w := rotS_any x 1 w (by decide) hx
theorem rs8 (x : Int) (w : World) (hx : U64 x) : Calls Tryd.prog 22 #[.int .u64 x, .int .u64 8] w fun e w' => e = .returned (.int .u64 (rtr 8 x)) ∧ w' = w := rotS_any x 8 w (by decide) hx
theorem rs19 (x : Int) (w : World) (hx : U64 x) : Calls Tryd.prog 22 #[.int .u64 x, .int .u64 19] w fun e w' => e = .returned (.int .u64 (rtr 19 x)) ∧ w' = w := rotS_any x 19 w (by decide) hx
theorem rs61 (x : Int) (w : World) (hx : U64 x) : Calls Tryd.prog 22 #[.int .u64 x, .int .u64 61] w fun e w' => e = .returned (.int .u64 (rtr 61 x)) ∧ w' = w := rotS_any x 61 w (by decide) hx
theorem rs28 (x : Int) (w : World) (hx : U64 x) : Calls Tryd.prog 22 #[.int .u64 x, .int .u64 28] w fun e w' => e = .returned (.int .u64 (rtr 28 x)) ∧ w' = w := rotS_any x 28 w (by decide) hx
theorem rs34 (x : Int) (w : World) (hx : U64 x) : Calls Tryd.prog 22 #[.int .u64 x, .int .u64 34] w fun e w' => e = .returned (.int .u64 (rtr 34 x)) ∧ w' = w := rotS_any x 34 w (by decide) hx
theorem rs39 (x : Int) (w : World) (hx : U64 x) : Calls Tryd.prog 22 #[.int .u64 x, .int .u64 39] w fun e w' => e = .returned (.int .u64 (rtr 39 x)) ∧ w' = w := rotS_any x 39 w (by decide) hx
theorem rs14 (x : Int) (w : World) (hx : U64 x) : Calls Tryd.prog 22 #[.int .u64 x, .int .u64 14] w fun e w' => e = .returned (.int .u64 (rtr 14 x)) ∧ w' = w := rotS_any x 14 w (by decide) hx
theorem rs18 (x : Int) (w : World) (hx : U64 x) : Calls Tryd.prog 22 #[.int .u64 x, .int .u64 18] w fun e w' => e = .returned (.int .u64 (rtr 18 x)) ∧ w' = w := rotS_any x 18 w (by decide) hx
theorem rs41 (x : Int) (w : World) (hx : U64 x) : Calls Tryd.prog 22 #[.int .u64 x, .int .u64 41] w fun e w' => e = .returned (.int .u64 (rtr 41 x)) ∧ w' = w := rotS_any x 41 w (by decide) hx
end Go.Proofs.YtkmljldcnchlmaaDoor
