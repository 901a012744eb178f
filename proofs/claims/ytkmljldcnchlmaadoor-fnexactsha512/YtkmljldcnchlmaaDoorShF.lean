/-
  Own work: a block mixed into the words, by the program.
-/
import Derived.Test.YtkmljldcnchlmaaDoorShE
import Derived.Test.YtkmljldcnchlmaaDoorRConS
namespace Go.Proofs.YtkmljldcnchlmaaDoor
open Go.ChangeShapes Go.WideShapes Go.ChangeAt Go.RowKit
set_option linter.unusedVariables false

/-- Nothing that was there has changed but block g. -/
structure FrG (g : Nat) (w w' : World) : Prop where
  os : w'.os = w.os
  tape : w'.tape = w.tape
  output : w'.output = w.output
  size : w.heap.size ≤ w'.heap.size
  block : ∀ k, k < w.heap.size → k ≠ g → w'.heap[k]? = w.heap[k]?
theorem FrG.refl (g : Nat) (w : World) : FrG g w w := ⟨rfl, rfl, rfl, Nat.le_refl _, fun _ _ _ => rfl⟩
theorem FrG.trans {g : Nat} {a b c : World} (h : FrG g a b) (k : FrG g b c) : FrG g a c :=
  ⟨k.os.trans h.os, k.tape.trans h.tape, k.output.trans h.output, Nat.le_trans h.size k.size, fun i hi hg => (k.block i (Nat.lt_of_lt_of_le hi h.size) hg).trans (h.block i hi hg)⟩
theorem Wr.frg {g : Nat} {w w' : World} (h : Wr g w w') : FrG g w w' := ⟨h.os, h.tape, h.output, by rw [h.size]; exact Nat.le_refl _, fun k _ hg => h.block k hg⟩
theorem frg_below {g : Nat} {w w' : World} (h : Below w.heap.size w w') : FrG g w w' := ⟨h.os, h.tape, h.output, h.size, fun k hk _ => h.block k hk⟩
theorem FrG.below {g B : Nat} {w w' : World} (h : FrG g w w') (hB : B ≤ g) (hw : B ≤ w.heap.size) : Below B w w' := ⟨h.os, h.tape, h.output, h.size, fun k hk => h.block k (by omega) (by omega)⟩
theorem FrG.row {g q : Nat} {w w' : World} {e : TypeId} {zs : List Int} (h : FrG g w w') (hr : Row w q e zs) (hq : q ≠ g) : Row w' q e zs := by unfold Row; rw [h.block q hr.lt hq]; exact hr
theorem FrG.rowW {g q : Nat} {w w' : World} {e : TypeId} {zs : List Int} (h : FrG g w w') (hr : RowW w q e zs) (hq : q ≠ g) : RowW w' q e zs := by unfold RowW; rw [h.block q hr.lt hq]; exact hr

/-- The words behind one turn. -/
def rnd (v : List Int) (x : Int) : List Int :=
  [IntKind.u64.wrap (rt1 (v.getD 0 0) (v.getD 1 0) (v.getD 2 0) (v.getD 3 0) (v.getD 4 0) (v.getD 5 0) (v.getD 6 0) (v.getD 7 0) x + rt2 (v.getD 0 0) (v.getD 1 0) (v.getD 2 0)), v.getD 0 0, v.getD 1 0, v.getD 2 0,
   IntKind.u64.wrap (v.getD 3 0 + rt1 (v.getD 0 0) (v.getD 1 0) (v.getD 2 0) (v.getD 3 0) (v.getD 4 0) (v.getD 5 0) (v.getD 6 0) (v.getD 7 0) x), v.getD 4 0, v.getD 5 0, v.getD 6 0]
def W8 (v : List Int) : Prop := v.length = 8 ∧ ∀ i, U64 (v.getD i 0)
theorem W8.eight {v : List Int} (h : W8 v) : v = [v.getD 0 0, v.getD 1 0, v.getD 2 0, v.getD 3 0, v.getD 4 0, v.getD 5 0, v.getD 6 0, v.getD 7 0] := by
  obtain ⟨hl, _⟩ := h
  match v, hl with
  | [a, b, c, d, e, f, q, z], _ => rfl
theorem u64_zero : U64 0 := ⟨by decide, by decide⟩
theorem w8_of {a b c d e f q z : Int} (ha : U64 a) (hb : U64 b) (hc : U64 c) (hd : U64 d) (he : U64 e) (hf : U64 f) (hq : U64 q) (hz : U64 z) : W8 [a, b, c, d, e, f, q, z] :=
  ⟨rfl, fun i => by
    match i with
    | 0 => exact ha
    | 1 => exact hb
    | 2 => exact hc
    | 3 => exact hd
    | 4 => exact he
    | 5 => exact hf
    | 6 => exact hq
    | 7 => exact hz
    | n + 8 => exact u64_zero⟩
theorem rnd_w8 {v : List Int} (h : W8 v) (x : Int) : W8 (rnd v x) := w8_of (u64_wrap _) (h.2 0) (h.2 1) (h.2 2) (u64_wrap _) (h.2 4) (h.2 5) (h.2 6)
theorem roundL_any (g : Nat) (ty : TypeId) (v : List Int) (x : Int) (w : World) (hr : RowW w g ty v) (hv : W8 v) (hx : U64 x) :
    Calls Tryd.prog 24 #[.pointer (some ⟨g, 0, none⟩), .int .u64 x] w fun en w' => en = .returned (.tuple #[]) ∧ RowW w' g ty (rnd v x) ∧ Wr g w w' := by
  have e := hv.eight
  refine round_any g ty (v.getD 0 0) (v.getD 1 0) (v.getD 2 0) (v.getD 3 0) (v.getD 4 0) (v.getD 5 0) (v.getD 6 0) (v.getD 7 0) x w ?_ (hv.2 0) (hv.2 1) (hv.2 2) (hv.2 3) (hv.2 4) (hv.2 5) (hv.2 6) (hv.2 7) hx
  have h2 := hr
  unfold RowW at h2
  rw [e] at h2
  exact h2

def kt (t : Nat) : Int := ((tab.getD t 0 : Nat) : Int)
theorem kt_u64 (t : Nat) : U64 (kt t) := by
  unfold kt
  rw [tab_get]
  have := Nat.mod_lt (rts.getD t 0) (show 0 < 18446744073709551616 by decide)
  exact ⟨by omega, by omega⟩
def rnds (hs bs : List Int) : Nat → List Int
  | 0 => hs
  | t + 1 => rnd (rnds hs bs t) (IntKind.u64.wrap (kt t + wd bs t))
theorem rnds_w8 {hs : List Int} (h : W8 hs) (bs : List Int) (t : Nat) : W8 (rnds hs bs t) := by
  induction t with
  | zero => exact h
  | succ t ih => exact rnd_w8 ih _
/-- The words hs with k of them added. -/
def mixA (hs vs : List Int) (k : Nat) : List Int := (List.range 8).map fun i => if i < k then IntKind.u64.wrap (hs.getD i 0 + vs.getD i 0) else hs.getD i 0
theorem mixA_len (hs vs : List Int) (k : Nat) : (mixA hs vs k).length = 8 := by simp [mixA]
theorem mixA_get (hs vs : List Int) (k i : Nat) (h : i < 8) : (mixA hs vs k).getD i 0 = if i < k then IntKind.u64.wrap (hs.getD i 0 + vs.getD i 0) else hs.getD i 0 := by unfold mixA; simp [List.getD, h]
theorem mixA_zero {hs : List Int} (h : W8 hs) (vs : List Int) : mixA hs vs 0 = hs := by
  rw [h.eight]; rfl
theorem mixA_set (hs vs : List Int) (k : Nat) (h : k < 8) : (mixA hs vs k).set k (IntKind.u64.wrap (hs.getD k 0 + vs.getD k 0)) = mixA hs vs (k + 1) := by
  apply List.ext_getElem?
  intro i
  rw [List.getElem?_set]
  unfold mixA
  by_cases h1 : k = i
  · subst h1; simp [h]
  · rw [if_neg h1]
    by_cases h2 : i < 8
    · have e : (i < k + 1) = (i < k) := by apply propext; omega
      simp [h2, e]
    · simp [h2]
/-- The eight words behind a block. -/
def mixL (hs bs : List Int) : List Int := mixA hs (rnds hs bs 80) 8
theorem mixL_w8 (hs bs : List Int) : W8 (mixL hs bs) := ⟨mixA_len _ _ _, fun i => by
  unfold mixL
  by_cases h : i < 8
  · rw [mixA_get _ _ _ _ h, if_pos h]; exact u64_wrap _
  · rw [List.getD_eq_getElem?_getD, List.getElem?_eq_none (by rw [mixA_len]; omega)]; exact u64_zero⟩

theorem idx80 (w : World) (vs : List Int) (hl : vs.length = 80) (k : Nat) (hk : k < 80) : (Instr.index 49 (.agg (vs.map (Value.int .u64)).toArray) (.int .i64 (k : Int))).run Tryd.prog w = .ok (.int .u64 (vs.getD k 0)) w := by
  have h2 : k < vs.length := by omega
  simp [Instr.index, run_underlying Tryd.underlying49, asIntOf, part, go_sem, h2]
  omega
theorem idx8 (w : World) (vs : List Int) (hl : vs.length = 8) (k : Nat) (hk : k < 8) : (Instr.index 33 (.agg (vs.map (Value.int .u64)).toArray) (.int .i64 (k : Int))).run Tryd.prog w = .ok (.int .u64 (vs.getD k 0)) w := by
  have h2 : k < vs.length := by omega
  simp [Instr.index, run_underlying Tryd.underlying33, asIntOf, part, go_sem, h2]
  omega

theorem TabIn.frg {w w' : World} (h : TabIn w) (hw : ∀ k, k < w.heap.size → k = 0 → w'.heap[k]? = w.heap[k]?) : TabIn w' := fun i hi => by
  have hc := h i hi
  have hz : 0 < w.heap.size := block_lt_of_cell (a := ⟨0, 0, none⟩) (h 0 (by decide))
  rw [← hc]
  exact World.cell?_of_block (hw 0 hz rfl)
end Go.Proofs.YtkmljldcnchlmaaDoor
