/-
  Own work: a book in memory, and its small methods, by the program.
-/
import Derived.Test.YtmnoelfabldpfaaMSvQ
namespace Go.Proofs.Ytmnoelfabldpfaa
open Go.ChangeShapes Go.WideShapes Go.ChangeAt Go.RowKit
set_option linter.unusedVariables false

theorem bkC_get (d u : List Int) (k : Int) (v : Value) (i : Nat) : (bkC d u k v)[i]? = (d.map (Value.int .u8) ++ u.map (Value.int .u8) ++ [.int .i64 k, v])[i]? := by unfold bkC; simp
theorem bkC_d {d u : List Int} (hd : d.length = 32) (hu : u.length = 32) (k : Int) (v : Value) (i : Nat) (hi : i < 32) : (bkC d u k v)[i]? = some (.int .u8 (d.getD i 0)) := by
  rw [bkC_get, List.append_assoc, List.getElem?_append_left (by simp [hd, hi])]
  simp [hd, hi]
theorem bkC_u {d u : List Int} (hd : d.length = 32) (hu : u.length = 32) (k : Int) (v : Value) (i : Nat) (hi : i < 32) : (bkC d u k v)[32 + i]? = some (.int .u8 (u.getD i 0)) := by
  rw [bkC_get, List.getElem?_append_left (by simp [hd, hu]; omega), List.getElem?_append_right (by simp [hd])]
  simp [hd, hu, hi]
theorem bkC_k {d u : List Int} (hd : d.length = 32) (hu : u.length = 32) (k : Int) (v : Value) : (bkC d u k v)[64]? = some (.int .i64 k) := by
  rw [bkC_get, List.getElem?_append_right (by simp [hd, hu])]
  simp [hd, hu]
theorem bkC_v {d u : List Int} (hd : d.length = 32) (hu : u.length = 32) (k : Int) (v : Value) : (bkC d u k v)[65]? = some v := by
  rw [bkC_get, List.getElem?_append_right (by simp [hd, hu])]
  simp [hd, hu]
theorem bkC_set_d {d u : List Int} (hd : d.length = 32) (k : Int) (v : Value) (i : Nat) (hi : i < 32) (x : Int) : (bkC d u k v).setIfInBounds i (.int .u8 x) = bkC (d.set i x) u k v := by
  unfold bkC
  rw [List.setIfInBounds_toArray, List.append_assoc, List.set_append_left _ _ (by simp [hd, hi]), ← List.append_assoc, ← List.map_set]
theorem bkC_set_u {d u : List Int} (hd : d.length = 32) (hu : u.length = 32) (k : Int) (v : Value) (i : Nat) (hi : i < 32) (x : Int) : (bkC d u k v).setIfInBounds (32 + i) (.int .u8 x) = bkC d (u.set i x) k v := by
  unfold bkC
  rw [List.setIfInBounds_toArray, List.set_append_left _ _ (by simp [hd, hu]; omega), List.set_append_right _ _ (by simp [hd]), List.length_map, hd, Nat.add_sub_cancel_left, ← List.map_set]
theorem bkC_set_k {d u : List Int} (hd : d.length = 32) (hu : u.length = 32) (k : Int) (v : Value) (k' : Int) : (bkC d u k v).setIfInBounds 64 (.int .i64 k') = bkC d u k' v := by
  unfold bkC
  rw [List.setIfInBounds_toArray, List.set_append_right _ _ (by simp [hd, hu])]
  simp [hd, hu]
theorem bkC_set_v {d u : List Int} (hd : d.length = 32) (hu : u.length = 32) (k : Int) (v v' : Value) : (bkC d u k v).setIfInBounds 65 v' = bkC d u k v' := by
  unfold bkC
  rw [List.setIfInBounds_toArray, List.set_append_right _ _ (by simp [hd, hu])]
  simp [hd, hu]
/-- A book in block g. -/
structure Bk (w : World) (g : Nat) (d u : List Int) (k : Int) (v : Value) : Prop where
  row : w.heap[g]? = some (.cells (bkC d u k v) 96 (0, 0))
  ld : d.length = 32
  lu : u.length = 32
  bd : Byte d
  bu : Byte u
variable {w w' : World} {g : Nat} {d u : List Int} {k : Int} {v : Value}
theorem Bk.lt (h : Bk w g d u k v) : g < w.heap.size := (Array.getElem?_eq_some_iff.1 h.row).1
theorem Bk.batd (h : Bk w g d u k v) : BAt w g 0 d := ⟨h.ld, h.bd, fun i hi => by
  rw [Nat.zero_add]; exact ⟨(cell_of_row _ _ _ _ _ _ h.row).trans (bkC_d h.ld h.lu k v i hi), frozen_of_row _ _ _ _ _ h.row⟩⟩
theorem Bk.batu (h : Bk w g d u k v) : BAt w g 32 u := ⟨h.lu, h.bu, fun i hi => ⟨(cell_of_row _ _ _ _ _ _ h.row).trans (bkC_u h.ld h.lu k v i hi), frozen_of_row _ _ _ _ _ h.row⟩⟩
theorem Bk.ck (h : Bk w g d u k v) : w.cell? ⟨g, 64, none⟩ = some (.int .i64 k) := (cell_of_row _ _ _ _ _ _ h.row).trans (bkC_k h.ld h.lu k v)
theorem Bk.cv (h : Bk w g d u k v) : w.cell? ⟨g, 65, none⟩ = some v := (cell_of_row _ _ _ _ _ _ h.row).trans (bkC_v h.ld h.lu k v)
theorem Bk.fz (h : Bk w g d u k v) (i : Nat) : w.frozen? ⟨g, i, none⟩ = false := frozen_of_row _ _ _ _ _ h.row
theorem Bk.below (h : Bk w g d u k v) {B : Nat} (b : Below B w w') (hg : g < B) : Bk w' g d u k v := ⟨by rw [b.block g hg]; exact h.row, h.ld, h.lu, h.bd, h.bu⟩
theorem Bk.drew (h : Bk w g d u k v) (q : Nat) : Bk (w.drewN q) g d u k v := ⟨h.row, h.ld, h.lu, h.bd, h.bu⟩
theorem addB_len (bs : List Int) (i : Nat) : (addB bs i).length = bs.length := by unfold addB; simp
theorem remB_len (bs : List Int) (i : Nat) : (remB bs i).length = bs.length := by unfold remB; simp
theorem addB_byte {bs : List Int} (h : Byte bs) (i : Nat) : Byte (addB bs i) := by
  have hx := h.get (i / 8)
  obtain ⟨a, b, c⟩ := u8_or_bit _ (i % 8) hx.1 hx.2 (by omega)
  exact byte_set h _ _ a b
theorem remB_byte {bs : List Int} (h : Byte bs) (i : Nat) : Byte (remB bs i) := by
  have hx := h.get (i / 8)
  obtain ⟨a, b, c⟩ := u8_not_bit _ (i % 8) hx.1 hx.2 (by omega)
  exact byte_set h _ _ a b
theorem addB_cell (bs : List Int) (i : Nat) (h : i / 8 < bs.length) : bs.set (i / 8) ((addB bs i).getD (i / 8) 0) = addB bs i := by
  unfold addB; rw [getD_set8 _ _ _ _ h, if_pos rfl]
theorem remB_cell (bs : List Int) (i : Nat) (h : i / 8 < bs.length) : bs.set (i / 8) ((remB bs i).getD (i / 8) 0) = remB bs i := by
  unfold remB; rw [getD_set8 _ _ _ _ h, if_pos rfl]
theorem Bk.addD (h : Bk w g d u k v) (i : Nat) (hi : i < 256) : Bk (w.setCell ⟨g, 0 + i / 8, none⟩ (.int .u8 ((addB d i).getD (i / 8) 0))) g (addB d i) u k v :=
  ⟨by rw [Nat.zero_add, heap_setCell_same _ _ _ _ _ _ h.row, bkC_set_d h.ld _ _ _ (by omega), addB_cell _ _ (by have := h.ld; omega)], by rw [addB_len]; exact h.ld, h.lu, addB_byte h.bd i, h.bu⟩
theorem Bk.remD (h : Bk w g d u k v) (i : Nat) (hi : i < 256) : Bk (w.setCell ⟨g, 0 + i / 8, none⟩ (.int .u8 ((remB d i).getD (i / 8) 0))) g (remB d i) u k v :=
  ⟨by rw [Nat.zero_add, heap_setCell_same _ _ _ _ _ _ h.row, bkC_set_d h.ld _ _ _ (by omega), remB_cell _ _ (by have := h.ld; omega)], by rw [remB_len]; exact h.ld, h.lu, remB_byte h.bd i, h.bu⟩
theorem Bk.addU (h : Bk w g d u k v) (i : Nat) (hi : i < 256) : Bk (w.setCell ⟨g, 32 + i / 8, none⟩ (.int .u8 ((addB u i).getD (i / 8) 0))) g d (addB u i) k v :=
  ⟨by rw [heap_setCell_same _ _ _ _ _ _ h.row, bkC_set_u h.ld h.lu _ _ _ (by omega), addB_cell _ _ (by have := h.lu; omega)], h.ld, by rw [addB_len]; exact h.lu, h.bd, addB_byte h.bu i⟩
theorem Bk.setK (h : Bk w g d u k v) (k' : Int) : Bk (w.setCell ⟨g, 64, none⟩ (.int .i64 k')) g d u k' v :=
  ⟨by rw [heap_setCell_same _ _ _ _ _ _ h.row, bkC_set_k h.ld h.lu], h.ld, h.lu, h.bd, h.bu⟩
theorem Bk.setV (h : Bk w g d u k v) (v' : Value) : Bk (w.setCell ⟨g, 65, none⟩ v') g d u k v' :=
  ⟨by rw [heap_setCell_same _ _ _ _ _ _ h.row, bkC_set_v h.ld h.lu], h.ld, h.lu, h.bd, h.bu⟩

end Go.Proofs.Ytmnoelfabldpfaa
