/-
  Own work: the copy of a crash, as the laws make it.
-/
import Derived.Test.YthghkfncpdnpoadBools
namespace Go.Proofs.Ythghkfncpdnpoad
open Go.ChangeShapes Go.WideShapes Go.ChangeAt Go.RowKit
set_option linter.unusedVariables false

theorem BMine.keep {B : Nat} {w w' : World} {a : Option Addr} {bs : List Bool} (h : BMine B w a bs) (hk : ∀ ad, a = some ad → w'.heap[ad.block]? = w.heap[ad.block]?) (hs : w.heap.size ≤ w'.heap.size) : BMine B w' a bs := by
  obtain ⟨h1, h2, h3⟩ := h
  refine ⟨?_, h2.keep hk hs, fun ad e => by have := h3 ad e; omega⟩
  rcases h1 with h | ⟨b, off, rfl, hl, hc⟩
  · exact .inl h
  · exact .inr ⟨b, off, rfl, by omega, fun i hi => by rw [World.cell?_of_block (a := ⟨b, off + i, none⟩) (w := w) (hk ⟨b, off, none⟩ rfl)]; exact hc i hi⟩
theorem BMine.mono {B B' : Nat} {w : World} {a : Option Addr} {bs : List Bool} (h : BMine B w a bs) (hB : B' ≤ B) : BMine B' w a bs := ⟨h.1, h.2.1, fun ad e => by have := h.2.2 ad e; omega⟩

set_option maxHeartbeats 1000000 in
set_option maxRecDepth 100000 in
theorem toC_any (a : Option Addr) (n cap : Nat) (bs : List Bool) (t u : Int) (w : World) (hn : bs.length = n) (hm : n ≤ 1048576) (ha : BAt w a bs) :
    Calls Try.prog 25 #[.agg #[.slice a n cap, .int .i64 t, .int .i64 u]] w fun e w' => ∃ v, e = .returned v ∧ CMine w.heap.size w' v bs t u ∧ Below w.heap.size w w' := by
  go_enter Try.func25, Try.ntmps25
  go_wp2_with fail
  have hb := (((Below.refl w.heap.size w).alloc (Nat.le_refl _) (.cells #[.slice a n cap, .int .i64 t, .int .i64 u] 64)).alloc (by simp) (.cells #[.slice none 0 0, .int .i64 0, .int .i64 0] 72)).alloc (by simp; omega) (.cells #[.slice none 0 0, .int .i64 0, .int .i64 0] 72)
  have hz3 : (((w.alloc (.cells #[.slice a n cap, .int .i64 t, .int .i64 u] 64)).alloc (.cells #[.slice none 0 0, .int .i64 0, .int .i64 0] 72)).alloc (.cells #[.slice none 0 0, .int .i64 0, .int .i64 0] 72)).heap.size = w.heap.size + 3 := by simp
  have h2 : (((w.alloc (.cells #[.slice a n cap, .int .i64 t, .int .i64 u] 64)).alloc (.cells #[.slice none 0 0, .int .i64 0, .int .i64 0] 72)).alloc (.cells #[.slice none 0 0, .int .i64 0, .int .i64 0] 72)).heap[w.heap.size + 1 + 1]? = some (.cells #[.slice none 0 0, .int .i64 0, .int .i64 0] 72 (0, 0)) := by
    have := heap_alloc_new ((w.alloc (.cells #[.slice a n cap, .int .i64 t, .int .i64 u] 64)).alloc (.cells #[.slice none 0 0, .int .i64 0, .int .i64 0] 72)) (.cells #[.slice none 0 0, .int .i64 0, .int .i64 0] 72)
    simpa using this
  have h1 : (((w.alloc (.cells #[.slice a n cap, .int .i64 t, .int .i64 u] 64)).alloc (.cells #[.slice none 0 0, .int .i64 0, .int .i64 0] 72)).alloc (.cells #[.slice none 0 0, .int .i64 0, .int .i64 0] 72)).heap[w.heap.size + 1]? = some (.cells #[.slice none 0 0, .int .i64 0, .int .i64 0] 72 (0, 0)) := by
    rw [((Below.refl _ ((w.alloc (.cells #[.slice a n cap, .int .i64 t, .int .i64 u] 64)).alloc (.cells #[.slice none 0 0, .int .i64 0, .int .i64 0] 72))).alloc (Nat.le_refl _) _).block _ (by simp)]
    have := heap_alloc_new (w.alloc (.cells #[.slice a n cap, .int .i64 t, .int .i64 u] 64)) (.cells #[.slice none 0 0, .int .i64 0, .int .i64 0] 72)
    simpa using this
  have h0 : (((w.alloc (.cells #[.slice a n cap, .int .i64 t, .int .i64 u] 64)).alloc (.cells #[.slice none 0 0, .int .i64 0, .int .i64 0] 72)).alloc (.cells #[.slice none 0 0, .int .i64 0, .int .i64 0] 72)).heap[w.heap.size]? = some (.cells #[.slice a n cap, .int .i64 t, .int .i64 u] 64 (0, 0)) := by
    rw [((Below.refl _ ((w.alloc (.cells #[.slice a n cap, .int .i64 t, .int .i64 u] 64)).alloc (.cells #[.slice none 0 0, .int .i64 0, .int .i64 0] 72))).alloc (Nat.le_refl _) _).block _ (by simp; omega),
      ((Below.refl _ (w.alloc (.cells #[.slice a n cap, .int .i64 t, .int .i64 u] 64))).alloc (Nat.le_refl _) _).block _ (by simp)]
    exact heap_alloc_new w _
  generalize (((w.alloc (.cells #[.slice a n cap, .int .i64 t, .int .i64 u] 64)).alloc (.cells #[.slice none 0 0, .int .i64 0, .int .i64 0] 72)).alloc (.cells #[.slice none 0 0, .int .i64 0, .int .i64 0] 72)) = w3 at *
  have ha3 := ha.below hb
  refine (toBS_any a n cap bs w3 hn hm ha3).mono ?_
  rintro e w4 ⟨rfl, ho4, hb4⟩
  have s4 := hb4.size
  have k2 : w4.heap[w.heap.size + 1 + 1]? = some (.cells #[.slice none 0 0, .int .i64 0, .int .i64 0] 72 (0, 0)) := by rw [hb4.block _ (by omega)]; exact h2
  have k1 : w4.heap[w.heap.size + 1]? = some (.cells #[.slice none 0 0, .int .i64 0, .int .i64 0] 72 (0, 0)) := by rw [hb4.block _ (by omega)]; exact h1
  have k0 : w4.heap[w.heap.size]? = some (.cells #[.slice a n cap, .int .i64 t, .int .i64 u] 64 (0, 0)) := by rw [hb4.block _ (by omega)]; exact h0
  have c20 := cell_of_row w4 (w.heap.size + 1 + 1) 0 _ _ _ k2
  have c21 := cell_of_row w4 (w.heap.size + 1 + 1) 1 _ _ _ k2
  have c22 := cell_of_row w4 (w.heap.size + 1 + 1) 2 _ _ _ k2
  have f20 := frozen_of_row w4 (w.heap.size + 1 + 1) 0 _ _ k2
  have f21 := frozen_of_row w4 (w.heap.size + 1 + 1) 1 _ _ k2
  have f22 := frozen_of_row w4 (w.heap.size + 1 + 1) 2 _ _ k2
  have c01 := cell_of_row w4 w.heap.size 1 _ _ _ k0
  have c02 := cell_of_row w4 w.heap.size 2 _ _ _ k0
  have c10 := cell_of_row w4 (w.heap.size + 1) 0 _ _ _ k1
  have c11 := cell_of_row w4 (w.heap.size + 1) 1 _ _ _ k1
  have c12 := cell_of_row w4 (w.heap.size + 1) 2 _ _ _ k1
  have f10 := frozen_of_row w4 (w.heap.size + 1) 0 _ _ k1
  have f11 := frozen_of_row w4 (w.heap.size + 1) 1 _ _ k1
  have f12 := frozen_of_row w4 (w.heap.size + 1) 2 _ _ k1
  simp at c20 c21 c22 c01 c02 c10 c11 c12
  have HO4 : Hid (BMine w3.heap.size w4 (some ⟨w3.heap.size, 0, none⟩) bs) := ho4
  have HB4 : Hid (Below w.heap.size w w4) := hb.trans (hb4.mono (by omega))
  have HN1 : Hid (w4.heap[w.heap.size + 1]? = some (.cells #[.slice none 0 0, .int .i64 0, .int .i64 0] 72 (0, 0))) := k1
  have HZ3 : Hid _ := hz3
  clear k2 k1 k0 h2 h1 h0 ha3 hb hb4 ho4 ha hz3
  go_wp2
  have hz3 := HZ3.out
  have r1 := heap_setCell_same _ (w.heap.size + 1) 0 _ _ (.slice (some ⟨w3.heap.size, 0, none⟩) n n) ((heap_setCell_other _ ⟨w.heap.size + 1 + 1, 2, none⟩ (w.heap.size + 1) (.int .i64 u) (by simp)).trans ((heap_setCell_other _ ⟨w.heap.size + 1 + 1, 1, none⟩ (w.heap.size + 1) (.int .i64 t) (by simp)).trans ((heap_setCell_other w4 ⟨w.heap.size + 1 + 1, 0, none⟩ (w.heap.size + 1) (.slice (some ⟨w3.heap.size, 0, none⟩) n n) (by simp)).trans HN1.out)))
  have r2 := heap_setCell_same _ (w.heap.size + 1) 1 _ _ (.int .i64 t) r1
  have r3 := heap_setCell_same _ (w.heap.size + 1) 2 _ _ (.int .i64 u) r2
  have hoth : ∀ k, w.heap.size + 2 < k → ((((((w4.setCell ⟨w.heap.size + 1 + 1, 0, none⟩ (.slice (some ⟨w3.heap.size, 0, none⟩) n n)).setCell ⟨w.heap.size + 1 + 1, 1, none⟩ (.int .i64 t)).setCell ⟨w.heap.size + 1 + 1, 2, none⟩ (.int .i64 u)).setCell ⟨w.heap.size + 1, 0, none⟩ (.slice (some ⟨w3.heap.size, 0, none⟩) n n)).setCell ⟨w.heap.size + 1, 1, none⟩ (.int .i64 t)).setCell ⟨w.heap.size + 1, 2, none⟩ (.int .i64 u)).heap[k]? = w4.heap[k]? := by
    intro k hk
    rw [heap_setCell_other _ _ _ _ (by simp; omega), heap_setCell_other _ _ _ _ (by simp; omega), heap_setCell_other _ _ _ _ (by simp; omega), heap_setCell_other _ _ _ _ (by simp; omega), heap_setCell_other _ _ _ _ (by simp; omega), heap_setCell_other _ _ _ _ (by simp; omega)]
  have hB7 := (((((HB4.out.setCell (p := ⟨w.heap.size + 1 + 1, 0, none⟩) (by simp; omega) (.slice (some ⟨w3.heap.size, 0, none⟩) n n)).setCell (p := ⟨w.heap.size + 1 + 1, 1, none⟩) (by simp; omega) (.int .i64 t)).setCell (p := ⟨w.heap.size + 1 + 1, 2, none⟩) (by simp; omega) (.int .i64 u)).setCell (p := ⟨w.heap.size + 1, 0, none⟩) (by simp) (.slice (some ⟨w3.heap.size, 0, none⟩) n n)).setCell (p := ⟨w.heap.size + 1, 1, none⟩) (by simp) (.int .i64 t)).setCell (p := ⟨w.heap.size + 1, 2, none⟩) (by simp) (.int .i64 u)
  have hs7 : ((((((w4.setCell ⟨w.heap.size + 1 + 1, 0, none⟩ (.slice (some ⟨w3.heap.size, 0, none⟩) n n)).setCell ⟨w.heap.size + 1 + 1, 1, none⟩ (.int .i64 t)).setCell ⟨w.heap.size + 1 + 1, 2, none⟩ (.int .i64 u)).setCell ⟨w.heap.size + 1, 0, none⟩ (.slice (some ⟨w3.heap.size, 0, none⟩) n n)).setCell ⟨w.heap.size + 1, 1, none⟩ (.int .i64 t)).setCell ⟨w.heap.size + 1, 2, none⟩ (.int .i64 u)).heap.size = w4.heap.size := by simp [World.setCell]
  generalize ((((((w4.setCell ⟨w.heap.size + 1 + 1, 0, none⟩ (.slice (some ⟨w3.heap.size, 0, none⟩) n n)).setCell ⟨w.heap.size + 1 + 1, 1, none⟩ (.int .i64 t)).setCell ⟨w.heap.size + 1 + 1, 2, none⟩ (.int .i64 u)).setCell ⟨w.heap.size + 1, 0, none⟩ (.slice (some ⟨w3.heap.size, 0, none⟩) n n)).setCell ⟨w.heap.size + 1, 1, none⟩ (.int .i64 t)).setCell ⟨w.heap.size + 1, 2, none⟩ (.int .i64 u)) = w7 at *
  refine bodyPost_ret (v := .agg #[.slice (some ⟨w3.heap.size, 0, none⟩) n n, .int .i64 t, .int .i64 u]) (results_cell_row rfl _ _ (w.heap.size + 1) 72 _ (0, 0) _ rfl r3 Try.underlying72 rfl (by kernel_rfl)) rfl ⟨_, rfl, ?_, hB7⟩
  exact ⟨_, n, by rw [hn], (BMine.keep HO4.out (fun ad e => by cases e; exact hoth _ (by show w.heap.size + 2 < w3.heap.size; omega)) (by omega)).mono (by omega)⟩
end Go.Proofs.Ythghkfncpdnpoad
