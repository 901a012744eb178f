/-
  Own work: constants as bytes, pieces of text.
-/
import Derived.Test.YtmnoelfabldpfaaMEqB
import Derived.Test.YtmnoelfabldpfaaCrc
import Derived.Test.YtmnoelfabldpfaaReg
namespace Go.Proofs.Ytmnoelfabldpfaa
open Go.ChangeShapes Go.WideShapes Go.ChangeAt Go.RowKit
set_option linter.unusedVariables false

theorem freeze_heap (w : World) (g k j : Nat) : (w.freeze ⟨g, k, none⟩ 1).heap[j]? = if j = g then (w.heap[j]?).map (fun | .cells c elem (lo, hi) => Obj.cells c elem (if lo == hi then (k, k + 1) else (min lo k, max hi (k + 1))) | o => o) else w.heap[j]? := by
  unfold World.freeze
  rw [if_neg (by decide)]
  simp only [Array.getElem?_modify]
  by_cases h : g = j
  · subst h; simp; rfl
  · rw [if_neg h, if_neg (Ne.symm h)]
theorem freeze_size (w : World) (a : Addr) (n : Nat) : (w.freeze a n).heap.size = w.heap.size := by
  unfold World.freeze; split <;> simp
theorem freeze_below (w : World) (g k B : Nat) (hB : B ≤ g) : Below B w (w.freeze ⟨g, k, none⟩ 1) :=
  ⟨rfl, rfl, rfl, by rw [freeze_size]; exact Nat.le_refl _, fun j hj => by rw [freeze_heap, if_neg (by omega)]⟩
theorem freeze_mono (w : World) (g k : Nat) : Mono w (w.freeze ⟨g, k, none⟩ 1) := by
  refine ⟨by rw [freeze_size]; exact Nat.le_refl _, fun a ha => ?_, fun b cs t fr hb => ?_⟩
  · by_cases h : a.block = g
    · subst h
      cases hh : w.heap[a.block]? with
      | none => simp [World.cell?, freeze_heap, hh]
      | some o => cases o <;> simp [World.cell?, freeze_heap, hh]
    · simp [World.cell?, freeze_heap, h]
  · by_cases h : b = g
    · subst h; rw [freeze_heap, if_pos rfl, hb]; exact ⟨_, rfl⟩
    · rw [freeze_heap, if_neg h]; exact ⟨fr, hb⟩
theorem run_convert_const (w : World) (g : Nat) (C : Array Value) (n c : Nat) (fr : Nat × Nat) (hg : w.heap[g]? = some (.cells C 5 fr)) :
    (convert 22 22 (.slice (some ⟨g, 0, none⟩) n c)).run Try.prog w = .ok (.slice (some ⟨g, 0, none⟩) n c) (w.freeze ⟨g, C.size, none⟩ 1) := by
  have hsh : w.shape? g = some (5, C.size) := by unfold World.shape?; rw [hg]
  simp [convert, run_underlying Try.underlying22, run_underlying Try.underlying5, markStringish, hsh]

theorem Part.mono {w w' : World} {v : Value} {zs : List Int} (h : Part w v zs) (hm : Mono w w') : Part w' v zs := by
  obtain ⟨b, o, c, rfl, hl, hc⟩ := h
  exact ⟨b, o, c, rfl, by have := hm.size; omega, fun i hi => by rw [hm.cell ⟨b, o + i, none⟩ hl]; exact hc i hi⟩

theorem part_new (w : World) (cs : Array Value) (zs : List Int) (t : TypeId) (h : cs = (zs.map (Value.int .u8)).toArray) (n : Nat) (hn : n = zs.length) (c : Nat) : Part (w.alloc (.cells cs t)) (.slice (some ⟨w.heap.size, 0, none⟩) n c) zs := by
  subst h; subst hn
  refine ⟨w.heap.size, 0, c, rfl, by simp, fun i hi => ?_⟩
  rw [cell_of_row _ _ (0 + i) _ t (0, 0) (heap_alloc_new w _)]
  simp [hi]
theorem below_new (w : World) (o : Obj) : Below w.heap.size w (w.alloc o) := (Below.refl _ _).alloc (Nat.le_refl _) _

theorem four_byte (x : Int) (h : U32 x) : Byte (four x) := by
  obtain ⟨h0, h1⟩ := h
  intro z hz; simp [four] at hz
  rcases hz with rfl | rfl | rfl | rfl <;> omega
theorem Own.grow {w w' : World} {B : Nat} {v : Value} {zs : List Int} (h : Own w B v zs) (hb : Below w.heap.size w w') : Own w' B v zs := by
  refine ⟨⟨h.1.1, ?_⟩, h.2⟩
  rcases h.1.2 with h' | ⟨g', c', cur, h', hBg, hh, r⟩
  · exact .inl h'
  · exact .inr ⟨g', c', cur, h', hBg, by rw [hb.block _ (Array.getElem?_eq_some_iff.1 hh).1]; exact hh, r⟩
theorem Own.lower {w : World} {B B' : Nat} {v : Value} {zs : List Int} (h : Own w B v zs) (hB : B' ≤ B) : Own w B' v zs := by
  refine ⟨⟨h.1.1, ?_⟩, h.2⟩
  rcases h.1.2 with h' | ⟨g', c', cur, h', hBg, hh, r⟩
  · exact .inl h'
  · exact .inr ⟨g', c', cur, h', by omega, hh, r⟩

end Go.Proofs.Ytmnoelfabldpfaa
