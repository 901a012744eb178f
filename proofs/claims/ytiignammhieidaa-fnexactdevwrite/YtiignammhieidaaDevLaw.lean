/-
  Own work: what the laws on devices share.
-/
import Derived.Test.YtiignammhieidaaDevValI
import Derived.Test.YtiignammhieidaaArgDev
namespace Go.Proofs.Ytiignammhieidaa
open Go.ChangeShapes Go.WideShapes Go.ChangeAt Go.RowKit
set_option linter.unusedVariables false

/-- The parameter's box stands. -/
structure LV (w w' : World) (C : Array Value) : Prop where
  below : Below w.heap.size w w'
  box : w'.heap[w.heap.size]? = some (.cells C 25 (0, 0))
theorem LV.grow {w w' w'' : World} {C : Array Value} (h : LV w w' C) (hb : Below w'.heap.size w' w'') : LV w w'' C :=
  ⟨h.below.trans (hb.mono h.below.size), by rw [hb.block _ (Array.getElem?_eq_some_iff.1 h.box).1]; exact h.box⟩
theorem LV.cells {w w' : World} {a0 a1 a2 a3 : Value} (h : LV w w' #[a0, a1, a2, a3]) :
    w'.cell? ⟨w.heap.size, 0, none⟩ = some a0 ∧ w'.cell? ⟨w.heap.size, 1, none⟩ = some a1 ∧ w'.cell? ⟨w.heap.size, 2, none⟩ = some a2 ∧ w'.cell? ⟨w.heap.size, 3, none⟩ = some a3 :=
  ⟨cell_of_row _ _ _ _ _ _ h.box, cell_of_row _ _ _ _ _ _ h.box, cell_of_row _ _ _ _ _ _ h.box, cell_of_row _ _ _ _ _ _ h.box⟩
theorem row4 {w : World} {g : Nat} {t : TypeId} {a0 a1 a2 a3 : Value} (h : w.heap[g]? = some (.cells #[a0, a1, a2, a3] t (0, 0))) :
    w.cell? ⟨g, 0, none⟩ = some a0 ∧ w.cell? ⟨g, 1, none⟩ = some a1 ∧ w.cell? ⟨g, 2, none⟩ = some a2 ∧ w.cell? ⟨g, 3, none⟩ = some a3 :=
  ⟨cell_of_row _ _ _ _ _ _ h, cell_of_row _ _ _ _ _ _ h, cell_of_row _ _ _ _ _ _ h, cell_of_row _ _ _ _ _ _ h⟩

def G10 (zs : List Int) (ps : List PD) (f : Int) (d : Bool) (x arg : Value) : Nat → World → Value → Prop
  | 0, _, v => v = x
  | 1, _, v => v = arg
  | 2, w, v => DAt w v zs ps f d
  | 3, _, v => v = .bool true
  | _, _, v => v = .bool false
theorem DAt.mono {w w' : World} {v : Value} {zs : List Int} {ps : List PD} {f : Int} {d : Bool} (h : DAt w v zs ps f d) (hm : Mono w w') : DAt w' v zs ps f d := by
  obtain ⟨da, dc, ca, cc, hv, h1, h2, h3⟩ := h
  have kAt : ∀ {x : Option Addr} {zs : List Int}, At .u8 w x zs → At .u8 w' x zs := fun {x zs} h => by
    rcases h with h | ⟨b, off, rfl, hl, hc⟩
    · exact .inl h
    · exact .inr ⟨b, off, rfl, by have := hm.size; omega, fun i hi => by rw [hm.cell ⟨b, off + i, none⟩ hl]; exact hc i hi⟩
  refine ⟨da, dc, ca, cc, hv, kAt h1, ?_, h3⟩
  rcases h2 with h | ⟨b, off, rfl, hl, hc⟩
  · exact .inl h
  · exact .inr ⟨b, off, rfl, by have := hm.size; omega, fun i hi => by
      obtain ⟨x, c, p1, p2, p3⟩ := hc i hi
      exact ⟨x, c, by rw [hm.cell ⟨b, off + i * 2, none⟩ hl]; exact p1, by rw [hm.cell ⟨b, off + i * 2 + 1, none⟩ hl]; exact p2, kAt p3⟩⟩
theorem G10_mono (zs : List Int) (ps : List PD) (f : Int) (d : Bool) (x arg : Value) (i : Nat) (w w' : World) (v : Value) (hm : Mono w w') (h : G10 zs ps f d x arg i w v) : G10 zs ps f d x arg i w' v := by
  unfold G10 at *
  split at h <;> first | exact h | exact DAt.mono h hm
end Go.Proofs.Ytiignammhieidaa
