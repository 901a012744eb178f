/-
  Own work: a sector of the disk, read and written by the program.
-/
import Derived.Test.YtiignammhieidaaDevTo
import Derived.Test.YtiignammhieidaaSec
namespace Go.Proofs.Ytiignammhieidaa
open Go.ChangeShapes Go.WideShapes Go.ChangeAt Go.RowKit
set_option linter.unusedVariables false

def secV (z : List Int) : Value := .agg (z.map (Value.int .u8)).toArray

theorem At.drop {w : World} {b off : Nat} {zs : List Int} (h : At .u8 w (some ⟨b, off, none⟩) zs) (k : Nat) : At .u8 w (some ⟨b, off + k, none⟩) (zs.drop k) := by
  rcases h with h | ⟨b', off', e, hl, hc⟩
  · left; simp [h]
  · cases e
    exact .inr ⟨b, off + k, rfl, hl, fun i hi => by
      rw [Nat.add_assoc, hc (k + i) (by simp at hi; omega)]; simp [List.getD]⟩

theorem wp_world {P : Program} {c : Code} {Q : Exit → Act → World → Prop} {a : Act} {w w' : World} (h : w' = w) (k : Code.wp P c Q a w') : Code.wp P c Q a w := h ▸ k
end Go.Proofs.Ytiignammhieidaa
