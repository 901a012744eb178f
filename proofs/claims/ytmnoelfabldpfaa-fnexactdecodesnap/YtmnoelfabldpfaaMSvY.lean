/-
  Own work: frames applied to a book, by the program: acknowledgements and denials.
-/
import Derived.Test.YtmnoelfabldpfaaMSvW
import Derived.Test.YtmnoelfabldpfaaSvV
namespace Go.Proofs.Ytmnoelfabldpfaa
open Go.ChangeShapes Go.WideShapes Go.ChangeAt Go.RowKit
set_option linter.unusedVariables false
variable {w w' : World} {g : Nat} {d u : List Int} {k : Int} {v : Value} {D U : Nat → Prop} {T : List Int} {n H B : Nat}
theorem TapV.slice (h : TapV B w v T n) : ∃ a c, v = .slice a n c := by
  obtain ⟨hl, ⟨h1, h2⟩ | ⟨t, o, c, h1, _⟩⟩ := h
  · exact ⟨none, 0, by rw [h1, h2]⟩
  · exact ⟨_, c, h1⟩
theorem TapV.drew (h : TapV B w v T n) (q : Nat) : TapV B (w.drewN q) v T n := h.block (Nat.le_refl _) (fun t _ _ => rfl)
end Go.Proofs.Ytmnoelfabldpfaa
namespace Go.Proofs.Ytmnoelfabldpfaa
open Go.ChangeShapes Go.WideShapes Go.ChangeAt Go.RowKit
set_option linter.unusedVariables false
variable {w w' : World} {g : Nat} {d u : List Int} {k : Int} {v : Value} {D U : Nat → Prop} {T : List Int} {n H B : Nat}

theorem ser_yes {s : Nat} (h : s < 256) : serOk (s : Int) = true := decide_eq_true ⟨by omega, by omega⟩
theorem ser_no {s : Nat} (h : ¬ s < 256) : serOk (s : Int) = false := decide_eq_false (fun h' => h (by omega))
theorem hasYes_any {o : Nat} (s : Nat) (hb : BAt w g o d) (hd : SetB d D) (hin : s < 256 ∧ D s) : Calls Try.prog 66 #[.pointer (some ⟨g, o, none⟩), .int .i64 s] w fun e w' => e = .returned (.bool true) ∧ w' = w :=
  hasS_any g o s d D true w hb hd (by
    rw [Int.toNat_natCast]
    exact ⟨fun _ => ⟨by omega, by omega, hin.2⟩, fun h => rfl⟩)
theorem hasNo_any {o : Nat} (s : Nat) (hb : BAt w g o d) (hd : SetB d D) (hin : ¬ (s < 256 ∧ D s)) : Calls Try.prog 66 #[.pointer (some ⟨g, o, none⟩), .int .i64 s] w fun e w' => e = .returned (.bool false) ∧ w' = w :=
  hasS_any g o s d D false w hb hd (by
    rw [Int.toNat_natCast]
    exact ⟨fun h => (by cases h), fun h => absurd ⟨by omega, h.2.2⟩ hin⟩)
theorem TapV.wr (h : TapV B w v T n) (hw : Wr g w w') (hg : NeG g v) : TapV B w' v T n := h.block (by rw [hw.size]; exact Nat.le_refl _) (fun t ht _ => hw.block t (hg t ht))
end Go.Proofs.Ytmnoelfabldpfaa
