/-
  Own work: ApplyFrame, by the program.
-/
import Derived.Test.YtmnoelfabldpfaaSwI
import Derived.Test.YtmnoelfabldpfaaSwH
import Derived.Deep.Cut
namespace Go.Proofs.Ytmnoelfabldpfaa
open Go.ChangeShapes Go.WideShapes Go.ChangeAt Go.RowKit
set_option linter.unusedVariables false

theorem apR_no {D U : List Int} {k : Int} {T : List Int} {n : Nat} {kind : Int} {a b : Nat} (h : (apR D U k T n kind a b).ok = false) : apR D U k T n kind a b = apNo := by
  unfold apR at h ⊢
  split
  · split
    · rename_i h1 h2; rw [if_pos h1, if_pos h2] at h; cases h
    · rfl
  · split
    · rename_i h1 h2
      rw [if_neg h1, if_pos h2] at h
      split
      · rename_i h3; rw [if_pos h3] at h; cases h
      · rename_i h3
        rw [if_neg h3] at h
        split
        · rename_i h4; rw [if_pos h4] at h; cases h
        · rfl
    · rename_i h1 h2
      rw [if_neg h1, if_neg h2] at h
      split
      · rename_i h3
        rw [if_pos h3] at h
        split
        · rename_i h4; rw [if_pos h4] at h; cases h
        · rfl
      · rfl
theorem withS_ser (xs : List Int) (a : Nat) : SerP (withS xs a) := upTo_ser _
theorem apR_ser {D U : List Int} {k : Int} {T : List Int} {n : Nat} {kind : Int} {a b : Nat} (hD : SerP D) (hU : SerP U) : SerP (apR D U k T n kind a b).D ∧ SerP (apR D U k T n kind a b).U := by
  have hn : SerP ([] : List Int) := fun i hi => by simp at hi
  unfold apR
  split
  · split
    · exact ⟨hD, withS_ser _ _⟩
    · exact ⟨hn, hn⟩
  · split
    · split
      · exact ⟨withS_ser _ _, hU⟩
      · split
        · exact ⟨without_ser hD _, hU⟩
        · exact ⟨hn, hn⟩
    · split
      · split
        · exact ⟨hD, hU⟩
        · exact ⟨hn, hn⟩
      · exact ⟨hn, hn⟩
open Classical in
/-- What ApplyFrame answers. -/
noncomputable def apF (D U : List Int) (k : Int) (T : List Int) (n : Nat) (kind : Int) (a b : Nat) : ApR := if stB D U k T n = true then apR D U k T n kind a b else apNo
theorem stP_of {D U : List Int} {k : Int} {T : List Int} {n : Nat} (h : stB D U k T n = true) : StP D U k T n := by
  unfold stB at h; simpa using h
/-- An answer of ApplyFrame, as a value. -/
def APV (lo : Nat) (w : World) (v : Value) (r : ApR) : Prop :=
  ∃ aD nD cD aU nU cU aT nT cT, v = .agg #[.bool r.ok, .slice aD nD cD, .slice aU nU cU, .int .i64 r.k, .slice aT nT cT] ∧ S3 lo w aD aU aT nD nU nT r.D r.U r.T
theorem APV.no (lo : Nat) (w : World) : APV lo w (.agg #[.bool false, .slice none 0 0, .slice none 0 0, .int .i64 0, .slice none 0 0]) apNo :=
  ⟨none, 0, 0, none, 0, 0, none, 0, 0, rfl, .inl rfl, .inl rfl, .inl rfl, rfl, rfl, rfl, fun _ h => (by cases h), fun _ h => (by cases h), fun _ h => (by cases h), fun _ _ h => (by cases h), fun _ _ h => (by cases h), fun _ _ h => (by cases h)⟩
theorem Iow.sat {B : Nat} {w : World} {a : Option Addr} {n c : Nat} {xs : List Int} (h : Iow B w (.slice a n c) xs) : SAt w a xs ∧ xs.length = n ∧ Lies B w a := by
  rcases h.2 with ⟨h', h0⟩ | ⟨g, cap, cur, h', hb, hh, hc, hm, hs, ht⟩
  · cases h'
    have : xs = [] := List.eq_nil_of_length_eq_zero h0
    exact ⟨.inl this, h0, fun _ e => (by cases e)⟩
  · cases h'
    have hlt := (Array.getElem?_eq_some_iff.1 hh).1
    refine ⟨.inr ⟨g, 0, rfl, hlt, fun i hi => ?_⟩, rfl, fun ad e => (by cases e; exact ⟨hb, hlt⟩)⟩
    rw [Nat.zero_add]
    refine ⟨?_, frozen_of_row _ _ _ _ _ hh⟩
    have := World.ownsRow.cellAt h i (by omega)
    rw [this]; simp [hi]
theorem TapV.sat {B : Nat} {w : World} {a : Option Addr} {n c : Nat} {T : List Int} (h : TapV B w (.slice a n c) T n) : SAt w a T ∧ T.length = n * 2 ∧ Lies B w a := by
  obtain ⟨hl, ⟨h1, h2⟩ | ⟨t, o, c', h1, hB, ht, hc, hm, hx⟩⟩ := h
  · cases h1
    exact ⟨.inl (List.eq_nil_of_length_eq_zero (by omega)), hl, fun _ e => (by cases e)⟩
  · cases h1
    exact ⟨.inr ⟨t, o, rfl, ht, fun i hi => hx i (by omega)⟩, hl, fun ad e => (by cases e; exact ⟨hB, ht⟩)⟩
end Go.Proofs.Ytmnoelfabldpfaa
