/-
  Own work: ApplyFrame, by the model (written by wip/mkswl.py).
-/
import Derived.Test.YtmnoelfabldpfaaSwJ
import Derived.Test.YtmnoelfabldpfaaSwK
import Derived.Test.YtmnoelfabldpfaaMSwE
namespace Go.Proofs.Ytmnoelfabldpfaa
open Go.ChangeShapes Go.WideShapes Go.ChangeAt Go.RowKit
set_option linter.unusedVariables false

/-- An answer of ApplyFrame that is only read. -/
def WPV (lo : Nat) (w : World) (v : Value) (r : ApR) : Prop :=
  ∃ aD nD cD aU nU cU aT nT cT, v = .agg #[.bool r.ok, .slice aD nD cD, .slice aU nU cU, .int .i64 r.k, .slice aT nT cT] ∧ At .i64 w aD r.D ∧ At .i64 w aU r.U ∧ At .i64 w aT r.T ∧ r.D.length = nD ∧ r.U.length = nU ∧ r.T.length = nT * 2 ∧ Lies lo w aD ∧ Lies lo w aU ∧ Lies lo w aT
theorem WPV.no (lo : Nat) (w : World) : WPV lo w (.agg #[.bool false, .slice none 0 0, .slice none 0 0, .int .i64 0, .slice none 0 0]) apNo := ⟨none, 0, 0, none, 0, 0, none, 0, 0, rfl, .inl rfl, .inl rfl, .inl rfl, rfl, rfl, rfl, fun _ h => (by cases h), fun _ h => (by cases h), fun _ h => (by cases h)⟩
theorem WPV.below {lo : Nat} {w w' : World} {v : Value} {r : ApR} (h : WPV lo w v r) (b : Below w.heap.size w w') : WPV lo w' v r := by
  obtain ⟨aD, nD, cD, aU, nU, cU, aT, nT, cT, e, h1, h2, h3, h4, h5, h6, l1, l2, l3⟩ := h
  exact ⟨aD, nD, cD, aU, nU, cU, aT, nT, cT, e, h1.below b, h2.below b, h3.below b, h4, h5, h6, l1.mono (Nat.le_refl _) b.size, l2.mono (Nat.le_refl _) b.size, l3.mono (Nat.le_refl _) b.size⟩
/-- A list that stands beside the box O, from lo on. -/
def LK (lo O : Nat) (w : World) (a : Option Addr) (xs : List Int) : Prop := At .i64 w a xs ∧ ∀ ad, a = some ad → lo ≤ ad.block ∧ ad.block ≠ O ∧ ad.block < w.heap.size
theorem LK.below {lo O : Nat} {w w' : World} {a : Option Addr} {xs : List Int} (h : LK lo O w a xs) (b : Below w.heap.size w w') : LK lo O w' a xs := ⟨h.1.below b, fun ad e => by have := h.2 ad e; have := b.size; omega⟩
theorem LK.wr {lo O : Nat} {w w' : World} {a : Option Addr} {xs : List Int} (h : LK lo O w a xs) (hw : Wr O w w') : LK lo O w' a xs :=
  ⟨h.1.keep (by rw [hw.size]; exact Nat.le_refl _) (fun ad e _ => hw.block _ (h.2 ad e).2.1), fun ad e => by rw [hw.size]; exact h.2 ad e⟩
theorem LK.grown {lo O : Nat} {w w' : World} {a : Option Addr} {xs : List Int} {row : Option Nat} (h : LK lo O w a xs) (hg : w.grownBy w' row) (hne : ∀ ad, a = some ad → some ad.block ≠ row) : LK lo O w' a xs :=
  ⟨h.1.keep hg.size (fun ad e hl => hg.block _ hl (hne ad e)), fun ad e => by have := h.2 ad e; have := hg.size; omega⟩
theorem At.wrR {lo O R : Nat} {w w' : World} {a : Option Addr} {xs : List Int} (h : At .i64 w a xs) (hw : Wr R w w') (h2 : ∀ ad, a = some ad → lo ≤ ad.block ∧ ad.block ≠ O ∧ ad.block < w.heap.size) (hR : R < lo := by omega) : At .i64 w' a xs :=
  h.keep (by rw [hw.size]; exact Nat.le_refl _) (fun ad e _ => hw.block _ (by have := (h2 ad e).1; omega))
theorem Iow.lk {lo O B : Nat} {w : World} {a : Option Addr} {n c : Nat} {xs : List Int} (h : Iow B w (.slice a n c) xs) (hB : lo ≤ B) (hO : O < B ∨ w.heap.size ≤ O) : LK lo O w a xs := by
  obtain ⟨h1, h2, h3⟩ := h.sat
  exact ⟨h1.at_, fun ad e => by have := h3 ad e; omega⟩
theorem TapO.lk {lo O B : Nat} {w : World} {a : Option Addr} {n c : Nat} {T : List Int} (h : TapO B w (.slice a n c) T n) (hB : lo ≤ B) (hO : O < B ∨ w.heap.size ≤ O) : LK lo O w a T := by
  obtain ⟨h1, h2, h3⟩ := h.tapV.sat
  exact ⟨h1.at_, fun ad e => by have := h3 ad e; omega⟩
theorem io_tap {B B' : Nat} {w : World} {a a' : Option Addr} {n c n' c' : Nat} {xs T : List Int} (h : Iow B w (.slice a n c) xs) (h' : TapO B' w (.slice a' n' c') T n') : ∀ ad, a = some ad → some ad.block ≠ (Value.slice a' n' c').ownBlock := by
  intro ad e he
  rcases h.2 with ⟨h1, _⟩ | ⟨g, cap, cur, h1, _, hh, _⟩
  · cases h1; cases e
  · cases h1; cases e
    rcases h'.2 with ⟨h2, _⟩ | ⟨g', cap', cur', h2, _, hh', _⟩
    · cases h2; simp [Value.ownBlock] at he
    · cases h2
      simp [Value.ownBlock] at he
      subst he
      rw [hh] at hh'
      injection hh' with e1
      injection e1 with _ e2 _
      exact absurd e2 (by decide)
theorem apR_tap {D U : List Int} {k : Int} {T : List Int} {n a b : Nat} (h : a < 256 ∧ ¬ (a : Int) ∈ U ∧ ¬ (a : Int) ∈ D) : apR D U k T n 1 a b = ⟨true, D, withS U a, k, T ++ [(a : Int), (b : Int)], n + 1⟩ := by unfold apR; rw [if_pos rfl, if_pos h]
theorem apR_tapNo {D U : List Int} {k : Int} {T : List Int} {n a b : Nat} (h : ¬ (a < 256 ∧ ¬ (a : Int) ∈ U ∧ ¬ (a : Int) ∈ D)) : apR D U k T n 1 a b = apNo := by unfold apR; rw [if_pos rfl, if_neg h]
theorem apR_add {D U : List Int} {k : Int} {T : List Int} {n a : Nat} (h : a < 256 ∧ ¬ (a : Int) ∈ D ∧ ¬ D.length = 16) : apR D U k T n 2 a 1 = ⟨true, withS D a, U, k, T, n⟩ := by unfold apR; rw [if_neg (by decide), if_pos rfl, if_pos ⟨rfl, h⟩]
theorem apR_rem {D U : List Int} {k : Int} {T : List Int} {n a : Nat} (h : a < 256 ∧ (a : Int) ∈ D) : apR D U k T n 2 a 0 = ⟨true, lessS D a, U, k, T, n⟩ := by unfold apR; rw [if_neg (by decide), if_pos rfl, if_neg (fun h => by cases h.1), if_pos ⟨rfl, h⟩]
theorem apR_denyNo {D U : List Int} {k : Int} {T : List Int} {n a b : Nat} (h : ¬ (b = 1 ∧ a < 256 ∧ ¬ (a : Int) ∈ D ∧ ¬ D.length = 16)) (h' : ¬ (b = 0 ∧ a < 256 ∧ (a : Int) ∈ D)) : apR D U k T n 2 a b = apNo := by unfold apR; rw [if_neg (by decide), if_pos rfl, if_neg h, if_neg h']
theorem apR_ack {D U : List Int} {k : Int} {T : List Int} {n a : Nat} (h : (a : Int) ≤ k + n) : apR D U k T n 3 a 0 = ⟨true, D, U, max a k, T.drop (ackM k a * 2), n - ackM k a⟩ := by unfold apR; rw [if_neg (by decide), if_neg (by decide), if_pos rfl, if_pos ⟨rfl, h⟩]
theorem apR_ackNo {D U : List Int} {k : Int} {T : List Int} {n a b : Nat} (h : ¬ (b = 0 ∧ (a : Int) ≤ k + n)) : apR D U k T n 3 a b = apNo := by unfold apR; rw [if_neg (by decide), if_neg (by decide), if_pos rfl, if_neg h]
theorem apR_other {D U : List Int} {k : Int} {T : List Int} {n a b : Nat} {kind : Int} (h1 : ¬ kind = 1) (h2 : ¬ kind = 2) (h3 : ¬ kind = 3) : apR D U k T n kind a b = apNo := by unfold apR; rw [if_neg h1, if_neg h2, if_neg h3]
end Go.Proofs.Ytmnoelfabldpfaa
