/-
  Own work: the model's crash.
-/
import Derived.Test.YtiignammhieidaaCrsM
import Derived.Test.YtiignammhieidaaQRow
import Derived.Test.YtiignammhieidaaDevLaw
import Derived.Test.YtiignammhieidaaReg4
namespace Go.Proofs.Ytiignammhieidaa
open Go.ChangeShapes Go.WideShapes Go.ChangeAt Go.RowKit
set_option linter.unusedVariables false
theorem row3 {w : World} {g : Nat} {t : TypeId} {a0 a1 a2 : Value} (h : w.heap[g]? = some (.cells #[a0, a1, a2] t (0, 0))) :
    w.cell? ⟨g, 0, none⟩ = some a0 ∧ w.cell? ⟨g, 1, none⟩ = some a1 ∧ w.cell? ⟨g, 2, none⟩ = some a2 :=
  ⟨cell_of_row _ _ _ _ _ _ h, cell_of_row _ _ _ _ _ _ h, cell_of_row _ _ _ _ _ _ h⟩
theorem all4e (a a' : Option Addr) (l l' c c' : Nat) (f : Int) (d : Bool) : (#[Value.slice a l c, .slice a' l' c', .int .i64 f, .bool d].all (fun v => v.oneCell')) = true := by simp [Value.oneCell']
theorem Try.sizeDv : (Try.prog.info? 29).map (·.size) = some 4 := by kernel_rfl
theorem crZ_no {zs : List Int} {ps : List PD} {f : Int} {bs : List Bool} {t u : Int} (h : validB zs.length ps f = false) : crZ zs ps f bs t u = [] ∧ crF zs.length ps f = 0 := by unfold crZ crF; rw [h]; exact ⟨rfl, rfl⟩
theorem crZ_yes {zs : List Int} {ps : List PD} {f : Int} {bs : List Bool} {t u : Int} (h : validB zs.length ps f = true) : crZ zs ps f bs t u = crL zs ps bs t u ps.length ∧ crF zs.length ps f = -1 := by unfold crZ crF; rw [h]; exact ⟨rfl, rfl⟩

theorem PMine.entry {B U : Nat} {w : World} {a : Option Addr} {ps : List PD} (h : PMine B U w a ps) {i : Nat} (hi : i < ps.length) (hz : 0 < (ps.getD i (0, [])).2.length) :
    ∃ b off b' off' c, a = some ⟨b, off, none⟩ ∧ b < w.heap.size ∧ w.cell? ⟨b, off + i * 2, none⟩ = some (.int .i64 (ps.getD i (0, [])).1) ∧
      w.cell? ⟨b, off + i * 2 + 1, none⟩ = some (.slice (some ⟨b', off', none⟩) (ps.getD i (0, [])).2.length c) ∧ (ps.getD i (0, [])).2.length ≤ c ∧ At .u8 w (some ⟨b', off', none⟩) (ps.getD i (0, [])).2 := by
  rcases h with h | ⟨g, o, X, C, ha, hB, hg, hU, h1, h2⟩
  · subst h; simp at hi
  · obtain ⟨p1, p2, p3, p4, p5, p6, p7⟩ := h1 i hi
    obtain ⟨b', off', e, _, _⟩ := p4.get hz
    rw [e] at p3 p4
    exact ⟨g, o, b', off', C i, ha, by omega, p1, p3, p7, p4⟩
theorem At.take {k : IntKind} {w : World} {a : Option Addr} {zs : List Int} (h : At k w a zs) (n : Nat) : At k w a (zs.take n) := by
  rcases h with h | ⟨b, off, e, hl, hc⟩
  · left; simp [h]
  · exact .inr ⟨b, off, e, hl, fun i hi => by
      have hi' : i < n ∧ i < zs.length := by simp at hi; omega
      rw [hc i hi'.2]; simp [List.getD, hi'.1]⟩

/-- A device without pending writes, its disk of the call's own. -/
def DPl (w : World) (B : Nat) (r : Value) (R : List Int) (F : Int) : Prop := ∃ dv, r = .agg #[dv, .slice none 0 0, .int .i64 F, .bool false] ∧ OwnN w B dv R
theorem DPl.mine {w : World} {B : Nat} {r : Value} {R : List Int} {F : Int} (h : DPl w B r R F) (hB : B ≤ w.heap.size) : DMine B w.heap.size w r R [] F false := by
  obtain ⟨dv, rfl, ⟨rfl, rfl⟩ | h⟩ := h
  · exact DMine.nil _ _ _ hB (Nat.le_refl _) _ _
  · exact DMine.plain _ _ h rfl

def GC (D g L gc b5 o5 m cx k s b6 o6 c6 : Nat) : Nat → Value → Prop
  | 0, v => v = .slice (some ⟨g, 0, none⟩) L gc
  | 1, v => v = .pointer (some ⟨D, 1, none⟩)
  | 2, v => v = .slice (some ⟨b5, o5, none⟩) m cx
  | 3, v => v = .int .i64 k
  | 4, v => v = .pointer (some ⟨b5, o5 + k * 2, none⟩)
  | 5, v => v = .pointer (some ⟨b5, o5 + k * 2, none⟩)
  | 6, v => v = .int .i64 s
  | 7, v => v = .pointer (some ⟨D, 1, none⟩)
  | 8, v => v = .slice (some ⟨b5, o5, none⟩) m cx
  | 9, v => v = .int .i64 k
  | 10, v => v = .pointer (some ⟨b5, o5 + k * 2, none⟩)
  | 11, v => v = .pointer (some ⟨b5, o5 + k * 2 + 1, none⟩)
  | _, v => v = .slice (some ⟨b6, o6, none⟩) 64 c6
def GT (D g L gc b5 o5 m cx k s b6 o6 c6 n0 B : Nat) (Y : List Int) (i : Nat) (w : World) (v : Value) : Prop :=
  match i with
  | 13 => v = .int .i64 n0
  | 14 => v = .slice (some ⟨b6, o6, none⟩) n0 c6
  | 15 => Own w B v Y
  | i => GC D g L gc b5 o5 m cx k s b6 o6 c6 i v
def GK (D g L gc b5 o5 m cx k s b6 o6 c6 B : Nat) (Y : List Int) (i : Nat) (w : World) (v : Value) : Prop :=
  match i with
  | 13 => Own w B v Y
  | i => GC D g L gc b5 o5 m cx k s b6 o6 c6 i v
theorem Own.grow {w w' : World} {B : Nat} {v : Value} {zs : List Int} (h : Own w B v zs) (hb : Below w.heap.size w w') : Own w' B v zs := h.keep (fun k hk => hb.block k (ownsRow_lt h.1 k hk).2.1)
theorem GT_mono (D g L gc b5 o5 m cx k s b6 o6 c6 n0 B : Nat) (Y : List Int) (i : Nat) (w w' : World) (v : Value) (hm : Below w.heap.size w w') (h : GT D g L gc b5 o5 m cx k s b6 o6 c6 n0 B Y i w v) : GT D g L gc b5 o5 m cx k s b6 o6 c6 n0 B Y i w' v := by
  unfold GT at *
  split at h <;> first | exact h | exact h.grow hm
theorem GK_mono (D g L gc b5 o5 m cx k s b6 o6 c6 B : Nat) (Y : List Int) (i : Nat) (w w' : World) (v : Value) (hm : Below w.heap.size w w') (h : GK D g L gc b5 o5 m cx k s b6 o6 c6 B Y i w v) : GK D g L gc b5 o5 m cx k s b6 o6 c6 B Y i w' v := by
  unfold GK at *
  split at h <;> first | exact h | exact h.grow hm

end Go.Proofs.Ytiignammhieidaa
