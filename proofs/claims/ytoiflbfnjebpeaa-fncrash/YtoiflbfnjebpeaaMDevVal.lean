/-
  Own work: ValidDev of the program and of the model.
-/
import Derived.Test.YtoiflbfnjebpeaaDevEq
import Derived.Test.YtoiflbfnjebpeaaDevTo
namespace Go.Proofs.Ytoiflbfnjebpeaa
open Go.ChangeShapes Go.WideShapes Go.ChangeAt Go.RowKit
set_option linter.unusedVariables false

def pOk (S : Nat) (p : PD) : Prop := 0 ≤ p.1 ∧ p.1 < (S : Int) ∧ p.2.length = 64
def vBase (L m : Nat) (f : Int) : Prop := L % 64 = 0 ∧ 8 ≤ L / 64 ∧ L / 64 ≤ 256 ∧ m ≤ 1000 ∧ -1 ≤ f ∧ f ≤ 1000000
def validB (L : Nat) (ps : List PD) (f : Int) : Bool := @decide (vBase L ps.length f) (by unfold vBase;infer_instance) && ps.all (fun p => @decide (pOk (L / 64) p) (by unfold pOk;infer_instance))

theorem validB_no {L : Nat} {ps : List PD} {f : Int} (h : ¬ vBase L ps.length f) : validB L ps f = false := by unfold validB; simp [h]
theorem validB_bad {L : Nat} {ps : List PD} {f : Int} {k : Nat} (hk : k < ps.length) (h : ¬ pOk (L / 64) (ps.getD k (0, []))) : validB L ps f = false := by
  unfold validB
  rw [Bool.and_eq_false_iff]; right
  rw [List.all_eq_false]
  refine ⟨ps[k], List.getElem_mem hk, ?_⟩
  simpa [hk] using h
theorem validB_yes {L : Nat} {ps : List PD} {f : Int} (h : vBase L ps.length f) (h' : ∀ i, i < ps.length → pOk (L / 64) (ps.getD i (0, []))) : validB L ps f = true := by
  unfold validB
  rw [Bool.and_eq_true]
  refine ⟨by simpa using h, ?_⟩
  rw [List.all_eq_true]
  intro p hp
  obtain ⟨k, hk, rfl⟩ := List.mem_iff_getElem.1 hp
  simpa [hk] using h' k hk

theorem ret_bool {a b : Bool} (h : a = b) : Ending.returned (.bool a) = .returned (.bool b) := by rw [h]

set_option maxHeartbeats 400000 in
theorem sval_any (v : Value) (zs : List Int) (ps : List PD) (f : Int) (d : Bool) (w : World) (h : DAt w v zs ps f d) (hz : zs.length ≤ 1048576) (hn : ps.length ≤ 1048576) (hps : ∀ i, (ps.getD i (0, [])).2.length ≤ 1048576) :
    Calls Try.prog 24 #[v] w fun e w' => e = .returned (.bool (validB zs.length ps f)) ∧ Below w.heap.size w w' := by
  obtain ⟨a, c, x, cx, rfl, hA, hP, _⟩ := h
  generalize zs.length = L at *
  by_cases hb : vBase L ps.length f
  · obtain ⟨b1, b2, b3, b4, b5, b6⟩ := hb
    have HP := hP
    generalize hm : ps.length = m at *
    have hB := ((Below.refl w.heap.size w).alloc (Nat.le_refl _) (.cells #[.slice a L c, .slice x m cx, .int .i64 f, .bool d] 25)).alloc (by simp) (.cells #[.slice a L c, .slice x m cx, .int .i64 f, .bool d] 25)
    have P2 := hP.below hB
    have HB : Hid _ := hB
    have HP2 : Hid _ := P2
    clear hB P2 hP HP hA
    have t1 : ((L : Int) % 64 != 0) = false := by simp; omega
    have t2 : ¬ ((L : Int) / 64 < 8) := by omega
    have t3 : ¬ (256 < (L : Int) / 64) := by omega
    have t4 : ¬ (1000 < (m : Int)) := by omega
    have t5 : ¬ (f < -1) := by omega
    have t6 : ¬ (1000000 < f) := by omega
    go_enter Try.func24, Try.ntmps24
    go_wp2
    go_loop [4] (fun i => ∃ k : Nat, k ≤ m ∧ i = .int .i64 k ∧ ∀ i, i < k → pOk (L / 64) (ps.getD i (0, []))) (fun i => m - (intOf i).toNat)
    case atStart => exact ⟨0, Nat.zero_le _, rfl, fun i hi => by omega⟩
    case round =>
      obtain ⟨k, hk, rfl, hall⟩ := hrel
      by_cases hlt : k < m
      · obtain ⟨b, off, rfl, hbl, hc⟩ := PAt.get HP2.out (by omega)
        obtain ⟨y, cy, g1, g2, g3⟩ := hc k (by omega)
        have HG : Hid _ := hall
        clear hall hc
        have hp := hps k
        have HQ : Hid (∀ s z, (ps.getD k (0, [])).1 = s → (ps.getD k (0, [])).2.length = z → (pOk (L / 64) (ps.getD k (0, [])) ↔ (0 ≤ s ∧ s < ((L / 64 : Nat) : Int) ∧ z = 64))) := by
          rintro _ _ rfl rfl; exact Iff.rfl
        have HQ' : Hid _ := HQ.out _ _ rfl rfl
        clear HQ
        generalize (ps.getD k (0, [])).1 = s at *
        generalize (ps.getD k (0, [])).2.length = z at *
        go_wp2
        all_goals first
          | (go_ret
             refine ⟨ret_bool (validB_bad (k := k) (by omega) ?_).symm, HB.out⟩
             rw [HQ'.out]
             rintro ⟨u1, u2, u3⟩
             subst u3
             first | omega | (simp at *; omega))
          | (rename_i hgood
             refine ⟨⟨k + 1, by omega, by go_num, fun i hi => ?_⟩, by simp [intOf]; omega⟩
             by_cases e : i = k
             · subst e
               rw [HQ'.out]
               have h64 : ((z : Int) != 64) = false := hgood.2
               simp at h64
               omega
             · exact HG.out i (by omega))
      · have hkm : k = m := by omega
        subst hkm
        go_wp2
        go_ret
        exact ⟨ret_bool (validB_yes (by rw [hm]; exact ⟨b1, b2, b3, b4, b5, b6⟩) (by rw [hm]; exact hall)).symm, HB.out⟩
  · have hv := validB_no hb
    generalize hm : ps.length = m at *
    have HV : Hid _ := hv
    have HB : Hid _ := hb
    clear hv hb hP hA
    go_enter Try.func24, Try.ntmps24
    go_wp2
    all_goals first
      | (go_ret; exact ⟨ret_bool HV.out.symm, ((Below.refl w.heap.size w).alloc (Nat.le_refl _) _).alloc (by simp) _⟩)
      | (exfalso; apply HB.out; unfold vBase; omega)
end Go.Proofs.Ytoiflbfnjebpeaa
namespace Go.Proofs.Ytoiflbfnjebpeaa
open Go.ChangeShapes Go.WideShapes Go.ChangeAt Go.RowKit
set_option linter.unusedVariables false

/-- The slice with head 'a' reads as the bools bs. -/
def BAt (w : World) (a : Option Addr) (bs : List Bool) : Prop :=
  bs = [] ∨ ∃ b off, a = some ⟨b, off, none⟩ ∧ b < w.heap.size ∧ ∀ i, i < bs.length → w.cell? ⟨b, off + i, none⟩ = some (.bool (bs.getD i false))
theorem BAt.get {w : World} {a : Option Addr} {bs : List Bool} (h : BAt w a bs) (hz : 0 < bs.length) :
    ∃ b off, a = some ⟨b, off, none⟩ ∧ b < w.heap.size ∧ ∀ i, i < bs.length → w.cell? ⟨b, off + i, none⟩ = some (.bool (bs.getD i false)) := by
  rcases h with h | h
  · simp [h] at hz
  · exact h
theorem BAt.below {w w' : World} {a : Option Addr} {bs : List Bool} (h : BAt w a bs) (hb : Below w.heap.size w w') : BAt w' a bs := by
  rcases h with h | ⟨b, off, rfl, hl, hc⟩
  · exact .inl h
  · exact .inr ⟨b, off, rfl, by have := hb.size; omega, fun i hi => by rw [hb.cell (p := ⟨b, off + i, none⟩) hl]; exact hc i hi⟩

/-- A list of bools in memory of the call's own. -/
def BMine (B : Nat) (w : World) (a : Option Addr) (bs : List Bool) : Prop := BAt w a bs ∧ Open w a bs.length ∧ ∀ ad, a = some ad → B ≤ ad.block ∧ ad.block < w.heap.size
theorem BMine.below {B : Nat} {w w' : World} {a : Option Addr} {bs : List Bool} (h : BMine B w a bs) (hb : Below w.heap.size w w') : BMine B w' a bs :=
  ⟨h.1.below hb, h.2.1.below hb, fun ad e => by have := h.2.2 ad e; have := hb.size; omega⟩

/-- A crash in memory. -/
def CAt (w : World) (v : Value) (bs : List Bool) (t u : Int) : Prop := ∃ x c, v = .agg #[.slice x bs.length c, .int .i64 t, .int .i64 u] ∧ BAt w x bs
def CMine (B : Nat) (w : World) (v : Value) (bs : List Bool) (t u : Int) : Prop := ∃ x c, v = .agg #[.slice x bs.length c, .int .i64 t, .int .i64 u] ∧ BMine B w x bs
theorem CMine.at_ {B : Nat} {w : World} {v : Value} {bs : List Bool} {t u : Int} (h : CMine B w v bs t u) : CAt w v bs t u := by
  obtain ⟨x, c, hv, h⟩ := h; exact ⟨x, c, hv, h.1⟩
theorem CAt.below {w w' : World} {v : Value} {bs : List Bool} {t u : Int} (h : CAt w v bs t u) (hb : Below w.heap.size w w') : CAt w' v bs t u := by
  obtain ⟨x, c, hv, h⟩ := h; exact ⟨x, c, hv, h.below hb⟩
theorem CMine.below {B : Nat} {w w' : World} {v : Value} {bs : List Bool} {t u : Int} (h : CMine B w v bs t u) (hb : Below w.heap.size w w') : CMine B w' v bs t u := by
  obtain ⟨x, c, hv, h⟩ := h; exact ⟨x, c, hv, h.below hb⟩

end Go.Proofs.Ytoiflbfnjebpeaa
