/-
  Own work: a device that comes in as an argument, read from its data.
-/
import Derived.Test.YtiignammhieidaaDevTo
import Derived.Lib.SmallJoins
import Derived.Deep.SlicePairs
namespace Go.Proofs.Ytiignammhieidaa
open Go.ChangeShapes Go.WideShapes Go.ChangeAt Go.RowKit
set_option linter.unusedVariables false

def I64 (x : Int) : Prop := -9223372036854775808 ≤ x ∧ x ≤ 9223372036854775807
theorem I64.of_wf {x : Int} (h : (Lit.int .i64 x).wf = true) : I64 x := by
  simp [Lit.wf, IntKind.min, IntKind.max, IntKind.signed, IntKind.bits] at h
  exact ⟨by omega, by omega⟩

section
variable {H : Type} {enc : TypeId × Value → H} {W : World}

set_option maxRecDepth 100000 in
theorem bytes_of {fuel : Nat} {v : Value} {y : DataW H × List MemPlace} (h : DataW.trod enc Try.prog W 0 (fun _ => true) true fuel 22 [v] = some y) :
    ∃ a n cap zs, v = .slice a n cap ∧ zs.length = n ∧ n ≤ 9223372036854775807 ∧ Byte zs ∧ At .u8 W a zs := by
  rcases open_ints Try.underlying22 Try.underlying5 (by kernel_rfl) h with ⟨hcs, _⟩ | ⟨x, l, c, zs, hcs, _, hl, hm, hz, _, hcell, hwz⟩
  · simp at hcs
    exact ⟨none, 0, 0, [], hcs, rfl, by omega, by simp [Byte], .inl rfl⟩
  · simp at hcs
    have hz' : zs.length = c := by simpa using hz
    refine ⟨some x, l, c, zs.take l, hcs, by simp; omega, by unfold maxLen at hm; omega, fun n hn => ?_, ?_⟩
    · have := hwz n (List.mem_of_mem_take hn)
      simp [Lit.wf, IntKind.min, IntKind.max, IntKind.signed, IntKind.bits] at this
      omega
    · by_cases h0 : l = 0
      · left; simp [h0]
      · right
        obtain ⟨b, off, spot⟩ := x
        have hc0 := hcell 0 (by omega)
        have hs : spot = none := by simpa [Addr.add] using World.cell?_spot hc0
        subst hs
        refine ⟨b, off, rfl, block_lt_of_cell (a := (⟨b, off, none⟩ : Addr).add 0) hc0, fun i hi => ?_⟩
        have hi' : i < l := by simp at hi; omega
        have := hcell i (by omega)
        rw [Addr.add_lit] at this
        rw [this]
        simp [List.getD, hi']

def PInt (ps : List PD) : Prop := ∀ i, I64 (ps.getD i (0, [])).1 ∧ Byte (ps.getD i (0, [])).2
set_option maxRecDepth 100000 in
theorem pends_of {fuel : Nat} {v : Value} {y : DataW H × List MemPlace} (h : DataW.trod enc Try.prog W 0 (fun _ => true) true fuel 23 [v] = some y) :
    ∃ a n cap ps, v = .slice a n cap ∧ ps.length = n ∧ n ≤ 9223372036854775807 ∧ PAt W a ps ∧ (∀ i, (ps.getD i (0, [])).2.length ≤ 9223372036854775807) ∧ PInt ps := by
  rcases Go.Deep.open_slice_pairs Try.underlying23 Try.underlying56 (by kernel_rfl) rfl rfl (by kernel_rfl) (by kernel_rfl) h with ⟨hcs, _⟩ | ⟨x, l, c, m, nn, V0, V1, D0, D1, P0, P1, hcs, _, hl, hm, hmm, _, hx⟩
  · simp at hcs
    refine ⟨none, 0, 0, [], hcs, rfl, by omega, .inl rfl, fun i => by simp, fun i => ⟨⟨by simp, by simp⟩, by simp [Byte]⟩⟩
  · simp at hcs hmm
    subst hmm
    have each : ∀ i, i < m → ∃ q : PD × Option Addr × Nat, V0 i = .int .i64 q.1.1 ∧ V1 i = .slice q.2.1 q.1.2.length q.2.2 ∧ At .u8 W q.2.1 q.1.2 ∧ q.1.2.length ≤ 9223372036854775807 ∧ I64 q.1.1 ∧ Byte q.1.2 := by
      intro i hi
      obtain ⟨h1, h2, h3, h4⟩ := hx i hi
      obtain ⟨s, e1, _, hw⟩ := DataW.trod_int (k := .i64) Try.underlying2 h3
      obtain ⟨a, n, cap, zs, e2, hn, hn2, hb, ha⟩ := bytes_of h4
      simp at e1
      exact ⟨((s, zs), a, cap), e1, by rw [e2, hn], ha, by show zs.length ≤ _; omega, I64.of_wf hw, hb⟩
    obtain ⟨q, hq⟩ := Go.Deep.choose_lt each
    have hget : ∀ i, i < l → (((List.range l).map fun i => (q i).1).getD i (0, [])) = (q i).1 := fun i hi => by simp [List.getD, hi]
    have hout : ∀ i, ¬ i < l → (((List.range l).map fun i => (q i).1).getD i (0, [])) = (0, []) := fun i hi => by
      rw [List.getD_eq_getElem?_getD, List.getElem?_eq_none (by simp; omega)]; rfl
    refine ⟨some x, l, m, (List.range l).map fun i => (q i).1, hcs, by simp, by unfold maxLen at hm; omega, ?_, fun i => ?_, fun i => ?_⟩
    · by_cases h0 : l = 0
      · left; simp [h0]
      · right
        obtain ⟨b, off, spot⟩ := x
        have hc0 := (hx 0 (by omega)).1
        have hs : spot = none := by simpa [Addr.add] using World.cell?_spot hc0
        subst hs
        refine ⟨b, off, rfl, block_lt_of_cell (a := (⟨b, off, none⟩ : Addr).add (0 * 2)) hc0, fun i hi => ?_⟩
        have hi' : i < l := by simpa using hi
        obtain ⟨h1, h2, _, _⟩ := hx i (by omega)
        obtain ⟨g1, g2, g3, _, _, _⟩ := hq i (by omega)
        rw [Addr.add_lit] at h1 h2
        rw [hget i hi']
        exact ⟨(q i).2.1, (q i).2.2, by rw [h1, g1], by rw [Nat.add_assoc, h2, g2], g3⟩
    · by_cases hi : i < l
      · rw [hget i hi]; exact (hq i (by omega)).2.2.2.1
      · rw [hout i hi]; simp
    · by_cases hi : i < l
      · rw [hget i hi]; exact (hq i (by omega)).2.2.2.2
      · rw [hout i hi]; exact ⟨⟨by simp, by simp⟩, by simp [Byte]⟩

/-- The argument is a device. -/
def ArgD (W : World) (v : Value) : Prop :=
  ∃ (a : Option Addr) (n cap : Nat) (a' : Option Addr) (n' cap' : Nat) (zs : List Int) (ps : List PD) (f : Int) (d : Bool), v = .agg #[.slice a n cap, .slice a' n' cap', .int .i64 f, .bool d] ∧ zs.length = n ∧ ps.length = n' ∧
    n ≤ 9223372036854775807 ∧ n' ≤ 9223372036854775807 ∧ At .u8 W a zs ∧ PAt W a' ps ∧ (∀ i, (ps.getD i (0, [])).2.length ≤ 9223372036854775807) ∧ Byte zs ∧ PInt ps ∧ I64 f

set_option maxRecDepth 100000 in
theorem dev_of {r : Reach} {b0 : Nat} {v : Value} {d : DataW H} {p : List MemPlace} (hv : Value.okWide Try.prog W r b0 25 v) (h : DataW.Trod enc Try.prog W 0 (fun _ => true) true 25 v d p) : ArgD W v := by
  obtain ⟨v0, v1, v2, v3, y0, y1, y2, y3, n, rfl, _, _, h0, h1, h2, h3⟩ := Go.Joins.open_agg4 Try.underlying25 (by kernel_rfl) (by kernel_rfl) hv h
  obtain ⟨a, n, cap, zs, rfl, hn, hn2, hb, ha⟩ := bytes_of h0
  obtain ⟨a', n', cap', ps, rfl, hn', hn2', ha', hps, hpi⟩ := pends_of h1
  obtain ⟨f, e2, _, hf⟩ := DataW.trod_int (k := .i64) Try.underlying2 h2
  obtain ⟨b, e3, _⟩ := DataW.trod_bool Try.underlying4 h3
  simp at e2 e3
  subst e2 e3
  exact ⟨a, n, cap, a', n', cap', zs, ps, f, b, rfl, hn, hn', hn2, hn2', ha, ha', hps, hb, hpi, I64.of_wf hf⟩
end
end Go.Proofs.Ytiignammhieidaa
