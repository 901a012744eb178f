/-
  Own work: a device of the call's own whose cache may be appended to.
-/
import Derived.Test.YtoiflbfnjebpeaaStp
namespace Go.Proofs.Ytoiflbfnjebpeaa
open Go.ChangeShapes Go.WideShapes Go.ChangeAt Go.RowKit
set_option linter.unusedVariables false

def DX (B : Nat) (w : World) (v : Value) (zs : List Int) (ps : List PD) (f : Int) (d : Bool) : Prop :=
  ∃ da dc ca cc E, v = .agg #[.slice da zs.length dc, .slice ca ps.length cc, .int .i64 f, .bool d] ∧ At .u8 w da zs ∧ Open w da zs.length ∧ (∀ ad, da = some ad → B ≤ ad.block ∧ ad.block < E) ∧ B ≤ E ∧ E ≤ w.heap.size ∧ (∃ qs, POwn w E (.slice ca ps.length cc) qs ∧ qps qs = ps) ∧ zs.length ≤ dc
section
variable {B B' : Nat} {w w' : World} {v : Value} {zs : List Int} {ps : List PD} {f : Int} {d : Bool}
theorem DX.mine (h : DX B w v zs ps f d) : DMine B w.heap.size w v zs ps f d := by
  obtain ⟨da, dc, ca, cc, E, e, h1, h2, h3, h4, h5, ⟨qs, hP, hq⟩, h7⟩ := h
  obtain ⟨ca', cc', e', hPm⟩ := hP.mine
  simp at e'
  obtain ⟨rfl, _, rfl⟩ := e'
  rw [hq] at hPm
  exact ⟨da, dc, ca, cc, E, e, h1, h2, h3, h4, h5, Nat.le_refl _, hPm, h7⟩
theorem DX.at_ (h : DX B w v zs ps f d) : DAt w v zs ps f d := h.mine.at_
theorem DX.keep (h : DX B w v zs ps f d) (hk : ∀ j, B ≤ j → j < w.heap.size → w'.heap[j]? = w.heap[j]?) (hs : w.heap.size ≤ w'.heap.size) : DX B w' v zs ps f d := by
  obtain ⟨da, dc, ca, cc, E, e, h1, h2, h3, h4, h5, ⟨qs, hP, hq⟩, h7⟩ := h
  exact ⟨da, dc, ca, cc, E, e, h1.keep (fun ad ea => hk ad.block (h3 ad ea).1 (by have := (h3 ad ea).2; omega)) hs, h2.keep (fun ad ea => hk ad.block (h3 ad ea).1 (by have := (h3 ad ea).2; omega)) hs, h3, h4, by omega, ⟨qs, hP.keep (fun k hk1 hk2 => hk k (by omega) hk2), hq⟩, h7⟩
theorem DX.below (h : DX B w v zs ps f d) (hb : Below w.heap.size w w') : DX B w' v zs ps f d := h.keep (fun j _ hj => hb.block j hj) hb.size
theorem DX.mono (h : DX B w v zs ps f d) (hB : B' ≤ B) : DX B' w v zs ps f d := by
  obtain ⟨da, dc, ca, cc, E, e, h1, h2, h3, h4, h5, h6, h7⟩ := h
  exact ⟨da, dc, ca, cc, E, e, h1, h2, fun ad ea => ⟨by have := (h3 ad ea).1; omega, (h3 ad ea).2⟩, by omega, h5, h6, h7⟩
theorem DvOwn.dx (h : DvOwn w B v zs ps f d) : DX B w v zs ps f d := by
  obtain ⟨dv, cv, qs, E, rfl, hO, hP, rfl, hBE, hEw, hdv⟩ := h
  obtain ⟨ca, cc, rfl, hPm⟩ := hP.mine
  have hq : (qps qs).length = qs.length := by simp [qps]
  rcases hO with ⟨rfl, rfl⟩ | hO
  · exact ⟨none, 0, ca, cc, E, by rw [hq]; rfl, .inl rfl, .inl rfl, (fun ad e => by cases e), hBE, hEw, ⟨qs, by rw [hq]; exact hP, rfl⟩, Nat.le_refl _⟩
  · obtain ⟨g, c, rfl, hb, hg, hc, hA, hOp⟩ := hO.at_
    exact ⟨_, c, ca, cc, E, by rw [hq], hA, hOp, fun ad e => by cases e; exact ⟨hb, hdv g rfl⟩, hBE, hEw, ⟨qs, by rw [hq]; exact hP, rfl⟩, hc⟩
theorem DX.refit {a b : Value} (h : DX B w (.agg #[a, b, .int .i64 f, .bool d]) zs ps f d) (f' : Int) (d' : Bool) : DX B w (.agg #[a, b, .int .i64 f', .bool d']) zs ps f' d' := by
  obtain ⟨da, dc, ca, cc, E, hr, h⟩ := h
  simp at hr
  obtain ⟨rfl, rfl⟩ := hr
  exact ⟨da, dc, ca, cc, E, rfl, h⟩
end
end Go.Proofs.Ytoiflbfnjebpeaa
