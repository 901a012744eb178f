/-
  Own work: answers of ApplyFrame in memory (written by wip/mklap.py).
-/
import Derived.Test.YthghkfncpdnpoadApL
import Derived.Deep.Cut
namespace Go.Proofs.Ythghkfncpdnpoad
open Go.ChangeShapes Go.WideShapes Go.ChangeAt Go.RowKit
set_option linter.unusedVariables false

/-- A copy of a state, as a value. -/
def TStV (D U T : List Int) (nD nU nT : Nat) (k : Int) (w : World) (v : Value) : Prop := ∃ gD gU gT, v = .agg #[.slice (some ⟨gD, 0, none⟩) nD nD, .slice (some ⟨gU, 0, none⟩) nU nU, .int .i64 k, .slice (some ⟨gT, 0, none⟩) nT nT] ∧ RowV w gD 2 (iC D) ∧ RowV w gU 2 (iC U) ∧ RowV w gT 92 (iC T)
theorem TStV.below {D U T : List Int} {nD nU nT : Nat} {k : Int} {w w' : World} {v : Value} (h : TStV D U T nD nU nT k w v) (b : Below w.heap.size w w') : TStV D U T nD nU nT k w' v := by
  obtain ⟨gD, gU, gT, e, h1, h2, h3⟩ := h; exact ⟨gD, gU, gT, e, h1.below b, h2.below b, h3.below b⟩
/-- A new box for an answer. -/
def NwZ (lo : Nat) (w : World) (v : Value) : Prop := ∃ g, v = .pointer (some ⟨g, 0, none⟩) ∧ lo ≤ g ∧ w.heap[g]? = some (.cells #[.bool false, .slice none 0 0, .slice none 0 0, .int .i64 0, .slice none 0 0] 48 (0, 0))
theorem NwZ.below {lo : Nat} {w w' : World} {v : Value} (h : NwZ lo w v) (b : Below w.heap.size w w') : NwZ lo w' v := by
  obtain ⟨g, e, h1, h2⟩ := h; exact ⟨g, e, h1, by rw [b.block g (Array.getElem?_eq_some_iff.1 h2).1]; exact h2⟩
theorem has5 {ok : Bool} {k : Int} {aD aU aT : Option Addr} {nD cD nU cU nT cT j : Nat} (h : Value.has (.agg #[.bool ok, .slice aD nD cD, .slice aU nU cU, .int .i64 k, .slice aT nT cT]) j) : (∃ ad, aD = some ad ∧ ad.block = j) ∨ (∃ ad, aU = some ad ∧ ad.block = j) ∨ ∃ ad, aT = some ad ∧ ad.block = j := by
  rw [has_agg] at h
  obtain ⟨c, hc, a, ha, hj⟩ := h
  simp at hc
  rcases hc with rfl | rfl | rfl | rfl | rfl
  · cases ha
  · exact .inl ⟨a, ha, hj⟩
  · exact .inr (.inl ⟨a, ha, hj⟩)
  · cases ha
  · exact .inr (.inr ⟨a, ha, hj⟩)
theorem has5' {ok : Bool} {k : Int} {aD aU aT : Option Addr} {nD cD nU cU nT cT : Nat} {ad : Addr} (h : aD = some ad ∨ aU = some ad ∨ aT = some ad) : Value.has (.agg #[.bool ok, .slice aD nD cD, .slice aU nU cU, .int .i64 k, .slice aT nT cT]) ad.block := by
  rw [has_agg]
  rcases h with h | h | h
  · exact ⟨.slice aD nD cD, by simp, ad, h, rfl⟩
  · exact ⟨.slice aU nU cU, by simp, ad, h, rfl⟩
  · exact ⟨.slice aT nT cT, by simp, ad, h, rfl⟩
theorem WPV.cells {lo : Nat} {w : World} {v : Value} {r : ApR} (h : WPV lo w v r) : ∃ cs, v = .agg cs ∧ cs.size = 5 ∧ cs.all (fun x => x.oneCell') = true := by
  obtain ⟨aD, nD, cD, aU, nU, cU, aT, nT, cT, e, _⟩ := h; exact ⟨_, e, rfl, by simp [Value.oneCell']⟩
theorem APV.cells {lo : Nat} {w : World} {v : Value} {r : ApR} (h : APV lo w v r) : ∃ cs, v = .agg cs ∧ cs.size = 5 ∧ cs.all (fun x => x.oneCell') = true := by
  obtain ⟨aD, nD, cD, aU, nU, cU, aT, nT, cT, e, _⟩ := h; exact ⟨_, e, rfl, by simp [Value.oneCell']⟩
theorem WPV.fresh {w w' : World} {v : Value} {r : ApR} (h : WPV w.heap.size w' v r) : FreshH w w' v := by
  obtain ⟨aD, nD, cD, aU, nU, cU, aT, nT, cT, e, _, _, _, _, _, _, l1, l2, l3⟩ := h
  intro j hj
  rw [e] at hj
  rcases has5 hj with ⟨ad, h, rfl⟩ | ⟨ad, h, rfl⟩ | ⟨ad, h, rfl⟩
  · exact l1 ad h
  · exact l2 ad h
  · exact l3 ad h
theorem APV.fresh {w w' : World} {v : Value} {r : ApR} (h : APV w.heap.size w' v r) : FreshH w w' v := by
  obtain ⟨aD, nD, cD, aU, nU, cU, aT, nT, cT, e, s⟩ := h
  intro j hj
  rw [e] at hj
  rcases has5 hj with ⟨ad, h, rfl⟩ | ⟨ad, h, rfl⟩ | ⟨ad, h, rfl⟩
  · exact s.ld ad h
  · exact s.lu ad h
  · exact s.lt ad h
theorem WPV.mono {lo lo' : Nat} {w : World} {v : Value} {r : ApR} (h : WPV lo w v r) (hl : lo' ≤ lo) : WPV lo' w v r := by
  obtain ⟨aD, nD, cD, aU, nU, cU, aT, nT, cT, e, h1, h2, h3, h4, h5, h6, l1, l2, l3⟩ := h
  exact ⟨aD, nD, cD, aU, nU, cU, aT, nT, cT, e, h1, h2, h3, h4, h5, h6, l1.mono hl (Nat.le_refl _), l2.mono hl (Nat.le_refl _), l3.mono hl (Nat.le_refl _)⟩
theorem WPV.keep {lo : Nat} {w w' : World} {v : Value} {r : ApR} (h : WPV lo w v r) (hs : w.heap.size ≤ w'.heap.size) (hb : ∀ j, Value.has v j → j < w.heap.size → w'.heap[j]? = w.heap[j]?) : WPV lo w' v r := by
  obtain ⟨aD, nD, cD, aU, nU, cU, aT, nT, cT, e, h1, h2, h3, h4, h5, h6, l1, l2, l3⟩ := h
  subst e
  exact ⟨aD, nD, cD, aU, nU, cU, aT, nT, cT, rfl, h1.keep hs (fun ad e hl => hb _ (has5' (.inl e)) hl), h2.keep hs (fun ad e hl => hb _ (has5' (.inr (.inl e))) hl), h3.keep hs (fun ad e hl => hb _ (has5' (.inr (.inr e))) hl), h4, h5, h6, l1.mono (Nat.le_refl _) hs, l2.mono (Nat.le_refl _) hs, l3.mono (Nat.le_refl _) hs⟩
theorem APV.keep {lo : Nat} {w w' : World} {v : Value} {r : ApR} (h : APV lo w v r) (hs : w.heap.size ≤ w'.heap.size) (hb : ∀ j, Value.has v j → j < w.heap.size → w'.heap[j]? = w.heap[j]?) : APV lo w' v r := by
  obtain ⟨aD, nD, cD, aU, nU, cU, aT, nT, cT, e, s⟩ := h
  subst e
  exact ⟨aD, nD, cD, aU, nU, cU, aT, nT, cT, rfl, s.d.keep hs (fun ad e hl => hb _ (has5' (.inl e)) hl), s.u.keep hs (fun ad e hl => hb _ (has5' (.inr (.inl e))) hl), s.t.keep hs (fun ad e hl => hb _ (has5' (.inr (.inr e))) hl), s.nd, s.nu, s.nt, s.ld.mono (Nat.le_refl _) hs, s.lu.mono (Nat.le_refl _) hs, s.lt.mono (Nat.le_refl _) hs, s.du, s.dt, s.ut⟩
theorem WPV.wrG {lo G : Nat} {w w' : World} {v : Value} {r : ApR} (h : WPV lo w v r) (hw : Wr G w w') (hn : ∀ j, Value.has v j → j ≠ G) : WPV lo w' v r := h.keep (by rw [hw.size]; exact Nat.le_refl _) (fun j hj _ => hw.block j (hn j hj))
theorem APV.wrG {lo G : Nat} {w w' : World} {v : Value} {r : ApR} (h : APV lo w v r) (hw : Wr G w w') (hn : ∀ j, Value.has v j → j ≠ G) : APV lo w' v r := h.keep (by rw [hw.size]; exact Nat.le_refl _) (fun j hj _ => hw.block j (hn j hj))
theorem APV.below {lo : Nat} {w w' : World} {v : Value} {r : ApR} (h : APV lo w v r) (b : Below w.heap.size w w') : APV lo w' v r := h.keep b.size (fun j _ hj => b.block j hj)
theorem APV.mono {lo lo' : Nat} {w : World} {v : Value} {r : ApR} (h : APV lo w v r) (hl : lo' ≤ lo) : APV lo' w v r := by
  obtain ⟨aD, nD, cD, aU, nU, cU, aT, nT, cT, e, s⟩ := h
  exact ⟨aD, nD, cD, aU, nU, cU, aT, nT, cT, e, s.d, s.u, s.t, s.nd, s.nu, s.nt, s.ld.mono hl (Nat.le_refl _), s.lu.mono hl (Nat.le_refl _), s.lt.mono hl (Nat.le_refl _), s.du, s.dt, s.ut⟩
theorem APV.wpv {lo : Nat} {w : World} {v : Value} {r : ApR} (h : APV lo w v r) : WPV lo w v r := by
  obtain ⟨aD, nD, cD, aU, nU, cU, aT, nT, cT, e, s⟩ := h
  exact ⟨aD, nD, cD, aU, nU, cU, aT, nT, cT, e, s.d.at_, s.u.at_, s.t.at_, s.nd, s.nu, s.nt, s.ld, s.lu, s.lt⟩
/-- What a region leaves that stores an answer into a new box. -/
def FinB (PV : Nat → World → Value → ApR → Prop) (p : Nat) (W : World) (r : ApR) (u : Nat → Value) (w : World) : Prop :=
  ∃ G cs, u p = .pointer (some ⟨G, 0, none⟩) ∧ W.heap.size ≤ G ∧ w.heap[G]? = some (.cells cs 48 (0, 0)) ∧ PV W.heap.size w (.agg cs) r ∧ (∀ j, Value.has (.agg cs) j → j ≠ G) ∧ Below W.heap.size W w
structure LX (w : World) (sc fr : Array Value) (wr : World) : Prop where
  below : Below w.heap.size w wr
  b0 : wr.heap[w.heap.size]? = some (.cells sc 29 (0, 0))
  b1 : wr.heap[w.heap.size + 1]? = some (.cells fr 45 (0, 0))
theorem LX.lt {w wr : World} {sc fr : Array Value} (h : LX w sc fr wr) : w.heap.size + 1 < wr.heap.size := (Array.getElem?_eq_some_iff.1 h.b1).1
theorem LX.call {w wr w' : World} {sc fr : Array Value} {B : Nat} (h : LX w sc fr wr) (b : Below B wr w') (hB : w.heap.size + 2 ≤ B) : LX w sc fr w' :=
  ⟨h.below.trans (b.mono (by omega)), by rw [b.block _ (by omega)]; exact h.b0, by rw [b.block _ (by omega)]; exact h.b1⟩
theorem LX.start (w : World) (sc fr : Array Value) : LX w sc fr ((w.alloc (.cells sc 29)).alloc (.cells fr 45)) := by
  refine ⟨((Below.refl _ _).alloc (Nat.le_refl _) _).alloc (by simp) _, ?_, ?_⟩
  · rw [Below.heap_alloc _ _ w.heap.size (by simp)]; exact heap_alloc_new w _
  · have := heap_alloc_new (w.alloc (.cells sc 29)) (.cells fr 45)
    rwa [show (w.alloc (.cells sc 29)).heap.size = w.heap.size + 1 by simp] at this
theorem WPV.at5 {lo : Nat} {w : World} {ok : Bool} {k : Int} {aD aU aT : Option Addr} {nD cD nU cU nT cT : Nat} {r : ApR} (h : WPV lo w (.agg #[.bool ok, .slice aD nD cD, .slice aU nU cU, .int .i64 k, .slice aT nT cT]) r) : At .i64 w aD r.D ∧ At .i64 w aU r.U ∧ At .i64 w aT r.T := by
  obtain ⟨aD', nD', cD', aU', nU', cU', aT', nT', cT', e, h1, h2, h3, _⟩ := h
  simp at e
  obtain ⟨_, ⟨rfl, _⟩, ⟨rfl, _⟩, _, rfl, _⟩ := e
  exact ⟨h1, h2, h3⟩
theorem APV.s3 {lo : Nat} {w : World} {ok : Bool} {k : Int} {aD aU aT : Option Addr} {nD cD nU cU nT cT : Nat} {r : ApR} (h : APV lo w (.agg #[.bool ok, .slice aD nD cD, .slice aU nU cU, .int .i64 k, .slice aT nT cT]) r) : S3 lo w aD aU aT nD nU nT r.D r.U r.T := by
  obtain ⟨aD', nD', cD', aU', nU', cU', aT', nT', cT', e, h⟩ := h
  simp at e
  obtain ⟨_, ⟨rfl, rfl, _⟩, ⟨rfl, rfl, _⟩, _, rfl, rfl, _⟩ := e
  exact h
theorem APV.lo {lo : Nat} {w : World} {v : Value} {r : ApR} (h : APV lo w v r) {j : Nat} (hj : Value.has v j) : lo ≤ j := by
  obtain ⟨aD, nD, cD, aU, nU, cU, aT, nT, cT, e, s⟩ := h
  rw [e] at hj
  rcases has5 hj with ⟨ad, h, rfl⟩ | ⟨ad, h, rfl⟩ | ⟨ad, h, rfl⟩
  · exact (s.ld ad h).1
  · exact (s.lu ad h).1
  · exact (s.lt ad h).1
theorem iC_size (xs : List Int) : (iC xs).size = xs.length := by simp [iC]
theorem RowV.opn {w : World} {g n : Nat} {t : TypeId} {cs : Array Value} (h : RowV w g t cs) (hn : cs.size = n) : Open w (some ⟨g, 0, none⟩) n :=
  .inr ⟨g, 0, rfl, h.lt, fun i hi => ⟨by rw [Nat.zero_add, cell_of_row w g i _ _ _ h]; simp [hn, hi], h.fz _⟩⟩
end Go.Proofs.Ythghkfncpdnpoad
