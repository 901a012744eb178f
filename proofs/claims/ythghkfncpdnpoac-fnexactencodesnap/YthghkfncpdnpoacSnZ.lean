/-
  Own work: the answers of EncodeSnap as the law sees them, and its marks on a snap.
-/
import Derived.Test.YthghkfncpdnpoacSnY
import Derived.Test.YthghkfncpdnpoacMkI
import Derived.Test.YthghkfncpdnpoacEqB
import Derived.Test.YthghkfncpdnpoacCpe
namespace Go.Proofs.Ythghkfncpdnpoac
open Go.ChangeShapes Go.WideShapes Go.ChangeAt Go.RowKit
set_option linter.unusedVariables false

/-- A text that is the call's own: its block lies behind lo. -/
def EV (lo : Nat) (w : World) (v : Value) (zs : List Int) : Prop :=
  ∃ a c, v = .slice a zs.length c ∧ At .u8 w a zs ∧ Open w a zs.length ∧ ∀ ad, a = some ad → lo ≤ ad.block ∧ ad.block < w.heap.size
theorem EV.of_own {w : World} {B lo : Nat} {v : Value} {zs : List Int} (h : Own w B v zs) (hl : lo ≤ B) : EV lo w v zs := by
  have hp := h.part
  obtain ⟨h0, g, c, rfl⟩ := h
  rcases h0.2 with ⟨h', _⟩ | ⟨g', c', cur, h', hb, hh, hc, hr⟩
  · cases h'
  · cases h'
    have hlt := (Array.getElem?_eq_some_iff.1 hh).1
    have hcell : ∀ i, i < zs.length → w.cell? ⟨g, 0 + i, none⟩ = some (.int .u8 (zs.getD i 0)) := fun i hi => by
      rw [Nat.zero_add, h0.cellAt i (by omega)]; simp [hi]
    refine ⟨_, _, rfl, .inr ⟨g, 0, rfl, hlt, hcell⟩, .inr ⟨g, 0, rfl, hlt, fun i hi => ⟨by rw [hcell i hi]; rfl, ?_⟩⟩, fun ad e => by cases e; exact ⟨Nat.le_trans hl hb, hlt⟩⟩
    exact frozen_of_row w g _ _ _ hh
theorem EV.nil (lo : Nat) (w : World) : EV lo w (.slice none 0 0) [] := ⟨none, 0, rfl, .inl rfl, .inl rfl, fun _ e => by cases e⟩
theorem snE_len (gn tl : Int) (D U : List Int) : (snE gn tl D U).length ≤ 128 := by
  unfold snE; cases snB gn tl D U
  · exact Nat.zero_le _
  · exact Nat.le_of_eq END_len
theorem sesV_any (gn tl : Int) (aD aU : Option Addr) (nD cD nU cU : Nat) (D U : List Int) (w : World) (hD : D.length = nD) (hU : U.length = nU) (mD : nD ≤ 1048576) (mU : nU ≤ 1048576) (haD : At .i64 w aD D) (haU : At .i64 w aU U) (ug : U32 gn) (ut : U32 tl) :
    Calls Try.prog 32 #[.agg #[.int .u32 gn, .int .u32 tl, .slice aD nD cD, .slice aU nU cU]] w fun e w' => ∃ v, e = .returned v ∧ EV w.heap.size w' v (snE gn tl D U) ∧ Below w.heap.size w w' := by
  refine (ses_any gn tl aD aU nD cD nU cU D U w hD hU mD mU haD haU ug ut).mono ?_
  rintro e w' ⟨v, rfl, ho, hb⟩
  exact ⟨v, rfl, EV.of_own ho (Nat.le_refl _), hb⟩
theorem iesV_any (gn tl : Int) (aD aU : Option Addr) (nD cD nU cU : Nat) (D U : List Int) (w : World) (hD : D.length = nD) (hU : U.length = nU) (mD : nD ≤ 1048576) (mU : nU ≤ 1048576) (haD : At .i64 w aD D) (haU : At .i64 w aU U) (ug : U32 gn) (ut : U32 tl) :
    Calls Try.prog 34 #[.agg #[.int .u32 gn, .int .u32 tl, .slice aD nD cD, .slice aU nU cU]] w fun e w' => ∃ v, e = .returned v ∧ EV w.heap.size w' v (snE gn tl D U) ∧ Below w.heap.size w w' := by
  by_cases hs : SnP gn tl D U
  · unfold snE; rw [snB_yes hs]
    refine (ies_yes gn tl aD aU nD cD nU cU D U w hD hU mD mU haD haU ug ut hs).mono ?_
    rintro e w' ⟨v, rfl, ⟨B, hB, ho⟩, hb⟩
    exact ⟨v, rfl, EV.of_own ho hB, hb⟩
  · have hf : snB gn tl D U = false := by unfold snB; simp [hs]
    unfold snE; rw [hf]
    refine (ies_no gn tl aD aU nD cD nU cU D U w hD hU mD mU haD haU hf).mono ?_
    rintro e w' ⟨rfl, hb⟩
    exact ⟨_, rfl, EV.nil _ _, hb⟩
theorem RowV.opn2 {w : World} {g n : Nat} {t : TypeId} {xs : List Int} (h : RowV w g t (iC xs)) (hn : xs.length = n) : Open w (some ⟨g, 0, none⟩) n :=
  .inr ⟨g, 0, rfl, h.lt, fun i hi => ⟨by
    have := h.i64
    rcases this with h0 | ⟨b, o, e, hl, hc⟩
    · rw [h0] at hn; simp at hn; omega
    · cases e; rw [hc i (by omega)]; rfl, h.fz _⟩⟩
set_option maxRecDepth 100000 in
/-- the marks on a snap's lists go into their two blocks. -/
theorem markSn_any (gn tl : Int) (gD gU nD nU : Nat) (k : Int) (w : World) (hD : Open w (some ⟨gD, 0, none⟩) nD) (hU : Open w (some ⟨gU, 0, none⟩) nU) (hg : gD < gU) (hgs : gU < w.heap.size) (hk : 0 ≤ k) (hk' : k + nD + nU ≤ 1099511627776) :
    Calls Try.prog 36 #[.agg #[.int .u32 gn, .int .u32 tl, .slice (some ⟨gD, 0, none⟩) nD nD, .slice (some ⟨gU, 0, none⟩) nU nU], .int .i64 k] w fun e w' => e = .returned (.int .i64 (k + nD + nU)) ∧ w.heap.size ≤ w'.heap.size ∧ Below gD w w' ∧ ∀ j, j < w.heap.size → j ≠ gD → j ≠ gU → w'.heap[j]? = w.heap[j]? := by
  have hh := heap_alloc_new w (.cells #[.int .u32 gn, .int .u32 tl, .slice (some ⟨gD, 0, none⟩) nD nD, .slice (some ⟨gU, 0, none⟩) nU nU] 53)
  have b0 : Below w.heap.size w (w.alloc (.cells #[.int .u32 gn, .int .u32 tl, .slice (some ⟨gD, 0, none⟩) nD nD, .slice (some ⟨gU, 0, none⟩) nU nU] 53)) := (Below.refl _ _).alloc (Nat.le_refl _) _
  have HO : ∀ {a : Nat} {n : Nat} {w1 : World}, Open w (some ⟨a, 0, none⟩) n → a < w.heap.size → w.heap.size ≤ w1.heap.size → w1.heap[a]? = w.heap[a]? → Open w1 (some ⟨a, 0, none⟩) n := by
    intro a n w1 h ha hs hb
    rcases h with h | ⟨g, o, e, hl, hc⟩
    · exact .inl h
    · cases e
      refine .inr ⟨a, 0, rfl, by omega, fun i hi => ?_⟩
      rw [World.cell?_of_block (w := w) hb, World.frozen?_of_block (w := w) hb]; exact hc i hi
  have HD := hid_of (HO hD (by omega) b0.size (b0.block _ (by omega)))
  have HUP := hid_of hU
  have HOO : Hid (∀ (w1 : World), w.heap.size ≤ w1.heap.size → w1.heap[gU]? = w.heap[gU]? → Open w1 (some ⟨gU, 0, none⟩) nU) := fun w1 h1 h2 => HO hU hgs h1 h2
  have HB0 := hid_of b0
  have HH := hid_of hh
  have c2 : (w.alloc (.cells #[.int .u32 gn, .int .u32 tl, .slice (some ⟨gD, 0, none⟩) nD nD, .slice (some ⟨gU, 0, none⟩) nU nU] 53)).cell? ⟨w.heap.size, 2, none⟩ = some (.slice (some ⟨gD, 0, none⟩) nD nD) := by rw [cell_of_row _ _ 2 _ _ _ hh]; rfl
  clear hD hU HO hh b0
  go_enter Try.func36, Try.ntmps36
  go_wp2_with fail
  generalize (w.alloc (.cells #[.int .u32 gn, .int .u32 tl, .slice (some ⟨gD, 0, none⟩) nD nD, .slice (some ⟨gU, 0, none⟩) nU nU] 53)) = w0 at *
  clear c2
  refine (markI_any (some ⟨gD, 0, none⟩) nD nD k w0 HD.out hk (by omega)).mono ?_
  rintro e w1 ⟨rfl, _, hw1⟩
  have hsz1 : w.heap.size ≤ w1.heap.size := by rw [hw1.size]; exact HB0.out.size
  have h1 : ∀ j, j < w.heap.size → j ≠ gD → w1.heap[j]? = w.heap[j]? := fun j hj hne => (hw1.block j (fun ad e => by cases e; exact hne)).trans (HB0.out.block j hj)
  have hbx : w1.heap[w.heap.size]? = w0.heap[w.heap.size]? := hw1.block _ (fun ad e => by cases e; show w.heap.size ≠ gD; omega)
  have HU1 := hid_of (HOO.out w1 hsz1 (h1 gU hgs (by omega)))
  have c3 : w1.cell? ⟨w.heap.size, 3, none⟩ = some (.slice (some ⟨gU, 0, none⟩) nU nU) := by rw [cell_of_row _ _ 3 _ _ _ (hbx.trans HH.out)]; rfl
  have HS1 : Hid (Below gD w w1 ∧ w.heap.size ≤ w1.heap.size ∧ ∀ j, j < w.heap.size → j ≠ gD → w1.heap[j]? = w.heap[j]?) := ⟨⟨hw1.os.trans HB0.out.os, hw1.tape.trans HB0.out.tape, hw1.output.trans HB0.out.output, hsz1, fun j hj => h1 j (by omega) (by omega)⟩, hsz1, h1⟩
  clear hw1 hsz1 h1 hbx HOO HUP HD HB0 HH
  go_wp2_with fail
  clear c3
  refine (markI_any (some ⟨gU, 0, none⟩) nU nU (k + nD) w1 HU1.out (by omega) (by omega)).mono ?_
  rintro e w2 ⟨rfl, _, hw2⟩
  have HF : Hid (w.heap.size ≤ w2.heap.size ∧ Below gD w w2 ∧ ∀ j, j < w.heap.size → j ≠ gD → j ≠ gU → w2.heap[j]? = w.heap[j]?) := by
    have h2 : ∀ j, j ≠ gU → w2.heap[j]? = w1.heap[j]? := fun j hne => hw2.block j (fun ad e => by cases e; exact hne)
    have hs : w.heap.size ≤ w2.heap.size := by rw [hw2.size]; exact HS1.out.2.1
    refine ⟨hs, ⟨hw2.os.trans HS1.out.1.os, hw2.tape.trans HS1.out.1.tape, hw2.output.trans HS1.out.1.output, hs, fun j hj => (h2 j (by omega)).trans (HS1.out.1.block j hj)⟩, fun j hj n1 n2 => (h2 j n2).trans (HS1.out.2.2 j hj n1)⟩
  clear hw2 HS1 HU1
  go_wp2
  go_ret
  exact ⟨rfl, HF.out⟩
end Go.Proofs.Ythghkfncpdnpoac
