/-
  Own work: a state copied, by the model (written by wip/mkswk.py).
-/
import Derived.Test.YtpbjhihpkfkobaeSwI
import Derived.Test.YtpbjhihpkfkobaeSwH
import Derived.Test.YtpbjhihpkfkobaeMCpe
namespace Go.Proofs.Ytpbjhihpkfkobae
open Go.ChangeShapes Go.WideShapes Go.ChangeAt Go.RowKit
set_option linter.unusedVariables false

theorem TapO.keep {B : Nat} {w w' : World} {v : Value} {T : List Int} {n : Nat} (h : TapO B w v T n) (hb : ∀ k, B ≤ k → k < w.heap.size → w'.heap[k]? = w.heap[k]?) : TapO B w' v T n := by
  refine ⟨h.1, ?_⟩
  rcases h.2 with h' | ⟨g, c, cur, h1, h2, h3, h4⟩
  · exact .inl h'
  · exact .inr ⟨g, c, cur, h1, h2, by rw [hb g h2 (Array.getElem?_eq_some_iff.1 h3).1]; exact h3, h4⟩
theorem TapO.below {B : Nat} {w w' : World} {v : Value} {T : List Int} {n : Nat} (h : TapO B w v T n) (b : Below w.heap.size w w') : TapO B w' v T n := h.keep (fun k _ hk => b.block k hk)
theorem TapO.wrk {B R : Nat} {w w' : World} {v : Value} {T : List Int} {n : Nat} (h : TapO B w v T n) (hw : Wr R w w') (hR : R < B) : TapO B w' v T n := h.keep (fun k hk _ => hw.block k (by omega))
theorem TapO.wr {B R : Nat} {w w' : World} {v : Value} {T : List Int} {n : Nat} (h : TapO B w v T n) (hw : Wr R w w') (hR : R < B) : TapO B w' v T n := h.wrk hw hR
/-- The cells of a copy. -/
def CpFin (lo : Nat) (k : Int) (D U T : List Int) (nT : Nat) (w : World) (cs : Array Value) : Prop :=
  ∃ aD nD cD aU nU cU aT cT, cs = #[.slice aD nD cD, .slice aU nU cU, .int .i64 k, .slice aT nT cT] ∧ Iow lo w (.slice aD nD cD) D ∧ Iow lo w (.slice aU nU cU) U ∧ TapO lo w (.slice aT nT cT) T nT
section
variable {lo lo' R : Nat} {k : Int} {D U T : List Int} {nT : Nat} {w w' : World} {cs : Array Value} {v : Value}
theorem CpFin.below (h : CpFin lo k D U T nT w cs) (b : Below w.heap.size w w') : CpFin lo k D U T nT w' cs := by
  obtain ⟨aD, nD, cD, aU, nU, cU, aT, cT, e, h1, h2, h3⟩ := h; exact ⟨aD, nD, cD, aU, nU, cU, aT, cT, e, h1.below b, h2.below b, h3.below b⟩
theorem CpFin.mono (h : CpFin lo k D U T nT w cs) (hl : lo' ≤ lo) : CpFin lo' k D U T nT w cs := by
  obtain ⟨aD, nD, cD, aU, nU, cU, aT, cT, e, h1, h2, h3⟩ := h; exact ⟨aD, nD, cD, aU, nU, cU, aT, cT, e, h1.mono hl, h2.mono hl, TapO.mono h3 hl⟩
def CpBd (lo : Nat) (k : Int) (D U T : List Int) (nT : Nat) (w : World) (v : Value) : Prop := ∃ cs, v = .agg cs ∧ CpFin lo k D U T nT w cs
theorem CpBd.below (h : CpBd lo k D U T nT w v) (b : Below w.heap.size w w') : CpBd lo k D U T nT w' v := by obtain ⟨cs, e, h⟩ := h; exact ⟨cs, e, h.below b⟩
theorem CpBd.wr (h : CpBd lo k D U T nT w v) (hw : Wr R w w') (hR : R < lo) : CpBd lo k D U T nT w' v := by
  obtain ⟨cs, e, aD, nD, cD, aU, nU, cU, aT, cT, e2, h1, h2, h3⟩ := h; exact ⟨cs, e, aD, nD, cD, aU, nU, cU, aT, cT, e2, h1.wr hw hR, h2.wr hw hR, h3.wr hw hR⟩
end
structure WBF (w wb : World) (sc : Array Value) : Prop where
  p1 : w.heap.size < wb.heap.size
  p2 : wb.heap[w.heap.size]? = some (.cells sc 59 (0, 0))
  p3 : w.heap.size ≤ wb.heap.size
  p4 : wb.heap.size ≤ w.heap.size + 1
set_option maxRecDepth 100000 in
set_option maxHeartbeats 4000000 in
theorem l5c_any (aD aU aT : Option Addr) (nD cD nU cU nT cT : Nat) (D U : List Int) (k : Int) (T : List Int) (w : World) (hD : D.length = nD) (hU : U.length = nU) (hT : T.length = nT * 2) (mD : nD ≤ 1048576) (mU : nU ≤ 1048576) (mT : nT ≤ 1048576)
    (haD : At .i64 w aD D) (haU : At .i64 w aU U) (haT : At .i64 w aT T) :
    Calls Try.prog 93 #[.agg #[.slice aD nD cD, .slice aU nU cU, .int .i64 k, .slice aT nT cT]] w fun e w' => ∃ cs, e = .returned (.agg cs) ∧ CpFin w.heap.size k D U T nT w' cs ∧ Below w.heap.size w w' := by
  obtain ⟨wb, hwb⟩ : ∃ wb, wb = w.alloc (.cells #[.slice aD nD cD, .slice aU nU cU, .int .i64 k, .slice aT nT cT] 59) := ⟨_, rfl⟩
  have HWB : Hid (WBF w wb #[.slice aD nD cD, .slice aU nU cU, .int .i64 k, .slice aT nT cT]) := ⟨by rw [hwb]; simp, by rw [hwb]; exact heap_alloc_new w _, by rw [hwb]; simp, by rw [hwb]; simp⟩
  have HBW : Hid (Below w.heap.size w wb) := by show Below _ _ _; rw [hwb]; exact (Below.refl _ _).alloc (Nat.le_refl _) _
  have HAD : Hid (At .i64 w aD D) := haD
  have HAU : Hid (At .i64 w aU U) := haU
  have HAT : Hid (At .i64 w aT T) := haT
  have HLN : Hid (D.length = nD ∧ U.length = nU ∧ T.length = nT * 2) := ⟨hD, hU, hT⟩
  have HSZ : Hid ((Try.prog.info? 59).map (·.size) = some 4) := by show _ = _; kernel_rfl
  have HW0 : Hid (Below wb.heap.size wb ((w.alloc (.cells #[.slice aD nD cD, .slice aU nU cU, .int .i64 k, .slice aT nT cT] 59)).alloc (.cells #[.slice none 0 0, .slice none 0 0, .int .i64 0, .slice none 0 0] 59)).drew) := by
    have h1 : Below wb.heap.size wb (wb.alloc (.cells #[.slice none 0 0, .slice none 0 0, .int .i64 0, .slice none 0 0] 59)) := (Below.refl _ _).alloc (Nat.le_refl _) _
    rw [hwb] at h1 ⊢
    exact ⟨h1.os, h1.tape, h1.output, h1.size, h1.block⟩
  have HR0 : Hid (((w.alloc (.cells #[.slice aD nD cD, .slice aU nU cU, .int .i64 k, .slice aT nT cT] 59)).alloc (.cells #[.slice none 0 0, .slice none 0 0, .int .i64 0, .slice none 0 0] 59)).drew.heap[w.heap.size + 1]? = some (.cells #[.slice none 0 0, .slice none 0 0, .int .i64 0, .slice none 0 0] 59 (0, 0))) := by
    have := heap_alloc_new (w.alloc (.cells #[.slice aD nD cD, .slice aU nU cU, .int .i64 k, .slice aT nT cT] 59)) (.cells #[.slice none 0 0, .slice none 0 0, .int .i64 0, .slice none 0 0] 59)
    rwa [show (w.alloc (.cells #[.slice aD nD cD, .slice aU nU cU, .int .i64 k, .slice aT nT cT] 59)).heap.size = w.heap.size + 1 by simp] at this
  clear haD haU haT hD hU hT hwb
  go_enter Try.func93, Try.ntmps93
  go_wp2_with fail
  refine wp_region_any (by kernel_rfl) ?_
  refine wpAny_slotsU (fun i a b => if i = 15 then Wr (w.heap.size + 1) a b else Below a.heap.size a b) (frame := (fun (c0 c1 c2 : Value) => fun (t : Nat → Value) => ({ tmps := List.toArray (c0 :: c1 :: c2 :: t 0 :: t 1 :: t 2 :: t 3 :: t 4 :: t 5 :: t 6 :: t 7 :: t 8 :: t 9 :: t 10 :: t 11 :: t 12 :: t 13 :: t 14 :: []), defers := [] } : Act)) _ _ _)
    (Ext := fun L u w' => ApS wb (w.heap.size + 1) 15 59 #[.slice none 0 0, .slice none 0 0, .int .i64 0, .slice none 0 0] (CpFin (w.heap.size + 2) k D U T nT) [] L u w') (Good := fun i L w' v => if i = 0 then EmS (w.heap.size + 2) 2 w' v else if i = 1 then v = .pointer (some ⟨w.heap.size, 0, none⟩) else if i = 2 then v = .slice aD nD cD else if i = 3 then Iow (w.heap.size + 2) w' v D else if i = 4 then EmS (w.heap.size + 2) 2 w' v else if i = 5 then v = .pointer (some ⟨w.heap.size, 1, none⟩) else if i = 6 then v = .slice aU nU cU else if i = 7 then Iow (w.heap.size + 2) w' v U else if i = 8 then v = .pointer (some ⟨w.heap.size, 2, none⟩) else if i = 9 then v = .int .i64 k else if i = 10 then EmS (w.heap.size + 2) 126 w' v else if i = 11 then v = .pointer (some ⟨w.heap.size, 3, none⟩) else if i = 12 then v = .slice aT nT cT else if i = 13 then TapO (w.heap.size + 2) w' v T nT else if i = 14 then CpBd (w.heap.size + 2) k D U T nT w' v else if i = 15 then L 15 = true else True) ?hstab (by kernel_rfl) ?hop ?hdone _ _ ((fun (x0 x1 x2 x3 x4 x5 x6 x7 x8 x9 x10 x11 x12 x13 x14 : Value) => fun (i : Nat) => if i = 0 then x0 else if i = 1 then x1 else if i = 2 then x2 else if i = 3 then x3 else if i = 4 then x4 else if i = 5 then x5 else if i = 6 then x6 else if i = 7 then x7 else if i = 8 then x8 else if i = 9 then x9 else if i = 10 then x10 else if i = 11 then x11 else if i = 12 then x12 else if i = 13 then x13 else if i = 14 then x14 else undef) _ _ _ _ _ _ _ _ _ _ _ _ _ _ _) _ (by simp) ?ext ?start (by simp)
  case start => intro i hi h; exact absurd h (by rw [Array.getD_eq_getD_getElem?, Array.getElem?_replicate]; split <;> simp)
  case ext => exact ApS.start ⟨HW0.out, fun p _ hp => absurd hp (by rw [Array.getD_eq_getD_getElem?, Array.getElem?_replicate]; split <;> simp), fun p _ q _ _ hp => absurd hp (by rw [Array.getD_eq_getD_getElem?, Array.getElem?_replicate]; split <;> simp)⟩ (fun i => by rw [Array.getD_eq_getD_getElem?, Array.getElem?_replicate]; split <;> rfl) HR0.out
  case hstab =>
    intro j L w9 w' i v hM hij hLi h
    by_cases h0 : j = 0
    · subst h0
      by_cases hl : i = 15
      · subst hl
        simp at h hM ⊢
        exact h.wr hM (by omega)
      · rw [if_neg hl] at hM
        simp at h ⊢
        exact h.below hM
    by_cases h3 : j = 3
    · subst h3
      by_cases hl : i = 15
      · subst hl
        simp at h hM ⊢
        exact h.wr hM (by omega)
      · rw [if_neg hl] at hM
        simp at h ⊢
        exact h.below hM
    by_cases h4 : j = 4
    · subst h4
      by_cases hl : i = 15
      · subst hl
        simp at h hM ⊢
        exact h.wr hM (by omega)
      · rw [if_neg hl] at hM
        simp at h ⊢
        exact h.below hM
    by_cases h7 : j = 7
    · subst h7
      by_cases hl : i = 15
      · subst hl
        simp at h hM ⊢
        exact h.wr hM (by omega)
      · rw [if_neg hl] at hM
        simp at h ⊢
        exact h.below hM
    by_cases h10 : j = 10
    · subst h10
      by_cases hl : i = 15
      · subst hl
        simp at h hM ⊢
        exact h.wr hM (by omega)
      · rw [if_neg hl] at hM
        simp at h ⊢
        exact h.below hM
    by_cases h13 : j = 13
    · subst h13
      by_cases hl : i = 15
      · subst hl
        simp at h hM ⊢
        exact h.wr hM (by omega)
      · rw [if_neg hl] at hM
        simp at h ⊢
        exact h.below hM
    by_cases h14 : j = 14
    · subst h14
      by_cases hl : i = 15
      · subst hl
        simp at h hM ⊢
        exact h.wr hM (by omega)
      · rw [if_neg hl] at hM
        simp at h ⊢
        exact h.below hM
    by_cases hl : j = 15
    · subst hl
      simp at h ⊢
      unfold updK; simp [h]
    simp only [if_neg h0, if_neg h3, if_neg h4, if_neg h7, if_neg h10, if_neg h13, if_neg h14, if_neg hl] at h ⊢
    exact h
  case hop =>
    intro i o L t w' ho hLi hx hdep K hK
    have hi : i < 16 := (Array.getElem?_eq_some_iff.1 ho).1
    obtain rfl | rfl | rfl | rfl | rfl | rfl | rfl | rfl | rfl | rfl | rfl | rfl | rfl | rfl | rfl | rfl : i = 0 ∨ i = 1 ∨ i = 2 ∨ i = 3 ∨ i = 4 ∨ i = 5 ∨ i = 6 ∨ i = 7 ∨ i = 8 ∨ i = 9 ∨ i = 10 ∨ i = 11 ∨ i = 12 ∨ i = 13 ∨ i = 14 ∨ i = 15 := by omega
    all_goals (simp at ho; subst ho)
    · clear hdep
      have hsz : w.heap.size + 2 ≤ w'.heap.size := by have := hx.lt; omega
      have bb : Below w'.heap.size w' (w'.alloc (.cells #[] 2)) := (Below.refl _ _).alloc (Nat.le_refl _) _
      have hK' := hK (w'.alloc (.cells #[] 2)) (.slice (some ⟨w'.heap.size, 0, none⟩) 0 0) (by simpa using EmS.new 2 w' hsz) (hx.step (fun _ _ _ b h => h.below b) 0 (by decide) _ bb (fun h => absurd h (by decide))) (by rw [if_neg (by decide)]; exact bb)
      clear hK bb
      rw [if_pos (by rfl)]
      go_simp
      simpa [upd] using hK'
    · clear hdep
      have hK' := hK w' (.pointer (some ⟨w.heap.size, 0, none⟩)) (by simp) (hx.step (fun _ _ _ b h => h.below b) 1 (by decide) _ (Below.refl _ _) (fun h => absurd h (by decide))) (by rw [if_neg (by decide)]; exact (Below.refl _ _))
      clear hK
      rw [if_pos (by rfl)]
      go_simp
      simpa [upd] using hK'
    · have d1 : t 1 = .pointer (some ⟨w.heap.size, 0, none⟩) := by simpa using (hdep ⟨1, .data⟩ (by simp) rfl).2
      clear hdep
      have cc : w'.cell? ⟨w.heap.size, 0, none⟩ = some (.slice aD nD cD) := by rw [World.cell?_of_block (a := ⟨w.heap.size, 0, none⟩) (w := wb) (hx.ax.below.block _ HWB.out.p1), cell_of_row wb w.heap.size 0 _ _ _ HWB.out.p2]; rfl
      have hK' := hK w' (.slice aD nD cD) (by simp) (hx.step (fun _ _ _ b h => h.below b) 2 (by decide) _ (Below.refl _ _) (fun h => absurd h (by decide))) (by rw [if_neg (by decide)]; exact (Below.refl _ _))
      clear hK
      rw [if_pos (by rfl)]
      go_simp
      simpa [upd, d1] using hK'
    · have f0 : EmS (w.heap.size + 2) 2 w' (t 0) := by simpa using (hdep ⟨0, .data⟩ (by simp) rfl).2
      have d2 : t 2 = .slice aD nD cD := by simpa using (hdep ⟨2, .data⟩ (by simp) rfl).2
      clear hdep
      have hsz : w.heap.size + 2 ≤ w'.heap.size := by have := hx.lt; omega
      have bw : Below w.heap.size w w' := HBW.out.trans (hx.ax.below.mono HWB.out.p3)
      have hK' : ∀ ww v, Iow (w.heap.size + 2) ww v D → Below w'.heap.size w' ww → K _ ww := fun ww v hv hb => hK ww v (by simpa using hv) (hx.step (fun _ _ _ b h => h.below b) 3 (by decide) _ hb (fun h => absurd h (by decide))) (by rw [if_neg (by decide)]; exact hb)
      clear hK
      rw [if_pos (by rfl)]
      refine wp_appG 36 2 (.int .i64 0) 1 8 Try.infoI64 Try.underlying36 rfl (by decide) (by decide) w' (.tmp 3) (.tmp 5) rfl (w.heap.size + 2) (t 0) rfl f0 aD nD cD D d2 (by rw [HLN.out.1, Nat.mul_one]) (HAD.out.below bw) mD hsz ?_
      intro v' ww h1 h2
      have hK2 := hK' ww v' (by unfold Iow; rw [HLN.out.1]; exact h1) h2
      clear hK' h1 h2
      simpa [upd, Act.put] using hK2
    · clear hdep
      have hsz : w.heap.size + 2 ≤ w'.heap.size := by have := hx.lt; omega
      have bb : Below w'.heap.size w' (w'.alloc (.cells #[] 2)) := (Below.refl _ _).alloc (Nat.le_refl _) _
      have hK' := hK (w'.alloc (.cells #[] 2)) (.slice (some ⟨w'.heap.size, 0, none⟩) 0 0) (by simpa using EmS.new 2 w' hsz) (hx.step (fun _ _ _ b h => h.below b) 4 (by decide) _ bb (fun h => absurd h (by decide))) (by rw [if_neg (by decide)]; exact bb)
      clear hK bb
      rw [if_pos (by rfl)]
      go_simp
      simpa [upd] using hK'
    · clear hdep
      have hK' := hK w' (.pointer (some ⟨w.heap.size, 1, none⟩)) (by simp) (hx.step (fun _ _ _ b h => h.below b) 5 (by decide) _ (Below.refl _ _) (fun h => absurd h (by decide))) (by rw [if_neg (by decide)]; exact (Below.refl _ _))
      clear hK
      rw [if_pos (by rfl)]
      go_simp
      simpa [upd] using hK'
    · have d5 : t 5 = .pointer (some ⟨w.heap.size, 1, none⟩) := by simpa using (hdep ⟨5, .data⟩ (by simp) rfl).2
      clear hdep
      have cc : w'.cell? ⟨w.heap.size, 1, none⟩ = some (.slice aU nU cU) := by rw [World.cell?_of_block (a := ⟨w.heap.size, 1, none⟩) (w := wb) (hx.ax.below.block _ HWB.out.p1), cell_of_row wb w.heap.size 1 _ _ _ HWB.out.p2]; rfl
      have hK' := hK w' (.slice aU nU cU) (by simp) (hx.step (fun _ _ _ b h => h.below b) 6 (by decide) _ (Below.refl _ _) (fun h => absurd h (by decide))) (by rw [if_neg (by decide)]; exact (Below.refl _ _))
      clear hK
      rw [if_pos (by rfl)]
      go_simp
      simpa [upd, d5] using hK'
    · have f4 : EmS (w.heap.size + 2) 2 w' (t 4) := by simpa using (hdep ⟨4, .data⟩ (by simp) rfl).2
      have d6 : t 6 = .slice aU nU cU := by simpa using (hdep ⟨6, .data⟩ (by simp) rfl).2
      clear hdep
      have hsz : w.heap.size + 2 ≤ w'.heap.size := by have := hx.lt; omega
      have bw : Below w.heap.size w w' := HBW.out.trans (hx.ax.below.mono HWB.out.p3)
      have hK' : ∀ ww v, Iow (w.heap.size + 2) ww v U → Below w'.heap.size w' ww → K _ ww := fun ww v hv hb => hK ww v (by simpa using hv) (hx.step (fun _ _ _ b h => h.below b) 7 (by decide) _ hb (fun h => absurd h (by decide))) (by rw [if_neg (by decide)]; exact hb)
      clear hK
      rw [if_pos (by rfl)]
      refine wp_appG 36 2 (.int .i64 0) 1 8 Try.infoI64 Try.underlying36 rfl (by decide) (by decide) w' (.tmp 7) (.tmp 9) rfl (w.heap.size + 2) (t 4) rfl f4 aU nU cU U d6 (by rw [HLN.out.2.1, Nat.mul_one]) (HAU.out.below bw) mU hsz ?_
      intro v' ww h1 h2
      have hK2 := hK' ww v' (by unfold Iow; rw [HLN.out.2.1]; exact h1) h2
      clear hK' h1 h2
      simpa [upd, Act.put] using hK2
    · clear hdep
      have hK' := hK w' (.pointer (some ⟨w.heap.size, 2, none⟩)) (by simp) (hx.step (fun _ _ _ b h => h.below b) 8 (by decide) _ (Below.refl _ _) (fun h => absurd h (by decide))) (by rw [if_neg (by decide)]; exact (Below.refl _ _))
      clear hK
      rw [if_pos (by rfl)]
      go_simp
      simpa [upd] using hK'
    · have d8 : t 8 = .pointer (some ⟨w.heap.size, 2, none⟩) := by simpa using (hdep ⟨8, .data⟩ (by simp) rfl).2
      clear hdep
      have cc : w'.cell? ⟨w.heap.size, 2, none⟩ = some (.int .i64 k) := by rw [World.cell?_of_block (a := ⟨w.heap.size, 2, none⟩) (w := wb) (hx.ax.below.block _ HWB.out.p1), cell_of_row wb w.heap.size 2 _ _ _ HWB.out.p2]; rfl
      have hK' := hK w' (.int .i64 k) (by simp) (hx.step (fun _ _ _ b h => h.below b) 9 (by decide) _ (Below.refl _ _) (fun h => absurd h (by decide))) (by rw [if_neg (by decide)]; exact (Below.refl _ _))
      clear hK
      rw [if_pos (by rfl)]
      go_simp
      simpa [upd, d8] using hK'
    · clear hdep
      have hsz : w.heap.size + 2 ≤ w'.heap.size := by have := hx.lt; omega
      have bb : Below w'.heap.size w' (w'.alloc (.cells #[] 126)) := (Below.refl _ _).alloc (Nat.le_refl _) _
      have hK' := hK (w'.alloc (.cells #[] 126)) (.slice (some ⟨w'.heap.size, 0, none⟩) 0 0) (by simpa using EmS.new 126 w' hsz) (hx.step (fun _ _ _ b h => h.below b) 10 (by decide) _ bb (fun h => absurd h (by decide))) (by rw [if_neg (by decide)]; exact bb)
      clear hK bb
      rw [if_pos (by rfl)]
      go_simp
      simpa [upd] using hK'
    · clear hdep
      have hK' := hK w' (.pointer (some ⟨w.heap.size, 3, none⟩)) (by simp) (hx.step (fun _ _ _ b h => h.below b) 11 (by decide) _ (Below.refl _ _) (fun h => absurd h (by decide))) (by rw [if_neg (by decide)]; exact (Below.refl _ _))
      clear hK
      rw [if_pos (by rfl)]
      go_simp
      simpa [upd] using hK'
    · have d11 : t 11 = .pointer (some ⟨w.heap.size, 3, none⟩) := by simpa using (hdep ⟨11, .data⟩ (by simp) rfl).2
      clear hdep
      have cc : w'.cell? ⟨w.heap.size, 3, none⟩ = some (.slice aT nT cT) := by rw [World.cell?_of_block (a := ⟨w.heap.size, 3, none⟩) (w := wb) (hx.ax.below.block _ HWB.out.p1), cell_of_row wb w.heap.size 3 _ _ _ HWB.out.p2]; rfl
      have hK' := hK w' (.slice aT nT cT) (by simp) (hx.step (fun _ _ _ b h => h.below b) 12 (by decide) _ (Below.refl _ _) (fun h => absurd h (by decide))) (by rw [if_neg (by decide)]; exact (Below.refl _ _))
      clear hK
      rw [if_pos (by rfl)]
      go_simp
      simpa [upd, d11] using hK'
    · have f10 : EmS (w.heap.size + 2) 126 w' (t 10) := by simpa using (hdep ⟨10, .data⟩ (by simp) rfl).2
      have d12 : t 12 = .slice aT nT cT := by simpa using (hdep ⟨12, .data⟩ (by simp) rfl).2
      clear hdep
      have hsz : w.heap.size + 2 ≤ w'.heap.size := by have := hx.lt; omega
      have bw : Below w.heap.size w w' := HBW.out.trans (hx.ax.below.mono HWB.out.p3)
      have hK' : ∀ ww v, TapO (w.heap.size + 2) ww v T nT → Below w'.heap.size w' ww → K _ ww := fun ww v hv hb => hK ww v (by simpa using hv) (hx.step (fun _ _ _ b h => h.below b) 13 (by decide) _ hb (fun h => absurd h (by decide))) (by rw [if_neg (by decide)]; exact hb)
      clear hK
      rw [if_pos (by rfl)]
      refine wp_appG 57 126 (.agg #[.int .i64 0, .int .i64 0]) 2 16 Try.infoTap Try.underlying57 rfl (by decide) (by decide) w' (.tmp 13) (.tmp 15) rfl (w.heap.size + 2) (t 10) rfl f10 aT nT cT T d12 HLN.out.2.2 (HAT.out.below bw) mT hsz ?_
      intro v' ww h1 h2
      have hK2 := hK' ww v' h1 h2
      clear hK' h1 h2
      simpa [upd, Act.put] using hK2
    · have f3 : Iow (w.heap.size + 2) w' (t 3) D := by simpa using (hdep ⟨3, .data⟩ (by simp) rfl).2
      have f7 : Iow (w.heap.size + 2) w' (t 7) U := by simpa using (hdep ⟨7, .data⟩ (by simp) rfl).2
      have d9 : t 9 = .int .i64 k := by simpa using (hdep ⟨9, .data⟩ (by simp) rfl).2
      have f13 : TapO (w.heap.size + 2) w' (t 13) T nT := by simpa using (hdep ⟨13, .data⟩ (by simp) rfl).2
      clear hdep
      obtain ⟨aD', nD', cD', d3⟩ := f3.form
      obtain ⟨aU', nU', cU', d7⟩ := f7.form
      obtain ⟨aT', cT', d13⟩ := f13.tapV.slice
      rw [d3] at f3
      rw [d7] at f7
      rw [d13] at f13
      have hK' := hK w' (.agg #[.slice aD' nD' cD', .slice aU' nU' cU', .int .i64 k, .slice aT' nT cT']) (by simpa using ⟨_, rfl, aD', nD', cD', aU', nU', cU', aT', cT', rfl, f3, f7, f13⟩) (hx.step (fun _ _ _ b h => h.below b) 14 (by decide) _ (Below.refl _ _) (fun h => absurd h (by decide))) (by rw [if_neg (by decide)]; exact (Below.refl _ _))
      clear hK f3 f7 f13
      rw [if_pos (by rfl)]
      go_simp
      simpa [upd, d3, d7, d9, d13] using hK'
    · have f14 : CpBd (w.heap.size + 2) k D U T nT w' (t 14) := by simpa using (hdep ⟨14, .data⟩ (by simp) rfl).2
      clear hdep
      obtain ⟨cs, e9, aD', nD', cD', aU', nU', cU', aT', cT', rfl, f3, f7, f13⟩ := f14
      have hrs := hx.pre hLi
      have hK' : ∀ ww, Wr (w.heap.size + 1) w' ww → ww.heap[w.heap.size + 1]? = some (.cells #[.slice aD' nD' cD', .slice aU' nU' cU', .int .i64 k, .slice aT' nT cT'] 59 (0, 0)) → K _ ww := fun ww hw hr => hK ww undef (by simp [updK]) (hx.put HWB.out.p4 (by decide) _ hw hr ⟨aD', nD', cD', aU', nU', cU', aT', cT', rfl, f3.wr hw (by omega), f7.wr hw (by omega), f13.wrk hw (by omega)⟩) (by rw [if_pos rfl]; exact hw)
      clear hK f3 f7 f13
      rw [if_pos (by rfl)]
      refine wp_store_row 59 (.tmp 2) (.tmp 17) rfl (w.heap.size + 1) _ rfl e9 59 _ hrs HSZ.out rfl (by simp [Value.oneCell']) ?_
      have hK2 := hK' _ (Wr.setRow _ _ _) (setRow_heap _ _ _ _ _ _ hrs)
      clear hK'
      simpa [upd, Act.put] using hK2
  case hdone =>
    intro L t w' hx hg
    have l15 : L 15 = true := by simpa using hg 15 (by decide)
    clear hg
    obtain ⟨cs, hr, hfin⟩ := hx.fin l15
    have HR9 : Hid (w'.heap[w.heap.size + 1]? = some (.cells cs 59 (0, 0))) := hr
    have HF : Hid (CpFin w.heap.size k D U T nT w' cs ∧ Below w.heap.size w w') := ⟨hfin.mono (by omega), HBW.out.trans (hx.ax.below.mono HWB.out.p3)⟩
    have HS4 : Hid ((Try.prog.info? 59).map (·.size) = some cs.size) := by
      obtain ⟨aD', nD', cD', aU', nU', cU', aT', cT', e, _⟩ := hfin
      rw [e]; exact HSZ.out
    clear hx hr hfin
    go_wp2_with fail
    exact bodyPost_ret (v := .agg cs) (results_cell_row rfl _ _ (w.heap.size + 1) 59 _ (0, 0) _ rfl HR9.out Try.underlying59 rfl HS4.out) rfl ⟨cs, rfl, HF.out.1, HF.out.2⟩
end Go.Proofs.Ytpbjhihpkfkobae
