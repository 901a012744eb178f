/-
  Own work: the code of a snap says the snap, the mathematics (written by wip/mkdkq.py).
-/
import Derived.Test.YtmnoelfabldpfaaMSnY
namespace Go.Proofs.Ytmnoelfabldpfaa
set_option linter.unusedVariables false

theorem getD_skip (A L : List Int) (p : Nat) (h : A.length ≤ p) : (A ++ L).getD p 0 = L.getD (p - A.length) 0 := by
  rw [List.getD_eq_getElem?_getD, List.getElem?_append_right h, ← List.getD_eq_getElem?_getD]
theorem getD_in (A L : List Int) (p : Nat) (h : p < A.length) : (A ++ L).getD p 0 = A.getD p 0 := by
  rw [List.getD_eq_getElem?_getD, List.getElem?_append_left h, ← List.getD_eq_getElem?_getD]
section
variable {a m c t b d e a' m' c' d' y s e' : List Int}
theorem SegL.gA (h : SegL a m c t b d e a' m' c' d' y s e') (j : Nat) (hj : j < 4) : (seg a m c t b d e a' m' c' d' y s e').getD (0 + j) 0 = a.getD j 0 := by
  obtain ⟨h0, h1, h2, h3, h4, h5, h6, h7, h8, h9, h10, h11, h12, h13⟩ := h
  unfold seg
  rw [getD_in _ _ _ (by omega)]
  congr 1
  omega
theorem SegL.gC (h : SegL a m c t b d e a' m' c' d' y s e') (j : Nat) (hj : j < 2) : (seg a m c t b d e a' m' c' d' y s e').getD (6 + j) 0 = c.getD j 0 := by
  obtain ⟨h0, h1, h2, h3, h4, h5, h6, h7, h8, h9, h10, h11, h12, h13⟩ := h
  unfold seg
  rw [getD_skip _ _ _ (by omega), getD_skip _ _ _ (by omega), getD_in _ _ _ (by omega)]
  congr 1
  omega
theorem SegL.gT (h : SegL a m c t b d e a' m' c' d' y s e') (j : Nat) (hj : j < 4) : (seg a m c t b d e a' m' c' d' y s e').getD (8 + j) 0 = t.getD j 0 := by
  obtain ⟨h0, h1, h2, h3, h4, h5, h6, h7, h8, h9, h10, h11, h12, h13⟩ := h
  unfold seg
  rw [getD_skip _ _ _ (by omega), getD_skip _ _ _ (by omega), getD_skip _ _ _ (by omega), getD_in _ _ _ (by omega)]
  congr 1
  omega
theorem SegL.gB (h : SegL a m c t b d e a' m' c' d' y s e') (j : Nat) (hj : j < 32) : (seg a m c t b d e a' m' c' d' y s e').getD (12 + j) 0 = b.getD j 0 := by
  obtain ⟨h0, h1, h2, h3, h4, h5, h6, h7, h8, h9, h10, h11, h12, h13⟩ := h
  unfold seg
  rw [getD_skip _ _ _ (by omega), getD_skip _ _ _ (by omega), getD_skip _ _ _ (by omega), getD_skip _ _ _ (by omega), getD_in _ _ _ (by omega)]
  congr 1
  omega
theorem SegL.gD (h : SegL a m c t b d e a' m' c' d' y s e') (j : Nat) (hj : j < 16) : (seg a m c t b d e a' m' c' d' y s e').getD (44 + j) 0 = d.getD j 0 := by
  obtain ⟨h0, h1, h2, h3, h4, h5, h6, h7, h8, h9, h10, h11, h12, h13⟩ := h
  unfold seg
  rw [getD_skip _ _ _ (by omega), getD_skip _ _ _ (by omega), getD_skip _ _ _ (by omega), getD_skip _ _ _ (by omega), getD_skip _ _ _ (by omega), getD_in _ _ _ (by omega)]
  congr 1
  omega
theorem SegL.gE (h : SegL a m c t b d e a' m' c' d' y s e') (j : Nat) (hj : j < 16) : (seg a m c t b d e a' m' c' d' y s e').getD (72 + j) 0 = d'.getD j 0 := by
  obtain ⟨h0, h1, h2, h3, h4, h5, h6, h7, h8, h9, h10, h11, h12, h13⟩ := h
  unfold seg
  rw [getD_skip _ _ _ (by omega), getD_skip _ _ _ (by omega), getD_skip _ _ _ (by omega), getD_skip _ _ _ (by omega), getD_skip _ _ _ (by omega), getD_skip _ _ _ (by omega), getD_skip _ _ _ (by omega), getD_skip _ _ _ (by omega), getD_skip _ _ _ (by omega), getD_skip _ _ _ (by omega), getD_in _ _ _ (by omega)]
  congr 1
  omega
end
theorem four_num (v : Int) (h : U32 v) : (four v).getD 0 0 + 256 * (four v).getD 1 0 + 65536 * (four v).getD 2 0 + 16777216 * (four v).getD 3 0 = v := by
  obtain ⟨h0, h1⟩ := h
  show v % 256 + 256 * (v / 256 % 256) + 65536 * (v / 65536 % 256) + 16777216 * (v / 16777216) = v
  omega
theorem flat2 (xs : List (Int × Int)) (i : Nat) (hi : i < xs.length) : ((xs.map (fun p => [p.1, p.2])).flatten).getD (2 * i) 0 = (xs.getD i (0, 0)).1 ∧ ((xs.map (fun p => [p.1, p.2])).flatten).getD (2 * i + 1) 0 = (xs.getD i (0, 0)).2 := by
  induction xs generalizing i with
  | nil => simp at hi
  | cons x xs ih =>
    cases i with
    | zero => exact ⟨rfl, rfl⟩
    | succ i =>
      have := ih i (by simpa using hi)
      simp only [List.map_cons, List.flatten_cons]
      rw [getD_skip _ _ (2 * (i + 1)) (by simp; omega), getD_skip _ _ (2 * (i + 1) + 1) (by simp; omega)]
      rw [show 2 * (i + 1) - [x.1, x.2].length = 2 * i by simp; omega, show 2 * (i + 1) + 1 - [x.1, x.2].length = 2 * i + 1 by simp; omega]
      simpa using this
theorem denL_get (D : List Int) (f k j : Nat) (hj : j < k) (h : f + j < D.length) : (denL D f k).getD (2 * j) 0 = D.getD (f + j) 0 ∧ (denL D f k).getD (2 * j + 1) 0 = 0 := by
  have e : denL D f k = (((List.range k).map (fun j => (if f + j < D.length then D.getD (f + j) 0 else 0, (0 : Int)))).map (fun p => [p.1, p.2])).flatten := by
    unfold denL
    rw [List.map_map]
    congr 1
    apply List.map_congr_left
    intro i _
    unfold den2
    simp only [Function.comp]
    split <;> rfl
  have h2 := flat2 ((List.range k).map (fun j => (if f + j < D.length then D.getD (f + j) 0 else 0, (0 : Int)))) j (by simp; exact hj)
  rw [e, h2.1, h2.2]
  simp [hj, h]
theorem dk_code {gn tl : Int} {D U : List Int} (hs : SnP gn tl D U) (ug : U32 gn) (ut : U32 tl) : dkF (snL gn tl D U) = ⟨true, gn, tl, D, U⟩ := by
  obtain ⟨s, hsg⟩ : ∃ s, snL gn tl D U = seg (four gn) [83, 49] [(D.length : Int), 0] (four tl) (bitsL U 32) (denL D 0 8) (four gn) (four gn) [83, 50] [0, 0] (denL D 8 8) (List.replicate 32 0) (four s) (four gn) := ⟨_, (seg_end gn tl D U [0, 0, 0, 0]).symm⟩
  have hL : SegL (four gn) [83, 49] [(D.length : Int), 0] (four tl) (bitsL U 32) (denL D 0 8) (four gn) (four gn) [83, 50] [0, 0] (denL D 8 8) (List.replicate 32 0) (four s) (four gn) := by constructor <;> simp [four, bitsL_len, denL_len]
  obtain ⟨zs, hzs⟩ : ∃ zs, snL gn tl D U = zs := ⟨_, rfl⟩
  rw [hzs]
  have hl : zs.length = 128 := by rw [← hzs, hsg]; exact hL.len
  have gA := fun j hj => hsg ▸ hL.gA j hj
  have gC := fun j hj => hsg ▸ hL.gC j hj
  have gT := fun j hj => hsg ▸ hL.gT j hj
  have gB := fun j hj => hsg ▸ hL.gB j hj
  have gD := fun j hj => hsg ▸ hL.gD j hj
  have gE := fun j hj => hsg ▸ hL.gE j hj
  rw [hzs] at gA gC gT gB gD gE
  have n0 : num4 zs 0 = gn := by
    have := four_num gn ug
    unfold num4
    rw [← gA 0 (by decide), ← gA 1 (by decide), ← gA 2 (by decide), ← gA 3 (by decide)] at this
    exact this
  have n8 : num4 zs 8 = tl := by
    have := four_num tl ut
    unfold num4
    rw [← gT 0 (by decide), ← gT 1 (by decide), ← gT 2 (by decide), ← gT 3 (by decide)] at this
    exact this
  have n6 : zs.getD 6 0 = D.length := gC 0 (by decide)
  have hD16 := hs.2.2.2.2.1
  have hn : dkN zs = D.length := by unfold dkN; rw [n6]; omega
  have hD : dkD zs (dkN zs) = D := by
    rw [hn]
    apply List.ext_getElem
    · exact dkD_len _ _
    · intro i h1 h2
      simp only [dkD, List.getElem_map, List.getElem_range]
      unfold dkS dkA
      by_cases h8 : i < 8
      · have hg := denL_get D 0 8 i h8 (by omega)
        rw [if_pos h8, gD (2 * i) (by omega), Nat.add_assoc, gD (2 * i + 1) (by omega), hg.1, hg.2, Nat.zero_add]
        simp [List.getD, h2]
      · have hg := denL_get D 8 8 (i - 8) (by omega) (by omega)
        rw [if_neg h8, show 56 + 2 * i = 72 + 2 * (i - 8) by omega, gE (2 * (i - 8)) (by omega), Nat.add_assoc, gE (2 * (i - 8) + 1) (by omega), hg.1, hg.2, show 8 + (i - 8) = i by omega]
        simp [List.getD, h2]
  have hU : dkU zs = U := by
    refine hs.2.2.2.2.2.eq_upTo _ (fun v hv => ?_)
    unfold dkP
    rw [gB (v / 8) (by omega)]
    have hb : (bitsL U 32).getD (v / 8) 0 = bv U (v / 8) 8 := by unfold bitsL; simp [List.getD, show v / 8 < 32 by omega]
    rw [hb]
    have := bv_bit U (v / 8) 8 (v % 8) (by omega) (by decide)
    rw [show (8 * ((v / 8 : Nat) : Int) + (7 - ((8 - 1 - v % 8 : Nat) : Int))) = (v : Int) by omega] at this
    simpa using this
  have hE : dkE zs = zs := by
    unfold dkE
    rw [n0, n8, hD, hU]
    unfold snE; rw [snB_yes hs]; exact hzs
  rw [dkF_yes hl (by rw [n6]; omega) hE]
  unfold dkYes
  rw [n0, n8, hD, hU]
theorem dk_nil : dkF [] = dkNo := dkF_len (by decide)
end Go.Proofs.Ytmnoelfabldpfaa
