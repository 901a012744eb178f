/-
  Own work: the 128 bytes of a slot in their segments, and what the writes of (*Snap).encoded make of them.
-/
import Derived.Test.YtmnoelfabldpfaaSnV
namespace Go.Proofs.Ytmnoelfabldpfaa
open Go.ChangeShapes Go.WideShapes Go.ChangeAt Go.RowKit
set_option linter.unusedVariables false

theorem putK_app (A L : List Int) (p : Nat) (v : Int) (k : Nat) (h : A.length ≤ p) : putK (A ++ L) p v k = A ++ putK L (p - A.length) v k := by
  induction k with
  | zero => rfl
  | succ k ih =>
    show (putK (A ++ L) p v k).set (p + k) _ = A ++ (putK L (p - A.length) v k).set (p - A.length + k) _
    rw [ih, List.set_append_right (p + k) _ (by omega), show p + k - A.length = p - A.length + k by omega]
theorem putK_here (X L : List Int) (v : Int) (hX : X.length = 4) (hv : U32 v) : putK (X ++ L) 0 v 4 = four v ++ L := by
  match X, hX with
  | [a, b, c, d], _ =>
    obtain ⟨h0, h1⟩ := hv
    simp [putK, four]
    omega
/-- A slot in its segments. -/
def seg (a m c t b d e a' m' c' d' y s e' : List Int) : List Int := a ++ (m ++ (c ++ (t ++ (b ++ (d ++ (e ++ (a' ++ (m' ++ (c' ++ (d' ++ (y ++ (s ++ e'))))))))))))
structure SegL (a m c t b d e a' m' c' d' y s e' : List Int) : Prop where
  la : a.length = 4
  lm : m.length = 2
  lc : c.length = 2
  lt : t.length = 4
  lb : b.length = 32
  ld : d.length = 16
  le : e.length = 4
  la' : a'.length = 4
  lm' : m'.length = 2
  lc' : c'.length = 2
  ld' : d'.length = 16
  ly : y.length = 32
  ls : s.length = 4
  le' : e'.length = 4
section
variable {a m c t b d e a' m' c' d' y s e' : List Int}
theorem SegL.len (h : SegL a m c t b d e a' m' c' d' y s e') : (seg a m c t b d e a' m' c' d' y s e').length = 128 := by
  obtain ⟨h1, h2, h3, h4, h5, h6, h7, h8, h9, h10, h11, h12, h13, h14⟩ := h
  simp [seg, h1, h2, h3, h4, h5, h6, h7, h8, h9, h10, h11, h12, h13, h14]
theorem seg_zero : (List.replicate 128 0 : List Int) = seg (List.replicate 4 0) [0, 0] [0, 0] (List.replicate 4 0) (List.replicate 32 0) (List.replicate 16 0) (List.replicate 4 0) (List.replicate 4 0) [0, 0] [0, 0] (List.replicate 16 0) (List.replicate 32 0) (List.replicate 4 0) (List.replicate 4 0) := by rfl
theorem segL_zero : SegL (List.replicate 4 0) [0, 0] [0, 0] (List.replicate 4 0) (List.replicate 32 0) (List.replicate 16 0) (List.replicate 4 0) (List.replicate 4 0) [0, 0] [0, 0] (List.replicate 16 0) (List.replicate 32 0) (List.replicate 4 0) (List.replicate 4 0) := by
  constructor <;> simp
theorem four_len (v : Int) : (four v).length = 4 := rfl
theorem SegL.put0 (h : SegL a m c t b d e a' m' c' d' y s e') (v : Int) (hv : U32 v) : putK (seg a m c t b d e a' m' c' d' y s e') 0 v 4 = seg (four v) m c t b d e a' m' c' d' y s e' ∧ SegL (four v) m c t b d e a' m' c' d' y s e' := by
  obtain ⟨h1, h2, h3, h4, h5, h6, h7, h8, h9, h10, h11, h12, h13, h14⟩ := h
  refine ⟨?_, ⟨four_len v, h2, h3, h4, h5, h6, h7, h8, h9, h10, h11, h12, h13, h14⟩⟩
  unfold seg
  rw [putK_here _ _ _ h1 hv]
theorem SegL.put8 (h : SegL a m c t b d e a' m' c' d' y s e') (v : Int) (hv : U32 v) : putK (seg a m c t b d e a' m' c' d' y s e') 8 v 4 = seg a m c (four v) b d e a' m' c' d' y s e' ∧ SegL a m c (four v) b d e a' m' c' d' y s e' := by
  obtain ⟨h1, h2, h3, h4, h5, h6, h7, h8, h9, h10, h11, h12, h13, h14⟩ := h
  refine ⟨?_, ⟨h1, h2, h3, four_len v, h5, h6, h7, h8, h9, h10, h11, h12, h13, h14⟩⟩
  unfold seg
  rw [putK_app a _ _ _ _ (by omega), h1, putK_app m _ _ _ _ (by omega), h2, putK_app c _ _ _ _ (by omega), h3, putK_here _ _ _ h4 hv]
theorem SegL.put60 (h : SegL a m c t b d e a' m' c' d' y s e') (v : Int) (hv : U32 v) : putK (seg a m c t b d e a' m' c' d' y s e') 60 v 4 = seg a m c t b d (four v) a' m' c' d' y s e' ∧ SegL a m c t b d (four v) a' m' c' d' y s e' := by
  obtain ⟨h1, h2, h3, h4, h5, h6, h7, h8, h9, h10, h11, h12, h13, h14⟩ := h
  refine ⟨?_, ⟨h1, h2, h3, h4, h5, h6, four_len v, h8, h9, h10, h11, h12, h13, h14⟩⟩
  unfold seg
  rw [putK_app a _ _ _ _ (by omega), h1, putK_app m _ _ _ _ (by omega), h2, putK_app c _ _ _ _ (by omega), h3, putK_app t _ _ _ _ (by omega), h4, putK_app b _ _ _ _ (by omega), h5, putK_app d _ _ _ _ (by omega), h6, putK_here _ _ _ h7 hv]
theorem SegL.put64 (h : SegL a m c t b d e a' m' c' d' y s e') (v : Int) (hv : U32 v) : putK (seg a m c t b d e a' m' c' d' y s e') 64 v 4 = seg a m c t b d e (four v) m' c' d' y s e' ∧ SegL a m c t b d e (four v) m' c' d' y s e' := by
  obtain ⟨h1, h2, h3, h4, h5, h6, h7, h8, h9, h10, h11, h12, h13, h14⟩ := h
  refine ⟨?_, ⟨h1, h2, h3, h4, h5, h6, h7, four_len v, h9, h10, h11, h12, h13, h14⟩⟩
  unfold seg
  rw [putK_app a _ _ _ _ (by omega), h1, putK_app m _ _ _ _ (by omega), h2, putK_app c _ _ _ _ (by omega), h3, putK_app t _ _ _ _ (by omega), h4, putK_app b _ _ _ _ (by omega), h5, putK_app d _ _ _ _ (by omega), h6, putK_app e _ _ _ _ (by omega), h7, putK_here _ _ _ h8 hv]
theorem SegL.put120 (h : SegL a m c t b d e a' m' c' d' y s e') (v : Int) (hv : U32 v) : putK (seg a m c t b d e a' m' c' d' y s e') 120 v 4 = seg a m c t b d e a' m' c' d' y (four v) e' ∧ SegL a m c t b d e a' m' c' d' y (four v) e' := by
  obtain ⟨h1, h2, h3, h4, h5, h6, h7, h8, h9, h10, h11, h12, h13, h14⟩ := h
  refine ⟨?_, ⟨h1, h2, h3, h4, h5, h6, h7, h8, h9, h10, h11, h12, four_len v, h14⟩⟩
  unfold seg
  rw [putK_app a _ _ _ _ (by omega), h1, putK_app m _ _ _ _ (by omega), h2, putK_app c _ _ _ _ (by omega), h3, putK_app t _ _ _ _ (by omega), h4, putK_app b _ _ _ _ (by omega), h5, putK_app d _ _ _ _ (by omega), h6, putK_app e _ _ _ _ (by omega), h7, putK_app a' _ _ _ _ (by omega), h8, putK_app m' _ _ _ _ (by omega), h9, putK_app c' _ _ _ _ (by omega), h10, putK_app d' _ _ _ _ (by omega), h11, putK_app y _ _ _ _ (by omega), h12, putK_here _ _ _ h13 hv]
theorem SegL.put124 (h : SegL a m c t b d e a' m' c' d' y s e') (v : Int) (hv : U32 v) : putK (seg a m c t b d e a' m' c' d' y s e') 124 v 4 = seg a m c t b d e a' m' c' d' y s (four v) ∧ SegL a m c t b d e a' m' c' d' y s (four v) := by
  obtain ⟨h1, h2, h3, h4, h5, h6, h7, h8, h9, h10, h11, h12, h13, h14⟩ := h
  refine ⟨?_, ⟨h1, h2, h3, h4, h5, h6, h7, h8, h9, h10, h11, h12, h13, four_len v⟩⟩
  unfold seg
  have := putK_here e' [] v h14 hv
  rw [List.append_nil, List.append_nil] at this
  rw [putK_app a _ _ _ _ (by omega), h1, putK_app m _ _ _ _ (by omega), h2, putK_app c _ _ _ _ (by omega), h3, putK_app t _ _ _ _ (by omega), h4, putK_app b _ _ _ _ (by omega), h5, putK_app d _ _ _ _ (by omega), h6, putK_app e _ _ _ _ (by omega), h7, putK_app a' _ _ _ _ (by omega), h8, putK_app m' _ _ _ _ (by omega), h9, putK_app c' _ _ _ _ (by omega), h10, putK_app d' _ _ _ _ (by omega), h11, putK_app y _ _ _ _ (by omega), h12, putK_app s _ _ _ _ (by omega), h13, this]
theorem set_skip (A L : List Int) (p : Nat) (x : Int) (h : A.length ≤ p) : (A ++ L).set p x = A ++ L.set (p - A.length) x := List.set_append_right p x h
theorem set_in (A L : List Int) (p : Nat) (x : Int) (h : p < A.length) : (A ++ L).set p x = A.set p x ++ L := List.set_append_left p x h
theorem SegL.setM (h : SegL a m c t b d e a' m' c' d' y s e') (j : Nat) (hj : j < 2) (x : Int) : (seg a m c t b d e a' m' c' d' y s e').set (4 + j) x = seg a (m.set j x) c t b d e a' m' c' d' y s e' ∧ SegL a (m.set j x) c t b d e a' m' c' d' y s e' := by
  obtain ⟨h1, h2, h3, h4, h5, h6, h7, h8, h9, h10, h11, h12, h13, h14⟩ := h
  refine ⟨?_, ⟨h1, by simpa using h2, h3, h4, h5, h6, h7, h8, h9, h10, h11, h12, h13, h14⟩⟩
  unfold seg
  rw [set_skip a _ _ _ (by omega), h1, show 4 + j - 4 = j by omega, set_in _ _ _ _ (by omega)]
theorem SegL.setC (h : SegL a m c t b d e a' m' c' d' y s e') (j : Nat) (hj : j < 2) (x : Int) : (seg a m c t b d e a' m' c' d' y s e').set (6 + j) x = seg a m (c.set j x) t b d e a' m' c' d' y s e' ∧ SegL a m (c.set j x) t b d e a' m' c' d' y s e' := by
  obtain ⟨h1, h2, h3, h4, h5, h6, h7, h8, h9, h10, h11, h12, h13, h14⟩ := h
  refine ⟨?_, ⟨h1, h2, by simpa using h3, h4, h5, h6, h7, h8, h9, h10, h11, h12, h13, h14⟩⟩
  unfold seg
  rw [set_skip a _ _ _ (by omega), h1, set_skip m _ _ _ (by omega), h2, show 6 + j - 4 - 2 = j by omega, set_in _ _ _ _ (by omega)]
theorem SegL.setD (h : SegL a m c t b d e a' m' c' d' y s e') (j : Nat) (hj : j < 16) (x : Int) : (seg a m c t b d e a' m' c' d' y s e').set (44 + j) x = seg a m c t b (d.set j x) e a' m' c' d' y s e' ∧ SegL a m c t b (d.set j x) e a' m' c' d' y s e' := by
  obtain ⟨h1, h2, h3, h4, h5, h6, h7, h8, h9, h10, h11, h12, h13, h14⟩ := h
  refine ⟨?_, ⟨h1, h2, h3, h4, h5, by simpa using h6, h7, h8, h9, h10, h11, h12, h13, h14⟩⟩
  unfold seg
  rw [set_skip a _ _ _ (by omega), h1, set_skip m _ _ _ (by omega), h2, set_skip c _ _ _ (by omega), h3, set_skip t _ _ _ (by omega), h4, set_skip b _ _ _ (by omega), h5, show 44 + j - 4 - 2 - 2 - 4 - 32 = j by omega, set_in _ _ _ _ (by omega)]
theorem SegL.setM' (h : SegL a m c t b d e a' m' c' d' y s e') (j : Nat) (hj : j < 2) (x : Int) : (seg a m c t b d e a' m' c' d' y s e').set (68 + j) x = seg a m c t b d e a' (m'.set j x) c' d' y s e' ∧ SegL a m c t b d e a' (m'.set j x) c' d' y s e' := by
  obtain ⟨h1, h2, h3, h4, h5, h6, h7, h8, h9, h10, h11, h12, h13, h14⟩ := h
  refine ⟨?_, ⟨h1, h2, h3, h4, h5, h6, h7, h8, by simpa using h9, h10, h11, h12, h13, h14⟩⟩
  unfold seg
  rw [set_skip a _ _ _ (by omega), h1, set_skip m _ _ _ (by omega), h2, set_skip c _ _ _ (by omega), h3, set_skip t _ _ _ (by omega), h4, set_skip b _ _ _ (by omega), h5, set_skip d _ _ _ (by omega), h6, set_skip e _ _ _ (by omega), h7, set_skip a' _ _ _ (by omega), h8, show 68 + j - 4 - 2 - 2 - 4 - 32 - 16 - 4 - 4 = j by omega, set_in _ _ _ _ (by omega)]
theorem SegL.setD' (h : SegL a m c t b d e a' m' c' d' y s e') (j : Nat) (hj : j < 16) (x : Int) : (seg a m c t b d e a' m' c' d' y s e').set (72 + j) x = seg a m c t b d e a' m' c' (d'.set j x) y s e' ∧ SegL a m c t b d e a' m' c' (d'.set j x) y s e' := by
  obtain ⟨h1, h2, h3, h4, h5, h6, h7, h8, h9, h10, h11, h12, h13, h14⟩ := h
  refine ⟨?_, ⟨h1, h2, h3, h4, h5, h6, h7, h8, h9, h10, by simpa using h11, h12, h13, h14⟩⟩
  unfold seg
  rw [set_skip a _ _ _ (by omega), h1, set_skip m _ _ _ (by omega), h2, set_skip c _ _ _ (by omega), h3, set_skip t _ _ _ (by omega), h4, set_skip b _ _ _ (by omega), h5, set_skip d _ _ _ (by omega), h6, set_skip e _ _ _ (by omega), h7, set_skip a' _ _ _ (by omega), h8, set_skip m' _ _ _ (by omega), h9, set_skip c' _ _ _ (by omega), h10, show 72 + j - 4 - 2 - 2 - 4 - 32 - 16 - 4 - 4 - 2 - 2 = j by omega, set_in _ _ _ _ (by omega)]
/-- the set of used serials put in its place. -/
theorem SegL.putB (h : SegL a m c t b d e a' m' c' d' y s e') (bs : List Int) (hb : bs.length = 32) : (seg a m c t b d e a' m' c' d' y s e').take 12 ++ (bs ++ (seg a m c t b d e a' m' c' d' y s e').drop 44) = seg a m c t bs d e a' m' c' d' y s e' ∧ SegL a m c t bs d e a' m' c' d' y s e' := by
  obtain ⟨h1, h2, h3, h4, h5, h6, h7, h8, h9, h10, h11, h12, h13, h14⟩ := h
  refine ⟨?_, ⟨h1, h2, h3, h4, hb, h6, h7, h8, h9, h10, h11, h12, h13, h14⟩⟩
  unfold seg
  simp [List.take_append, List.drop_append, h1, h2, h3, h4, h5]
  rw [List.take_of_length_le (by omega : a.length ≤ 12), List.take_of_length_le (by omega : m.length ≤ 8), List.take_of_length_le (by omega : c.length ≤ 6), List.drop_eq_nil_of_le (by omega : a.length ≤ 44), List.drop_eq_nil_of_le (by omega : m.length ≤ 40), List.drop_eq_nil_of_le (by omega : c.length ≤ 38), List.drop_eq_nil_of_le (by omega : t.length ≤ 36)]
  simp
end
/-- a denied serial put in its place. -/
theorem den_put (D : List Int) (f i : Nat) (hi : i < D.length) (hf : f ≤ i) (hf8 : i < f + 8) (hd : D.getD i 0 % 256 = D.getD i 0 ∧ D.getD i 0 / 256 % 256 = 0) :
    ((denL (D.take i) f 8).set (2 * (i - f)) (D.getD i 0 % 256)).set (2 * (i - f) + 1) (D.getD i 0 / 256 % 256) = denL (D.take (i + 1)) f 8 := by
  rw [hd.1, hd.2]
  obtain ⟨j, rfl⟩ : ∃ j, i = f + j := ⟨i - f, by omega⟩
  have hg : ∀ q, q ≤ j → j < q + 8 → True := fun _ _ _ => trivial
  have hj : j < 8 := by omega
  have hx : ∀ q, den2 (D.take (f + j + 1)) (f + q) = if q = j then [D.getD (f + j) 0, 0] else den2 (D.take (f + j)) (f + q) := by
    intro q
    unfold den2
    by_cases hq : q = j
    · subst hq
      have : f + q < (D.take (f + q + 1)).length := by simp; omega
      simp only [this, if_true]
      simp [List.getD]
    · simp only [hq, if_false, List.length_take]
      by_cases h1 : f + q < min (f + j) D.length
      · have h2 : f + q < min (f + j + 1) D.length := by omega
        simp only [h1, h2, if_true]
        simp [List.getD, show f + q < f + j by omega, show f + q < f + j + 1 by omega]
      · have h2 : ¬ f + q < min (f + j + 1) D.length := by omega
        simp only [h1, h2, if_false]
  have ho : den2 (D.take (f + j)) (f + j) = [0, 0] := by unfold den2; rw [if_neg (by simp; omega)]
  have hE : denL (D.take (f + j + 1)) f 8 = ((List.range 8).map (fun q => if q = j then [D.getD (f + j) 0, 0] else den2 (D.take (f + j)) (f + q))).flatten := by
    unfold denL; congr 1; exact List.map_congr_left fun q _ => hx q
  rw [hE, show f + j - f = j by omega]
  unfold denL
  have l2 : ∀ q, ∃ x y, den2 (D.take (f + j)) (f + q) = [x, y] := fun q => by unfold den2; split <;> exact ⟨_, _, rfl⟩
  obtain ⟨x0, y0, e0⟩ := l2 0; obtain ⟨x1, y1, e1⟩ := l2 1; obtain ⟨x2, y2, e2⟩ := l2 2; obtain ⟨x3, y3, e3⟩ := l2 3
  obtain ⟨x4, y4, e4⟩ := l2 4; obtain ⟨x5, y5, e5⟩ := l2 5; obtain ⟨x6, y6, e6⟩ := l2 6; obtain ⟨x7, y7, e7⟩ := l2 7
  simp only [show List.range 8 = [0, 1, 2, 3, 4, 5, 6, 7] from rfl, List.map_cons, List.map_nil, e0, e1, e2, e3, e4, e5, e6, e7]
  obtain rfl | rfl | rfl | rfl | rfl | rfl | rfl | rfl : j = 0 ∨ j = 1 ∨ j = 2 ∨ j = 3 ∨ j = 4 ∨ j = 5 ∨ j = 6 ∨ j = 7 := by omega
  all_goals simp
/-- what is written at the end is the code. -/
theorem seg_end (gn tl : Int) (D U : List Int) (s : List Int) :
    (seg (four gn) [83, 49] [(D.length : Int), 0] (four tl) (bitsL U 32) (denL D 0 8) (four gn) (four gn) [83, 50] [0, 0] (denL D 8 8) (List.replicate 32 0) (four (crc ((seg (four gn) [83, 49] [(D.length : Int), 0] (four tl) (bitsL U 32) (denL D 0 8) (four gn) (four gn) [83, 50] [0, 0] (denL D 8 8) (List.replicate 32 0) s (four gn)).take 120))) (four gn)) = snL gn tl D U := by
  have hb : (seg (four gn) [83, 49] [(D.length : Int), 0] (four tl) (bitsL U 32) (denL D 0 8) (four gn) (four gn) [83, 50] [0, 0] (denL D 8 8) (List.replicate 32 0) s (four gn)).take 120 = ([([four gn, [83, 49], [(D.length : Int), 0], four tl, bitsL U 32, denL D 0 8, four gn]).flatten, ([four gn, [83, 50], [0, 0], denL D 8 8, List.replicate 32 0] : List (List Int)).flatten] : List (List Int)).flatten := by
    have hl := BODY_len (gn := gn) (tl := tl) (D := D) (U := U) (nD := D.length)
    rw [← hl]
    refine Eq.trans (congrArg (List.take _) (a₂ := (([([four gn, [83, 49], [(D.length : Int), 0], four tl, bitsL U 32, denL D 0 8, four gn]).flatten, ([four gn, [83, 50], [0, 0], denL D 8 8, List.replicate 32 0] : List (List Int)).flatten] : List (List Int)).flatten ++ (s ++ four gn))) ?_) (List.take_left ..)
    unfold seg
    simp only [List.flatten_cons, List.flatten_nil, List.append_nil, List.append_assoc]
  rw [hb]
  unfold snL seg
  simp only [List.flatten_cons, List.flatten_nil, List.append_nil, List.append_assoc]
end Go.Proofs.Ytmnoelfabldpfaa
