/-
  Own work: the code of a snap that is not valid, by the model; the two cases together.
-/
import Derived.Test.YtmnoelfabldpfaaSnU
namespace Go.Proofs.Ytmnoelfabldpfaa
open Go.ChangeShapes Go.WideShapes Go.ChangeAt Go.RowKit
set_option linter.unusedVariables false

theorem sesn_no (gn tl : Int) (aD aU : Option Addr) (nD cD nU cU : Nat) (D U : List Int) (w : World) (hD : D.length = nD) (hU : U.length = nU) (mD : nD ≤ 1048576) (mU : nU ≤ 1048576) (haD : At .i64 w aD D) (haU : At .i64 w aU U) (hs : snB gn tl D U = false) :
    Calls Try.prog 14 #[.agg #[.int .u32 gn, .int .u32 tl, .slice aD nD cD, .slice aU nU cU]] w fun e w' => ∃ v, e = .returned v ∧ Own w' w.heap.size v [] ∧ Below w.heap.size w w' := by
  have b0 : Below w.heap.size w (w.alloc (.cells #[.int .u32 gn, .int .u32 tl, .slice aD nD cD, .slice aU nU cU] 26)) := (Below.refl _ _).alloc (Nat.le_refl _) _
  have HC := gsn_any gn tl aD aU nD cD nU cU D U (w.alloc (.cells #[.int .u32 gn, .int .u32 tl, .slice aD nD cD, .slice aU nU cU] 26)) hD hU mD mU (haD.below b0) (haU.below b0)
  rw [hs] at HC
  have HB := hid_of b0
  clear haD haU hD hU b0 hs
  go_enter Try.func14, Try.ntmps14
  go_wp2_with fail
  refine HC.mono ?_
  rintro e w1 ⟨rfl, hb1⟩
  have HB1 := hid_of (HB.out.trans (hb1.mono HB.out.size))
  clear HC hb1 HB
  go_wp2
  go_ret
  exact ⟨_, rfl, Own.empty _ _ HB1.out.size, HB1.out.alloc HB1.out.size _⟩

/-- what the code of a snap is. -/
noncomputable def snE (gn tl : Int) (D U : List Int) : List Int := bif snB gn tl D U then snL gn tl D U else []

theorem ses_any (gn tl : Int) (aD aU : Option Addr) (nD cD nU cU : Nat) (D U : List Int) (w : World) (hD : D.length = nD) (hU : U.length = nU) (mD : nD ≤ 1048576) (mU : nU ≤ 1048576) (haD : At .i64 w aD D) (haU : At .i64 w aU U) (ug : U32 gn) (ut : U32 tl) :
    Calls Try.prog 14 #[.agg #[.int .u32 gn, .int .u32 tl, .slice aD nD cD, .slice aU nU cU]] w fun e w' => ∃ v, e = .returned v ∧ Own w' w.heap.size v (snE gn tl D U) ∧ Below w.heap.size w w' := by
  by_cases hs : SnP gn tl D U
  · have := sesn_any gn tl aD aU nD cD nU cU D U w hD hU mD mU haD haU ug ut hs
    unfold snE; rw [snB_yes hs]; exact this
  · have hf : snB gn tl D U = false := by unfold snB; simp [hs]
    have := sesn_no gn tl aD aU nD cD nU cU D U w hD hU mD mU haD haU hf
    unfold snE; rw [hf]; exact this

/-- bits make a number. -/
theorem bitsn (n : Nat) (x y : Int) (hx : 0 ≤ x ∧ x < 2 ^ n) (hy : 0 ≤ y ∧ y < 2 ^ n) (h : ∀ j : Nat, j < n → (x / 2 ^ j % 2 = 1 ↔ y / 2 ^ j % 2 = 1)) : x = y := by
  induction n generalizing x y with
  | zero => simp at hx hy; omega
  | succ n ih =>
    have h0 := h 0 (by omega)
    simp at h0
    rw [Int.pow_succ] at hx hy
    have he := ih (x / 2) (y / 2) (by omega) (by omega) fun j hj => by
      have := h (j + 1) (by omega)
      rwa [Int.pow_succ, Int.mul_comm (2 ^ j) 2, ← Int.ediv_ediv_of_nonneg (by decide), ← Int.ediv_ediv_of_nonneg (by decide)] at this
    omega
theorem memB_mem (v : Int) (xs : List Int) : memB v xs = true ↔ v ∈ xs := by unfold memB; simp
theorem bv_bit (xs : List Int) (k n j : Nat) (hj : j < n) (hn : n ≤ 8) : bv xs k n / 2 ^ j % 2 = 1 ↔ (8 * (k : Int) + (7 - ((n - 1 - j : Nat) : Int))) ∈ xs := by
  induction n generalizing j with
  | zero => omega
  | succ n ih =>
    unfold bv
    cases j with
    | zero =>
      rw [show n + 1 - 1 - 0 = n by omega, ← memB_mem]
      by_cases h : memB (8 * (k : Int) + (7 - (n : Int))) xs = true
      · simp only [h, if_true]; constructor
        · intro _; trivial
        · intro _; omega
      · simp only [h]; constructor
        · intro h'; exfalso; simp at h'
        · intro h'; simp at h'
    | succ j =>
      rw [show n + 1 - 1 - (j + 1) = n - 1 - j by omega, ← ih j (by omega) (by omega)]
      have hd : (2 * bv xs k n + (if memB (8 * (k : Int) + (7 - (n : Int))) xs = true then 1 else 0)) / 2 ^ (j + 1) = bv xs k n / 2 ^ j := by
        rw [Int.pow_succ, Int.mul_comm (2 ^ j) 2, ← Int.ediv_ediv_of_nonneg (by decide)]
        congr 1
        split <;> omega
      rw [hd]
theorem set_bits (bs xs : List Int) (h : SetB bs (fun v => (v : Int) ∈ xs)) : bs = bitsL xs 32 := by
  obtain ⟨hl, hb, hv⟩ := h
  refine List.ext_getElem (by rw [hl, bitsL_len]) fun i h1 h2 => ?_
  have hi : i < 32 := by omega
  have e1 : (bitsL xs 32)[i] = bv xs i 8 := by simp [bitsL]
  refine Eq.trans ?_ e1.symm
  refine bitsn 8 _ _ (hb _ (List.getElem_mem h1)) (bv_bd xs i 8) fun j hj => ?_
  have := hv (8 * i + j) (by omega)
  rw [show (8 * i + j) / 8 = i by omega, show (8 * i + j) % 8 = j by omega, show bs.getD i 0 = bs[i] by simp [List.getD, h1]] at this
  rw [this, bv_bit xs i 8 j hj (Nat.le_refl _)]
  show ((8 * i + j : Nat) : Int) ∈ xs ↔ _
  rw [show ((8 * i + j : Nat) : Int) = 8 * (i : Int) + (7 - ((8 - 1 - j : Nat) : Int)) by omega]
end Go.Proofs.Ytmnoelfabldpfaa
