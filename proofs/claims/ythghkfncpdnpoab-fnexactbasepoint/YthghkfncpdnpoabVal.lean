/-
  Own work: numbers as lists of digits.
-/
import Derived.Test.YthghkfncpdnpoabRows
namespace Go.Proofs.Ythghkfncpdnpoab
set_option linter.unusedVariables false

def val (B : Int) : List Int → Int
  | [] => 0
  | z :: zs => z + B * val B zs
def Dig (B : Int) (zs : List Int) : Prop := ∀ z ∈ zs, 0 ≤ z ∧ z < B

theorem val_append (B : Int) (xs ys : List Int) : val B (xs ++ ys) = val B xs + B ^ xs.length * val B ys := by
  induction xs with
  | nil => simp [val]
  | cons x xs ih => simp only [List.cons_append, val, List.length_cons, ih, Int.pow_succ]; grind
theorem val_snoc (B : Int) (xs : List Int) (x : Int) : val B (xs ++ [x]) = val B xs + x * B ^ xs.length := by
  rw [val_append]; simp only [val]; grind
theorem Dig.snoc {B : Int} {xs : List Int} {x : Int} (h : Dig B xs) (h0 : 0 ≤ x) (h1 : x < B) : Dig B (xs ++ [x]) := by
  intro z hz; simp at hz; rcases hz with h' | rfl
  · exact h z h'
  · exact ⟨h0, h1⟩
theorem Dig.nil (B : Int) : Dig B [] := fun _ h => by simp at h
theorem Dig.tail {B : Int} {x : Int} {xs : List Int} (h : Dig B (x :: xs)) : Dig B xs := fun z hz => h z (by simp [hz])
theorem Dig.head {B : Int} {x : Int} {xs : List Int} (h : Dig B (x :: xs)) : 0 ≤ x ∧ x < B := h x (by simp)
theorem val_nonneg {B : Int} (hB : 0 < B) {xs : List Int} (h : Dig B xs) : 0 ≤ val B xs := by
  induction xs with
  | nil => simp [val]
  | cons x xs ih =>
    have := h.head; have i := ih h.tail
    have := Int.mul_nonneg (Int.le_of_lt hB) i
    simp only [val]; omega
theorem val_lt {B : Int} (hB : 0 < B) {xs : List Int} (h : Dig B xs) : val B xs < B ^ xs.length := by
  induction xs with
  | nil => simp [val]
  | cons x xs ih =>
    obtain ⟨h0, h1⟩ := h.head; have i := ih h.tail
    have h2 : B * (val B xs + 1) ≤ B * B ^ xs.length := Int.mul_le_mul_of_nonneg_left (by omega) (by omega)
    simp only [val, List.length_cons, Int.pow_succ]
    grind
theorem val_inj {B : Int} (hB : 0 < B) {xs ys : List Int} (hx : Dig B xs) (hy : Dig B ys) (hl : xs.length = ys.length) (h : val B xs = val B ys) : xs = ys := by
  induction xs generalizing ys with
  | nil => cases ys with
    | nil => rfl
    | cons y ys => simp at hl
  | cons x xs ih => cases ys with
    | nil => simp at hl
    | cons y ys =>
      obtain ⟨h0, h1⟩ := hx.head; obtain ⟨h2, h3⟩ := hy.head
      simp only [val] at h
      have e : x = y := by
        have a1 : (x + B * val B xs) % B = x := by rw [Int.add_mul_emod_self_left]; exact Int.emod_eq_of_lt h0 h1
        have a2 : (y + B * val B ys) % B = y := by rw [Int.add_mul_emod_self_left]; exact Int.emod_eq_of_lt h2 h3
        rw [← a1, h, a2]
      subst e
      have e2 : val B xs = val B ys := by
        have : B * val B xs = B * val B ys := by omega
        exact Int.eq_of_mul_eq_mul_left (by omega) this
      rw [ih hx.tail hy.tail (by simpa using hl) e2]
theorem val_take (B : Int) (xs : List Int) (k : Nat) (h : k < xs.length) : val B (xs.take (k+1)) = val B (xs.take k) + xs.getD k 0 * B ^ k := by
  have : xs.take (k + 1) = xs.take k ++ [xs.getD k 0] := by
    rw [List.take_succ_eq_append_getElem h, List.getD_eq_getElem?_getD, List.getElem?_eq_getElem h]; rfl
  rw [this, val_snoc, List.length_take, Nat.min_eq_left (by omega)]
/-- One digit with what is carried. -/
theorem val_carry (B P x s t c r : Int) (h : s + c * P = t) (hr : r = x * P) : (s + (x + c) % B * P) + (x + c) / B * (P * B) = t + r := by
  have e : (x + c) % B + B * ((x + c) / B) = x + c := Int.emod_add_mul_ediv _ _
  have e2 : ((x + c) % B + B * ((x + c) / B)) * P = (x + c) * P := by rw [e]
  grind
theorem val_digit {B : Int} (hB : 0 < B) {ns : List Int} (h : Dig B ns) (q : Nat) : val B ns / B ^ q % B = ns.getD q 0 := by
  induction ns generalizing q with
  | nil => simp [val]
  | cons n ns ih =>
    obtain ⟨h0, h1⟩ := h.head
    cases q with
    | zero =>
      simp only [val, Int.pow_zero, Int.ediv_one, List.getD_cons_zero]
      rw [Int.add_mul_emod_self_left]; exact Int.emod_eq_of_lt h0 h1
    | succ q =>
      have e : (n + B * val B ns) / B = val B ns := by
        rw [Int.add_mul_ediv_left _ _ (by omega), Int.ediv_eq_zero_of_lt h0 h1]; omega
      rw [List.getD_cons_succ, ← ih h.tail q]
      simp only [val]
      rw [Int.pow_succ, Int.mul_comm (B ^ q) B, ← Int.ediv_ediv_of_nonneg (by omega), e]
theorem val_set (B : Int) (ns : List Int) (q : Nat) (x : Int) (hq : q < ns.length) : val B (ns.set q x) = val B ns + (x - ns.getD q 0) * B ^ q := by
  induction ns generalizing q with
  | nil => simp at hq
  | cons n ns ih =>
    cases q with
    | zero => simp only [List.set_cons_zero, val, List.getD_cons_zero, Int.pow_zero]; omega
    | succ q =>
      simp only [List.set_cons_succ, val, List.getD_cons_succ]
      rw [ih q (by simpa using hq), Int.pow_succ]; grind
end Go.Proofs.Ythghkfncpdnpoab
