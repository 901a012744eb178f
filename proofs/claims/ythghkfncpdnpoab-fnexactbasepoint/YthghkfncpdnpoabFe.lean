/-
  Own work: the field of the curve in digits of 16 bits: carries and products as plain mathematics.
-/
import Derived.Test.YthghkfncpdnpoabVal
namespace Go.Proofs.Ythghkfncpdnpoab
set_option linter.unusedVariables false

/-! Carries in base 65536, sixteen digits. -/
def cy (xs : List Int) : Nat → Int
  | 0 => 0
  | i + 1 => (xs.getD i 0 + cy xs i) / 65536
def cdig (xs : List Int) (k i : Nat) : Int := if i < k then (xs.getD i 0 + cy xs i) % 65536 else if i = k then xs.getD i 0 + cy xs i else xs.getD i 0
def cst (xs : List Int) (k : Nat) : List Int := (List.range 16).map (cdig xs k)
def carryL (xs : List Int) : List Int := (List.range 16).map fun i => (xs.getD i 0 + cy xs i) % 65536 + if i = 0 then 38 * cy xs 16 else 0
theorem cst_len (xs : List Int) (k : Nat) : (cst xs k).length = 16 := by simp [cst]
theorem carryL_len (xs : List Int) : (carryL xs).length = 16 := by simp [carryL]
theorem rget (f : Nat → Int) (i : Nat) (h : i < 16) : ((List.range 16).map f).getD i 0 = f i := by simp [h]
theorem cst_get (xs : List Int) (k i : Nat) (h : i < 16) : (cst xs k).getD i 0 = cdig xs k i := rget _ i h
theorem carryL_get (xs : List Int) (i : Nat) (h : i < 16) : (carryL xs).getD i 0 = (xs.getD i 0 + cy xs i) % 65536 + if i = 0 then 38 * cy xs 16 else 0 := rget _ i h
theorem list16 {a b : List Int} (ha : a.length = 16) (hb : b.length = 16) (h : ∀ i, i < 16 → a.getD i 0 = b.getD i 0) : a = b := by
  apply List.ext_getElem (by omega)
  intro i h1 h2
  have := h i (by omega)
  simpa [h1, h2] using this
theorem getD_set_eq (zs : List Int) (i j : Nat) (x : Int) (hi : i < zs.length) : (zs.set i x).getD j 0 = if j = i then x else zs.getD j 0 := by
  by_cases h : j = i
  · subst h; rw [if_pos rfl, List.getD_eq_getElem?_getD, List.getElem?_set_self hi]; rfl
  · rw [if_neg h, List.getD_eq_getElem?_getD, List.getElem?_set_ne (Ne.symm h), List.getD_eq_getElem?_getD]
theorem cst_zero (xs : List Int) (h : xs.length = 16) : cst xs 0 = xs := by
  apply list16 (cst_len _ _) h
  intro i hi
  rw [cst_get _ _ _ hi]
  unfold cdig
  by_cases h0 : i = 0
  · subst h0; simp [cy]
  · simp [h0]
theorem cst_step (xs : List Int) (k : Nat) (h : k < 15) : ((cst xs k).set k ((xs.getD k 0 + cy xs k) % 65536)).set (k + 1) (xs.getD (k + 1) 0 + cy xs (k + 1)) = cst xs (k + 1) := by
  apply list16 (by simp [cst_len]) (cst_len _ _)
  intro i hi
  rw [getD_set_eq _ _ _ _ (by simp [cst_len]; omega), getD_set_eq _ _ _ _ (by simp [cst_len]; omega), cst_get _ _ _ hi, cst_get _ _ _ hi]
  unfold cdig
  by_cases h1 : i = k + 1
  · subst h1; simp
  · by_cases h2 : i = k
    · subst h2; simp
    · have h3 : (i < k) ↔ (i < k + 1) := by omega
      simp [h1, h2, h3]
theorem cst_last (xs : List Int) : ((cst xs 15).set 15 ((xs.getD 15 0 + cy xs 15) % 65536)).set 0 (((cst xs 15).set 15 ((xs.getD 15 0 + cy xs 15) % 65536)).getD 0 0 + 38 * cy xs 16) = carryL xs := by
  apply list16 (by simp [cst_len]) (carryL_len _)
  intro i hi
  rw [getD_set_eq _ _ _ _ (by simp [cst_len]), getD_set_eq _ _ _ _ (by simp [cst_len]), getD_set_eq _ _ _ _ (by simp [cst_len]), cst_get _ _ _ hi, cst_get _ _ _ (by decide), carryL_get _ _ hi]
  unfold cdig
  by_cases h1 : i = 0
  · subst h1; simp
  · by_cases h2 : i = 15
    · subst h2; simp
    · have h3 : i < 15 := by omega
      simp [h1, h2, h3]
def Bd (M : Int) (xs : List Int) : Prop := ∀ i, -M ≤ xs.getD i 0 ∧ xs.getD i 0 ≤ M
theorem cy_bd {xs : List Int} {M C : Int} (h : Bd M xs) (hC : M ≤ 65535 * C) (hM : 0 ≤ M) (i : Nat) : -C ≤ cy xs i ∧ cy xs i ≤ C := by
  induction i with
  | zero => simp only [cy]; omega
  | succ i ih => simp only [cy]; have := h i; omega
theorem val_range (B : Int) (f : Nat → Int) (n : Nat) : val B ((List.range (n + 1)).map f) = val B ((List.range n).map f) + f n * B ^ n := by
  rw [List.range_succ, List.map_append, List.map_cons, List.map_nil, val_snoc]; simp
theorem val_eq_range (B : Int) (xs : List Int) (n : Nat) (h : xs.length = n) : val B xs = val B ((List.range n).map (fun i => xs.getD i 0)) := by
  congr 1
  apply List.ext_getElem (by simp [h])
  intro i h1 h2
  simp [h1]
theorem carry_val_aux (xs : List Int) (n : Nat) : val 65536 ((List.range n).map fun i => (xs.getD i 0 + cy xs i) % 65536) + cy xs n * 65536 ^ n = val 65536 ((List.range n).map fun i => xs.getD i 0) := by
  induction n with
  | zero => simp [val, cy]
  | succ n ih =>
    rw [val_range, val_range, ← ih, Int.pow_succ]
    simp only [cy]
    have e : (xs.getD n 0 + cy xs n) % 65536 + 65536 * ((xs.getD n 0 + cy xs n) / 65536) = xs.getD n 0 + cy xs n := Int.emod_add_mul_ediv _ _
    have e2 : ((xs.getD n 0 + cy xs n) % 65536 + 65536 * ((xs.getD n 0 + cy xs n) / 65536)) * 65536 ^ n = (xs.getD n 0 + cy xs n) * 65536 ^ n := by rw [e]
    generalize (65536 : Int) ^ n = P at *
    generalize (xs.getD n 0 + cy xs n) / 65536 = q at *
    generalize (xs.getD n 0 + cy xs n) % 65536 = r at *
    generalize val 65536 (List.map (fun i => (xs.getD i 0 + cy xs i) % 65536) (List.range n)) = v at *
    grind
def fp : Int := 57896044618658097711785492504343953926634992332820282019728792003956564819949
theorem carry_val (xs : List Int) (h : xs.length = 16) : val 65536 (carryL xs) = val 65536 xs - cy xs 16 * (2 * fp) := by
  have e := carry_val_aux xs 16
  rw [← val_eq_range 65536 xs 16 h] at e
  have e1 : val 65536 (carryL xs) = val 65536 ((List.range 16).map fun i => (xs.getD i 0 + cy xs i) % 65536) + 38 * cy xs 16 := by
    have : carryL xs = ((List.range 16).map fun i => (xs.getD i 0 + cy xs i) % 65536).set 0 (((List.range 16).map fun i => (xs.getD i 0 + cy xs i) % 65536).getD 0 0 + 38 * cy xs 16) := by
      apply list16 (carryL_len _) (by simp)
      intro i hi
      rw [getD_set_eq _ _ _ _ (by simp), carryL_get _ _ hi, rget _ _ hi, rget _ _ (by decide)]
      by_cases h0 : i = 0
      · subst h0; simp
      · simp [h0]
    rw [this, val_set _ _ _ _ (by simp)]
    simp only [Int.pow_zero]
    generalize List.map (fun i => (xs.getD i 0 + cy xs i) % 65536) (List.range 16) = l
    omega
  rw [e1, ← e]
  have : (65536 : Int) ^ 16 = 2 * fp + 38 := by decide
  rw [this]
  generalize val 65536 (List.map (fun i => (xs.getD i 0 + cy xs i) % 65536) (List.range 16)) = l
  grind
theorem getD_past {xs : List Int} {i : Nat} (h : xs.length ≤ i) : xs.getD i 0 = 0 := by
  rw [List.getD_eq_getElem?_getD, List.getElem?_eq_none h]; rfl
theorem carry_bd {xs : List Int} {C : Int} (hC : 0 ≤ C) (h : -C ≤ cy xs 16 ∧ cy xs 16 ≤ C) : Bd (65535 + 38 * C) (carryL xs) ∧ ∀ i, 1 ≤ i → 0 ≤ (carryL xs).getD i 0 ∧ (carryL xs).getD i 0 < 65536 := by
  refine ⟨fun i => ?_, fun i hi => ?_⟩
  · by_cases h16 : i < 16
    · rw [carryL_get _ _ h16]; split <;> omega
    · rw [getD_past (by rw [carryL_len]; omega)]; omega
  · by_cases h16 : i < 16
    · rw [carryL_get _ _ h16, if_neg (by omega)]; omega
    · rw [getD_past (by rw [carryL_len]; omega)]; omega
/-- The class that sums, differences and products stay in. -/
def R (xs : List Int) : Prop := xs.length = 16 ∧ Bd 65700 xs
def fv (xs : List Int) : Int := val 65536 xs % fp
theorem fv_carry (xs : List Int) (h : xs.length = 16) : fv (carryL xs) = fv xs := by
  unfold fv
  rw [carry_val xs h]
  have : val 65536 xs - cy xs 16 * (2 * fp) = val 65536 xs + fp * (-(2 * cy xs 16)) := by grind
  rw [this, Int.add_mul_emod_self_left]
/-! Products of rows of digits. -/
def addP : List Int → List Int → List Int
  | [], ys => ys
  | x :: xs, [] => x :: xs
  | x :: xs, y :: ys => (x + y) :: addP xs ys
def mulP : List Int → List Int → List Int
  | [], _ => []
  | x :: xs, ys => addP (ys.map (x * ·)) (0 :: mulP xs ys)
theorem val_addP (B : Int) (xs ys : List Int) : val B (addP xs ys) = val B xs + val B ys := by
  induction xs generalizing ys with
  | nil => simp [addP, val]
  | cons x xs ih => cases ys with
    | nil => simp [addP, val]
    | cons y ys => simp only [addP, val, ih]; grind
theorem val_scale (B x : Int) (ys : List Int) : val B (ys.map (x * ·)) = x * val B ys := by
  induction ys with
  | nil => simp [val]
  | cons y ys ih => simp only [List.map_cons, val, ih]; grind
theorem val_mulP (B : Int) (xs ys : List Int) : val B (mulP xs ys) = val B xs * val B ys := by
  induction xs with
  | nil => simp [mulP, val]
  | cons x xs ih => simp only [mulP, val_addP, val_scale, val, ih]; grind
theorem addP_get (xs ys : List Int) (i : Nat) : (addP xs ys).getD i 0 = xs.getD i 0 + ys.getD i 0 := by
  induction xs generalizing ys i with
  | nil => simp [addP]
  | cons x xs ih => cases ys with
    | nil => simp [addP]
    | cons y ys => cases i with
      | zero => simp [addP]
      | succ i => simp only [addP, List.getD_cons_succ, ih]
theorem scale_get (x : Int) (ys : List Int) (i : Nat) : (ys.map (x * ·)).getD i 0 = x * ys.getD i 0 := by
  simp only [List.getD_eq_getElem?_getD, List.getElem?_map]
  cases ys[i]? <;> simp
/-- The sum of a_j b_(s-j) over j < n. -/
def cs (a b : List Int) (s : Nat) : Nat → Int
  | 0 => 0
  | n + 1 => cs a b s n + a.getD n 0 * b.getD (s - n) 0
theorem cs_cons (x : Int) (xs b : List Int) (s n : Nat) : cs (x :: xs) b (s + 1) (n + 1) = x * b.getD (s + 1) 0 + cs xs b s n := by
  induction n with
  | zero => simp [cs]
  | succ n ih =>
    rw [cs, ih]
    simp only [cs, List.getD_cons_succ]
    rw [show s + 1 - (n + 1) = s - n by omega]; omega
theorem mulP_get (xs ys : List Int) (s : Nat) : (mulP xs ys).getD s 0 = cs xs ys s (s + 1) := by
  induction xs generalizing s with
  | nil =>
    have : ∀ n, cs [] ys s n = 0 := fun n => by
      induction n with
      | zero => rfl
      | succ n ih => simp [cs, ih]
    rw [this]; simp [mulP]
  | cons x xs ih =>
    rw [mulP, addP_get, scale_get]
    cases s with
    | zero => simp [cs]
    | succ s =>
      rw [List.getD_cons_succ, ih s]
      exact (cs_cons x xs ys s (s + 1)).symm
theorem addP_len (xs ys : List Int) : (addP xs ys).length = max xs.length ys.length := by
  induction xs generalizing ys with
  | nil => simp [addP]
  | cons x xs ih => cases ys with
    | nil => simp [addP]
    | cons y ys => simp only [addP, List.length_cons, ih]; omega
theorem mulP_len (xs ys : List Int) : (mulP xs ys).length ≤ xs.length + ys.length := by
  induction xs with
  | nil => simp [mulP]
  | cons x xs ih => simp only [mulP, addP_len, List.length_map, List.length_cons]; omega
/-- What the product's digits are before they are carried. -/
def loS (a b : List Int) (i : Nat) : Int := cs a b i (i + 1)
def hiS (a b : List Int) (i : Nat) : Int := cs a b (16 + i) (17 + i)
def mulL (a b : List Int) : List Int := (List.range 16).map fun i => loS a b i + 38 * hiS a b i
theorem val_pad (B : Int) (xs : List Int) (n : Nat) (h : xs.length ≤ n) : val B ((List.range n).map fun i => xs.getD i 0) = val B xs := by
  obtain ⟨d, rfl⟩ : ∃ d, n = xs.length + d := ⟨n - xs.length, by omega⟩
  clear h
  induction d with
  | zero => rw [Nat.add_zero, ← val_eq_range B xs _ rfl]
  | succ d ih => rw [← Nat.add_assoc, val_range, ih, getD_past (by omega)]; omega
theorem val_split (B : Int) (f : Nat → Int) (m n : Nat) : val B ((List.range (m + n)).map f) = val B ((List.range m).map f) + B ^ m * val B ((List.range n).map fun i => f (m + i)) := by
  induction n with
  | zero => simp [val]
  | succ n ih => rw [← Nat.add_assoc, val_range, ih, val_range, Int.pow_add]; grind
theorem val_lin (B : Int) (f g : Nat → Int) (n : Nat) (c : Int) : val B ((List.range n).map fun i => f i + c * g i) = val B ((List.range n).map f) + c * val B ((List.range n).map g) := by
  induction n with
  | zero => simp [val]
  | succ n ih => rw [val_range, val_range, val_range, ih]; grind
theorem mulL_val (a b : List Int) (ha : a.length = 16) (hb : b.length = 16) : ∃ H, val 65536 (mulL a b) = val 65536 a * val 65536 b - H * (2 * fp) := by
  have e1 := val_pad 65536 (mulP a b) (16 + 16) (by have := mulP_len a b; omega)
  rw [val_split, val_mulP] at e1
  refine ⟨val 65536 ((List.range 16).map fun i => (mulP a b).getD (16 + i) 0), ?_⟩
  have e2 : mulL a b = (List.range 16).map fun i => (mulP a b).getD i 0 + 38 * (mulP a b).getD (16 + i) 0 := by
    unfold mulL loS hiS
    congr 1; funext i
    rw [mulP_get, mulP_get, show 16 + i + 1 = 17 + i by omega]
  rw [e2, val_lin 65536 (fun i => (mulP a b).getD i 0) (fun i => (mulP a b).getD (16 + i) 0) 16 38, ← e1]
  have : (65536 : Int) ^ 16 = 2 * fp + 38 := by decide
  rw [this]
  generalize val 65536 (List.map (fun i => (mulP a b).getD i 0) (List.range 16)) = p
  generalize val 65536 (List.map (fun i => (mulP a b).getD (16 + i) 0) (List.range 16)) = q
  grind
theorem fv_mulL (a b : List Int) (ha : a.length = 16) (hb : b.length = 16) : fv (mulL a b) = fv a * fv b % fp := by
  obtain ⟨H, e⟩ := mulL_val a b ha hb
  unfold fv
  rw [e, ← Int.mul_emod]
  have : val 65536 a * val 65536 b - H * (2 * fp) = val 65536 a * val 65536 b + fp * (-(2 * H)) := by grind
  rw [this, Int.add_mul_emod_self_left]
/-- The low sum's places: all terms stand; the high sum's: those from i + 1 to 15. -/
theorem cs_bd {a b : List Int} {N : Int} (ha : Bd N a) (hb : Bd N b) (hN : 0 ≤ N) (s n : Nat) : -(n * (N * N)) ≤ cs a b s n ∧ cs a b s n ≤ n * (N * N) := by
  induction n with
  | zero => simp [cs]
  | succ n ih =>
    have h1 := ha n; have h2 := hb (s - n)
    have p : -(N * N) ≤ a.getD n 0 * b.getD (s - n) 0 ∧ a.getD n 0 * b.getD (s - n) 0 ≤ N * N := by
      generalize a.getD n 0 = x at *
      generalize b.getD (s - n) 0 = y at *
      have q1 : 0 ≤ (N - x) * (N + y) := Int.mul_nonneg (by omega) (by omega)
      have q2 : 0 ≤ (N + x) * (N - y) := Int.mul_nonneg (by omega) (by omega)
      have q3 : 0 ≤ (N - x) * (N - y) := Int.mul_nonneg (by omega) (by omega)
      have q4 : 0 ≤ (N + x) * (N + y) := Int.mul_nonneg (by omega) (by omega)
      constructor <;> grind
    rw [cs]
    have e : ((n + 1 : Nat) : Int) * (N * N) = n * (N * N) + N * N := by rw [Int.natCast_add]; grind
    rw [e]
    generalize N * N = Q at *
    generalize (n : Int) * Q = K at *
    omega
theorem cs_zero_from {a b : List Int} (hb : b.length = 16) (i n : Nat) (h : n ≤ i + 1) : cs a b (16 + i) n = 0 := by
  induction n with
  | zero => rfl
  | succ n ih => rw [cs, ih (by omega), getD_past (xs := b) (by omega)]; omega
theorem cs_past {a b : List Int} (ha : a.length = 16) (s : Nat) (d : Nat) : cs a b s (16 + d) = cs a b s 16 := by
  induction d with
  | zero => rfl
  | succ d ih => rw [← Nat.add_assoc, cs, ih, getD_past (xs := a) (by omega)]; omega
theorem hiS_eq {a b : List Int} (ha : a.length = 16) (i : Nat) : hiS a b i = cs a b (16 + i) 16 := by
  unfold hiS
  rw [show 17 + i = 16 + (1 + i) by omega]; exact cs_past ha _ _
theorem cy_sharp {xs : List Int} (h : ∀ i, 1 ≤ i → 0 ≤ xs.getD i 0 ∧ xs.getD i 0 < 65536) (h0 : -34359738368 ≤ xs.getD 0 0 ∧ xs.getD 0 0 ≤ 34359738368) (i : Nat) : -1 ≤ cy xs (i + 3) ∧ cy xs (i + 3) ≤ 1 := by
  induction i with
  | zero =>
    have a1 := h 1 (by decide); have a2 := h 2 (by decide)
    simp only [cy]; omega
  | succ i ih =>
    have a := h (i + 3) (by omega)
    rw [show i + 1 + 3 = (i + 3) + 1 from rfl, cy]; omega
theorem two_R {xs : List Int} {M : Int} (hl : xs.length = 16) (hM : Bd M xs) (h0 : 0 ≤ M) (h1 : M ≤ 17592186044416) :
    R (carryL (carryL xs)) ∧ fv (carryL (carryL xs)) = fv xs ∧ Bd 20401160191 (carryL xs) := by
  have hc := cy_bd (C := 536870912) hM (by omega) h0 16
  obtain ⟨b1, b2⟩ := carry_bd (by decide) hc
  have b1' : Bd 20401160191 (carryL xs) := b1
  have hs := cy_sharp (xs := carryL xs) b2 (by have := b1' 0; omega) 13
  obtain ⟨b3, _⟩ := carry_bd (C := 1) (by decide) hs
  refine ⟨⟨carryL_len _, fun i => by have := b3 i; omega⟩, ?_, b1'⟩
  rw [fv_carry _ (carryL_len _), fv_carry _ hl]
theorem one_R {xs : List Int} (hl : xs.length = 16) (hM : Bd 131400 xs) : R (carryL xs) ∧ fv (carryL xs) = fv xs := by
  have hc := cy_bd (C := 3) hM (by decide) (by decide) 16
  obtain ⟨b1, b2⟩ := carry_bd (by decide) hc
  exact ⟨⟨carryL_len _, fun i => by have := b1 i; omega⟩, fv_carry _ hl⟩
theorem mulL_len (a b : List Int) : (mulL a b).length = 16 := by simp [mulL]
theorem mulL_bd {a b : List Int} (ha : R a) (hb : R b) : Bd 17592186044416 (mulL a b) := by
  intro i
  by_cases h : i < 16
  · have e : (mulL a b).getD i 0 = loS a b i + 38 * hiS a b i := rget _ i h
    rw [e, hiS_eq ha.1]
    unfold loS
    have h1 := cs_bd ha.2 hb.2 (by decide) i (i + 1)
    have h2 := cs_bd ha.2 hb.2 (by decide) (16 + i) 16
    omega
  · rw [getD_past (by rw [mulL_len]; omega)]; omega
def smallL (x : Int) : List Int := x :: List.replicate 15 0
theorem val_zeros (B : Int) (n : Nat) : val B (List.replicate n 0) = 0 := by
  induction n with
  | zero => rfl
  | succ n ih => rw [List.replicate_succ]; simp [val, ih]
theorem smallL_val (x : Int) : val 65536 (smallL x) = x := by simp only [smallL, val, val_zeros]; omega
theorem smallL_bd {x M : Int} (h : -M ≤ x ∧ x ≤ M) : Bd M (smallL x) := by
  intro i
  cases i with
  | zero => simpa [smallL] using h
  | succ i =>
    have : (smallL x).getD (i + 1) 0 = 0 := by
      unfold smallL
      rw [List.getD_cons_succ, List.getD_eq_getElem?_getD, List.getElem?_replicate]; split <;> rfl
    rw [this]; omega
end Go.Proofs.Ythghkfncpdnpoab
