/-
  Own work: Fermat's little theorem, and that 2^255 - 19 is a prime (by Pocklington's test, every step checked).
-/
import Derived.Test.YthghkfncpdnpoacRows
namespace Go.Proofs.Ythghkfncpdnpoac
set_option linter.unusedVariables false

/-! Primes, and Fermat's little theorem, from the ground up. -/
def Prm (n : Nat) : Prop := 2 ≤ n ∧ ∀ m, m ∣ n → m = 1 ∨ m = n
theorem Prm.cop {p a : Nat} (h : Prm p) (ha : ¬ p ∣ a) : Nat.Coprime p a := by
  rcases h.2 _ (Nat.gcd_dvd_left p a) with e | e
  · exact e
  · exact absurd (e ▸ Nat.gcd_dvd_right p a) ha
theorem Prm.dvd_mul {p a b : Nat} (h : Prm p) (hab : p ∣ a * b) : p ∣ a ∨ p ∣ b := by
  by_cases ha : p ∣ a
  · exact .inl ha
  · exact .inr ((h.cop ha).dvd_of_dvd_mul_left hab)
def bin : Nat → Nat → Nat
  | _, 0 => 1
  | 0, _ + 1 => 0
  | n + 1, k + 1 => bin n k + bin n (k + 1)
theorem bin_big (n k : Nat) (h : n < k) : bin n k = 0 := by
  induction n generalizing k with
  | zero => cases k with
    | zero => omega
    | succ k => simp [bin]
  | succ n ih => cases k with
    | zero => omega
    | succ k => rw [bin, ih k (by omega), ih (k + 1) (by omega)]
theorem bin_self (n : Nat) : bin n n = 1 := by
  induction n with
  | zero => rfl
  | succ n ih => rw [bin, ih, bin_big n (n + 1) (by omega)]
theorem bin_abs (n k : Nat) : (k + 1) * bin (n + 1) (k + 1) = (n + 1) * bin n k := by
  induction n generalizing k with
  | zero =>
    cases k with
    | zero => rfl
    | succ k => simp [bin]
  | succ n ih =>
    cases k with
    | zero =>
      have h0 := ih 0
      rw [bin]
      simp only [bin] at *
      omega
    | succ k =>
      have h1 := ih k
      have h2 := ih (k + 1)
      rw [bin, Nat.mul_add]
      have e1 : (k + 1 + 1) * bin (n + 1) (k + 1) = (n + 1) * bin n k + bin (n + 1) (k + 1) := by rw [← h1]; grind
      rw [e1, h2]
      have e3 : bin (n + 1) (k + 1) = bin n k + bin n (k + 1) := rfl
      rw [e3]; grind
def sm (f : Nat → Nat) : Nat → Nat
  | 0 => 0
  | n + 1 => sm f n + f n
theorem sm_add (f g : Nat → Nat) (n : Nat) : sm (fun k => f k + g k) n = sm f n + sm g n := by
  induction n with
  | zero => rfl
  | succ n ih => simp only [sm, ih]; omega
theorem sm_mul (f : Nat → Nat) (c n : Nat) : sm (fun k => c * f k) n = c * sm f n := by
  induction n with
  | zero => simp [sm]
  | succ n ih => simp only [sm, ih]; grind
theorem sm_congr (f g : Nat → Nat) (n : Nat) (h : ∀ k, k < n → f k = g k) : sm f n = sm g n := by
  induction n with
  | zero => rfl
  | succ n ih => simp only [sm]; rw [ih (fun k hk => h k (by omega)), h n (by omega)]
theorem sm_shift (f : Nat → Nat) (n : Nat) : sm f (n + 1) = f 0 + sm (fun k => f (k + 1)) n := by
  induction n with
  | zero => simp [sm]
  | succ n ih => rw [sm, ih]; simp only [sm]; omega
theorem binom (a n : Nat) : (a + 1) ^ n = sm (fun k => bin n k * a ^ k) (n + 1) := by
  induction n with
  | zero => simp [sm, bin]
  | succ n ih =>
    have e1 : sm (fun k => bin (n + 1) k * a ^ k) (n + 1 + 1) = 1 + sm (fun k => (bin n k + bin n (k + 1)) * a ^ (k + 1)) (n + 1) := by
      rw [sm_shift]; simp [bin]
    have e2 : sm (fun k => (bin n k + bin n (k + 1)) * a ^ (k + 1)) (n + 1) = sm (fun k => a * (bin n k * a ^ k)) (n + 1) + sm (fun k => bin n (k + 1) * a ^ (k + 1)) (n + 1) := by
      rw [← sm_add]
      apply sm_congr
      intro k _
      rw [Nat.pow_succ]; grind
    have e3 : sm (fun k => bin n k * a ^ k) (n + 1 + 1) = 1 + sm (fun k => bin n (k + 1) * a ^ (k + 1)) (n + 1) := by
      rw [sm_shift]; simp [bin]
    have e4 : sm (fun k => bin n k * a ^ k) (n + 1 + 1) = sm (fun k => bin n k * a ^ k) (n + 1) := by
      rw [sm, bin_big n (n + 1) (by omega)]; omega
    rw [e1, e2, sm_mul, ← ih]
    rw [e4, ← ih] at e3
    rw [Nat.pow_succ, Nat.mul_add, Nat.mul_one, Nat.mul_comm ((a + 1) ^ n) a]
    omega
theorem sm_dvd (f : Nat → Nat) (p n : Nat) (h : ∀ k, k < n → p ∣ f k) : p ∣ sm f n := by
  induction n with
  | zero => exact Nat.dvd_zero p
  | succ n ih => exact Nat.dvd_add (ih (fun k hk => h k (by omega))) (h n (by omega))
theorem dream {p : Nat} (h : Prm p) (a : Nat) : (a + 1) ^ p % p = (a ^ p + 1) % p := by
  obtain ⟨q, rfl⟩ : ∃ q, p = q + 1 := ⟨p - 1, by have := h.1; omega⟩
  rw [binom, sm_shift, sm]
  have hd : (q + 1) ∣ sm (fun k => bin (q + 1) (k + 1) * a ^ (k + 1)) q := by
    apply sm_dvd
    intro k hk
    have e := bin_abs q k
    have : (q + 1) ∣ (k + 1) * bin (q + 1) (k + 1) := ⟨_, e⟩
    rcases h.dvd_mul this with h1 | h1
    · have := Nat.le_of_dvd (by omega) h1; omega
    · exact Nat.dvd_trans h1 ⟨_, rfl⟩
  obtain ⟨c, hc⟩ := hd
  rw [hc, bin_self]
  simp only [bin, Nat.pow_zero, Nat.one_mul]
  have : 1 + ((q + 1) * c + a ^ (q + 1)) = (a ^ (q + 1) + 1) + (q + 1) * c := by omega
  rw [this, Nat.add_mul_mod_self_left]
theorem fermat0 {p : Nat} (h : Prm p) (a : Nat) : a ^ p % p = a % p := by
  induction a with
  | zero => rw [Nat.zero_pow (by have := h.1; omega)]
  | succ a ih => rw [dream h, Nat.add_mod, ih, ← Nat.add_mod]
theorem fermat {p : Nat} (h : Prm p) (a : Nat) (ha : ¬ p ∣ a) : a ^ (p - 1) % p = 1 := by
  obtain ⟨q, rfl⟩ : ∃ q, p = q + 1 := ⟨p - 1, by have := h.1; omega⟩
  have e := fermat0 h a
  rw [Nat.pow_succ] at e
  rw [Nat.add_sub_cancel]
  have hq := h.1
  have hpos : 0 < a := Nat.pos_of_ne_zero (fun e => ha (by rw [e]; exact Nat.dvd_zero _))
  have hp1 : 1 ≤ a ^ q := Nat.pow_pos hpos
  have hd : (q + 1) ∣ a * (a ^ q - 1) := by
    have : a ^ q * a - a = a * (a ^ q - 1) := by rw [Nat.mul_sub, Nat.mul_one, Nat.mul_comm]
    rw [← this]
    exact Nat.dvd_of_mod_eq_zero (Nat.sub_mod_eq_zero_of_mod_eq e)
  rcases h.dvd_mul hd with h1 | h1
  · exact absurd h1 ha
  · obtain ⟨c, hc⟩ := h1
    have : a ^ q = 1 + (q + 1) * c := by omega
    rw [this, Nat.add_mul_mod_self_left, Nat.mod_eq_of_lt (by omega)]

/-- Powers modulo n, bit by bit. -/
def mpw (a n : Nat) : Nat → Nat → Nat
  | 0, _ => 1 % n
  | f + 1, e => if e = 0 then 1 % n else
    let h := mpw a n f (e / 2)
    if e % 2 = 1 then h * h % n * a % n else h * h % n
theorem mpw_eq (a n f e : Nat) (h : e < 2 ^ f) : mpw a n f e = a ^ e % n := by
  induction f generalizing e with
  | zero =>
    have : e = 0 := by simpa using h
    subst this; simp [mpw]
  | succ f ih =>
    rw [mpw]
    by_cases h0 : e = 0
    · rw [if_pos h0, h0, Nat.pow_zero]
    · rw [if_neg h0, ih (e / 2) (by rw [Nat.pow_succ] at h; omega)]
      by_cases h1 : e % 2 = 1
      · simp only [h1, if_true]
        have e1 : a ^ e = a ^ (e / 2) * a ^ (e / 2) * a := by
          rw [← Nat.pow_add, ← Nat.pow_succ]; congr 1; omega
        rw [e1]
        simp [Nat.mul_mod]
      · simp only [h1, if_false]
        have e1 : a ^ e = a ^ (e / 2) * a ^ (e / 2) := by
          rw [← Nat.pow_add]; congr 1; omega
        rw [e1]
        simp [Nat.mul_mod]
/-- A number that is no prime has a prime below its root. -/
theorem small_prm (n : Nat) (hn : 2 ≤ n) : ∃ m, Prm m ∧ m ∣ n := by
  induction n using Nat.strongRecOn with
  | ind n ih =>
    by_cases h : Prm n
    · exact ⟨n, h, Nat.dvd_refl n⟩
    · have : ∃ m, m ∣ n ∧ m ≠ 1 ∧ m ≠ n := by
        apply Classical.byContradiction
        intro hc
        apply h
        refine ⟨hn, fun m hm => ?_⟩
        by_cases h1 : m = 1
        · exact .inl h1
        · by_cases h2 : m = n
          · exact .inr h2
          · exact absurd ⟨m, hm, h1, h2⟩ hc
      obtain ⟨m, hm, h1, h2⟩ := this
      have hle := Nat.le_of_dvd (by omega) hm
      have hm0 : m ≠ 0 := fun e => by subst e; have := Nat.eq_zero_of_zero_dvd hm; omega
      obtain ⟨q, hq, hqm⟩ := ih m (by omega) (by omega)
      exact ⟨q, hq, Nat.dvd_trans hqm hm⟩
theorem prm_of_root {n : Nat} (hn : 2 ≤ n) (h : ∀ m, Prm m → m ∣ n → n < m * m) : Prm n := by
  refine ⟨hn, fun m hm => ?_⟩
  obtain ⟨c, hc⟩ := hm
  have hc' : n = c * m := by rw [hc, Nat.mul_comm]
  by_cases h1 : m = 1
  · exact .inl h1
  · by_cases h2 : c = 1
    · right; rw [hc, h2, Nat.mul_one]
    · exfalso
      have hm0 : m ≠ 0 := fun e => by subst e; simp at hc; omega
      have hc0 : c ≠ 0 := fun e => by subst e; simp at hc; omega
      obtain ⟨a, ha, had⟩ := small_prm m (by omega)
      obtain ⟨b, hb, hbd⟩ := small_prm c (by omega)
      have ga := h a ha (Nat.dvd_trans had ⟨c, hc⟩)
      have gb := h b hb (Nat.dvd_trans hbd ⟨m, hc'⟩)
      have la : a ≤ m := Nat.le_of_dvd (by omega) had
      have lb : b ≤ c := Nat.le_of_dvd (by omega) hbd
      have ma : m * c < m * m := by rw [← hc]; exact Nat.lt_of_lt_of_le ga (Nat.mul_le_mul la la)
      have mb : m * c < c * c := by rw [← hc]; exact Nat.lt_of_lt_of_le gb (Nat.mul_le_mul lb lb)
      have := Nat.lt_of_mul_lt_mul_left ma
      have := Nat.lt_of_mul_lt_mul_right mb
      omega
theorem dvd_pw {m x k : Nat} (h : m ∣ x) (hk : 0 < k) : m ∣ x ^ k := by
  obtain ⟨j, rfl⟩ : ∃ j, k = j + 1 := ⟨k - 1, by omega⟩
  rw [Nat.pow_succ]; exact Nat.dvd_trans h ⟨_, Nat.mul_comm _ _⟩
/-- A prime q of n - 1 divides m - 1 for each prime m of n, by one power. -/
theorem pock_dvd {n q a m z : Nat} (hq : Prm q) (hqn : q ∣ n - 1) (h1 : a ^ (n - 1) % n = 1) (hz : (a ^ ((n - 1) / q) % n + n - 1) * z % n = 1) (hn : 2 ≤ n) (hm : Prm m) (hmn : m ∣ n) : q ∣ m - 1 := by
  apply Classical.byContradiction
  intro hnd
  have hcop := hq.cop hnd
  have hm2 := hm.1
  have modm : ∀ x y : Nat, x % n = y % n → x % m = y % m := fun x y e => by
    rw [← Nat.mod_mod_of_dvd x hmn, ← Nat.mod_mod_of_dvd y hmn, e]
  have e1 : a ^ (n - 1) % m = 1 := by
    have := modm (a ^ (n - 1)) 1 (by rw [h1, Nat.mod_eq_of_lt (by omega)])
    rwa [Nat.mod_eq_of_lt (show 1 < m by omega)] at this
  have hma : ¬ m ∣ a := fun hd => by
    have : m ∣ a ^ (n - 1) := by
      obtain ⟨k, hk⟩ : ∃ k, n - 1 = k + 1 := ⟨n - 2, by omega⟩
      rw [hk, Nat.pow_succ]; exact Nat.dvd_trans hd ⟨_, Nat.mul_comm _ _⟩
    rw [Nat.mod_eq_zero_of_dvd this] at e1; omega
  -- b = a ^ ((n - 1) / q): its power q is 1
  have eb : (a ^ ((n - 1) / q)) ^ q % m = 1 := by
    rw [← Nat.pow_mul, Nat.div_mul_cancel hqn]; exact e1
  have hmb : ¬ m ∣ a ^ ((n - 1) / q) := fun hd => by
    have : m ∣ (a ^ ((n - 1) / q)) ^ q := dvd_pw hd (by have := hq.1; omega)
    rw [Nat.mod_eq_zero_of_dvd this] at eb; omega
  have fb := fermat hm _ hmb
  generalize hb : a ^ ((n - 1) / q) = b at *
  have pw1 : ∀ x k : Nat, x % m = 1 → x ^ k % m = 1 := fun x k hx => by
    rw [Nat.pow_mod, hx, Nat.one_pow, Nat.mod_eq_of_lt (by omega)]
  -- b ^ gcd = 1
  have key : ∀ x y : Nat, b ^ x % m = 1 → b ^ y % m = 1 → b ^ (Nat.gcd x y) % m = 1 := by
    intro x y
    induction x, y using Nat.gcd.induction with
    | H0 y => intro _ hy; rwa [Nat.gcd_zero_left]
    | H1 x y hx ih =>
      intro h1 h2
      rw [Nat.gcd_rec]
      apply ih _ h1
      have e : y = x * (y / x) + y % x := (Nat.div_add_mod y x).symm
      rw [e, Nat.pow_add, Nat.pow_mul, Nat.mul_mod, pw1 _ _ h1, Nat.one_mul, Nat.mod_mod] at h2
      exact h2
  have hb1 := key q (m - 1) eb fb
  rw [hcop, Nat.pow_one] at hb1
  have e5 : (b % n + n - 1) % m = 0 := by
    have hbn : b % n % m = 1 := by rw [Nat.mod_mod_of_dvd b hmn]; exact hb1
    obtain ⟨c, hc⟩ := hmn
    have hpos : 1 ≤ b % n := by
      rcases Nat.eq_zero_or_pos (b % n) with h | h
      · rw [h] at hbn; simp at hbn
      · exact h
    have hd := Nat.div_add_mod (b % n) m
    rw [hbn] at hd
    have : b % n + n - 1 = m * (b % n / m + c) := by rw [Nat.mul_add, ← hc]; omega
    rw [this, Nat.mul_mod_right]
  have e6 := modm _ _ (show (b % n + n - 1) * z % n = 1 % n by rw [hz, Nat.mod_eq_of_lt (by omega)])
  rw [Nat.mul_mod, e5, Nat.zero_mul, Nat.zero_mod, Nat.mod_eq_of_lt (by omega)] at e6
  omega
theorem pock1 {n q a z : Nat} (hq : Prm q) (hqn : q ∣ n - 1) (h1 : a ^ (n - 1) % n = 1) (hz : (a ^ ((n - 1) / q) % n + n - 1) * z % n = 1) (hn : 2 ≤ n) (hr : n < (q + 1) * (q + 1)) : Prm n := by
  apply prm_of_root hn
  intro m hm hmn
  have h := pock_dvd hq hqn h1 hz hn hm hmn
  have hm2 := hm.1
  have := Nat.le_of_dvd (by omega) h
  exact Nat.lt_of_lt_of_le hr (Nat.mul_le_mul (by omega) (by omega))
theorem pock2 {n q r a z z' : Nat} (hq : Prm q) (hr : Prm r) (hne : q ≠ r) (hqn : q ∣ n - 1) (hrn : r ∣ n - 1) (h1 : a ^ (n - 1) % n = 1) (hz : (a ^ ((n - 1) / q) % n + n - 1) * z % n = 1) (hz' : (a ^ ((n - 1) / r) % n + n - 1) * z' % n = 1) (hn : 2 ≤ n) (hs : n < (q * r + 1) * (q * r + 1)) : Prm n := by
  apply prm_of_root hn
  intro m hm hmn
  have h := pock_dvd hq hqn h1 hz hn hm hmn
  have h' := pock_dvd hr hrn h1 hz' hn hm hmn
  have hm2 := hm.1
  have hcop : Nat.Coprime q r := hq.cop (fun hd => by
    rcases hr.2 q hd with e | e
    · have := hq.1; omega
    · exact hne e)
  have hd : q * r ∣ m - 1 := hcop.mul_dvd_of_dvd_of_dvd h h'
  have := Nat.le_of_dvd (by omega) hd
  exact Nat.lt_of_lt_of_le hs (Nat.mul_le_mul (by omega) (by omega))
/-- Small primes, by trial. -/
theorem trial (n r : Nat) (hn : 2 ≤ n) (hr : n < r * r) (h : ∀ d < r, 2 ≤ d → n % d ≠ 0) : Prm n := by
  apply prm_of_root hn
  intro m hm hmn
  rcases Nat.lt_or_ge m r with hlt | hge
  · exact absurd (Nat.mod_eq_zero_of_dvd hmn) (h m hlt hm.1)
  · exact Nat.lt_of_lt_of_le hr (Nat.mul_le_mul hge hge)

theorem pock1' {n q a z B : Nat} (hq : Prm q) (hqn : q ∣ n - 1) (hB : n < 2 ^ B) (h1 : mpw a n B (n - 1) = 1) (hz : (mpw a n B ((n - 1) / q) + n - 1) * z % n = 1) (hn : 2 ≤ n) (hr : n < (q + 1) * (q + 1)) : Prm n := by
  rw [mpw_eq _ _ _ _ (by omega)] at h1
  rw [mpw_eq _ _ _ _ (Nat.lt_of_le_of_lt (Nat.div_le_self _ _) (by omega))] at hz
  exact pock1 hq hqn h1 hz hn hr
theorem pock2' {n q r a z z' B : Nat} (hq : Prm q) (hr : Prm r) (hne : q ≠ r) (hqn : q ∣ n - 1) (hrn : r ∣ n - 1) (hB : n < 2 ^ B) (h1 : mpw a n B (n - 1) = 1) (hz : (mpw a n B ((n - 1) / q) + n - 1) * z % n = 1) (hz' : (mpw a n B ((n - 1) / r) + n - 1) * z' % n = 1) (hn : 2 ≤ n) (hs : n < (q * r + 1) * (q * r + 1)) : Prm n := by
  rw [mpw_eq _ _ _ _ (by omega)] at h1
  rw [mpw_eq _ _ _ _ (Nat.lt_of_le_of_lt (Nat.div_le_self _ _) (by omega))] at hz hz'
  exact pock2 hq hr hne hqn hrn h1 hz hz' hn hs
theorem prm_991 : Prm 991 := trial 991 32 (by decide) (by decide) (by decide +kernel)

theorem prm_103 : Prm 103 := trial 103 11 (by decide) (by decide) (by decide +kernel)

theorem prm_n2 : Prm 8574133 :=
  pock2' (B := 25) (q := 991) (r := 103) (a := 2) (z := 1014251) (z' := 3531099) prm_991 prm_103 (by decide) (by decide +kernel) (by decide +kernel) (by decide +kernel) (by decide +kernel) (by decide +kernel) (by decide +kernel) (by decide) (by decide)

theorem prm_127 : Prm 127 := trial 127 12 (by decide) (by decide) (by decide +kernel)

theorem prm_n4 : Prm 1919519569386763 :=
  pock2' (B := 52) (q := 8574133) (r := 127) (a := 2) (z := 1290547218147893) (z' := 1870148777187772) prm_n2 prm_127 (by decide) (by decide +kernel) (by decide +kernel) (by decide +kernel) (by decide +kernel) (by decide +kernel) (by decide +kernel) (by decide) (by decide)

theorem prm_569003 : Prm 569003 := trial 569003 755 (by decide) (by decide) (by decide +kernel)

theorem prm_n6 : Prm 2773320623 :=
  pock1' (B := 33) (q := 569003) (a := 2) (z := 2440407146) prm_569003 (by decide +kernel) (by decide +kernel) (by decide +kernel) (by decide +kernel) (by decide) (by decide)

theorem prm_n7 : Prm 72106336199 :=
  pock1' (B := 38) (q := 2773320623) (a := 2) (z := 8149528284) prm_n6 (by decide +kernel) (by decide +kernel) (by decide +kernel) (by decide +kernel) (by decide) (by decide)

theorem prm_n8 : Prm 75445702479781427272750846543864801 :=
  pock2' (B := 117) (q := 1919519569386763) (r := 72106336199) (a := 2) (z := 74602835786463724888147869570305675) (z' := 55965016733432503242248684386325671) prm_n4 prm_n7 (by decide) (by decide +kernel) (by decide +kernel) (by decide +kernel) (by decide +kernel) (by decide +kernel) (by decide +kernel) (by decide) (by decide)

theorem prm_430751 : Prm 430751 := trial 430751 657 (by decide) (by decide) (by decide +kernel)

theorem prm_4153 : Prm 4153 := trial 4153 65 (by decide) (by decide) (by decide +kernel)

theorem prm_n11 : Prm 31757755568855353 :=
  pock2' (B := 56) (q := 430751) (r := 4153) (a := 2) (z := 15419847897348699) (z' := 25117532289192573) prm_430751 prm_4153 (by decide) (by decide +kernel) (by decide +kernel) (by decide +kernel) (by decide +kernel) (by decide +kernel) (by decide +kernel) (by decide) (by decide)

theorem prm_n12 : Prm 74058212732561358302231226437062788676166966415465897661863160754340907 :=
  pock2' (B := 237) (q := 75445702479781427272750846543864801) (r := 31757755568855353) (a := 2) (z := 70463328703800545008217672123162676565183935400628861884889913886334520) (z' := 18232248056023258384404751131439975669387062239511397558448549501188471) prm_n8 prm_n11 (by decide) (by decide +kernel) (by decide +kernel) (by decide +kernel) (by decide +kernel) (by decide +kernel) (by decide +kernel) (by decide) (by decide)

theorem prm_n13 : Prm 57896044618658097711785492504343953926634992332820282019728792003956564819949 :=
  pock1' (B := 256) (q := 74058212732561358302231226437062788676166966415465897661863160754340907) (a := 2) (z := 55540832096118778044507775605005710249233119951144946814680141076505643269084) prm_n12 (by decide +kernel) (by decide +kernel) (by decide +kernel) (by decide +kernel) (by decide) (by decide)

theorem fp_prm : Prm 57896044618658097711785492504343953926634992332820282019728792003956564819949 := prm_n13
end Go.Proofs.Ythghkfncpdnpoac
