/-
  Own work: sets of serials as bits, by the program.
-/
import Derived.Test.YtmnoelfabldpfaaMWrd
import Derived.Test.YtmnoelfabldpfaaMWrd
import Derived.BigRegion
namespace Go.Proofs.Ytmnoelfabldpfaa
open Go.ChangeShapes Go.WideShapes Go.ChangeAt Go.RowKit
set_option linter.unusedVariables false

/-- 32 bytes at offset o of block g. -/
def BAt (w : World) (g o : Nat) (bs : List Int) : Prop := bs.length = 32 ∧ Byte bs ∧ ∀ i, i < 32 → w.cell? ⟨g, o + i, none⟩ = some (.int .u8 (bs.getD i 0)) ∧ w.frozen? ⟨g, o + i, none⟩ = false
/-- The bytes bs are the set P. -/
def SetB (bs : List Int) (P : Nat → Prop) : Prop := bs.length = 32 ∧ Byte bs ∧ ∀ v, v < 256 → (bs.getD (v / 8) 0 / 2 ^ (v % 8) % 2 = 1 ↔ P v)
theorem bit_nat (x j : Nat) : x / 2 ^ j % 2 = 1 ↔ x.testBit j = true := by rw [Nat.testBit_eq_decide_div_mod_eq]; simp
theorem u8_or_bit (x : Int) (k : Nat) (hx : 0 ≤ x) (hx' : x < 256) (hk : k < 8) : 0 ≤ bits .or .u8 x (2 ^ k) ∧ bits .or .u8 x (2 ^ k) < 256 ∧ ∀ j, j < 8 → (bits .or .u8 x (2 ^ k) / 2 ^ j % 2 = 1 ↔ (x / 2 ^ j % 2 = 1 ∨ j = k)) := by
  obtain ⟨x, rfl⟩ := Int.eq_ofNat_of_zero_le hx
  have h2 : (2 : Nat) ^ k < 256 := by
    have : 2 ^ k ≤ 2 ^ 7 := Nat.pow_le_pow_right (by decide) (by omega)
    omega
  have e : bits .or .u8 (x : Int) (2 ^ k) = ((x ||| 2 ^ k : Nat) : Int) := by
    rw [show ((2 : Int) ^ k) = ((2 ^ k : Nat) : Int) by simp]
    exact u8_or_nat x (2 ^ k) (by omega) h2
  rw [e]
  have hlt : x ||| 2 ^ k < 2 ^ 8 := Nat.or_lt_two_pow (by omega) (by omega)
  refine ⟨by omega, by omega, fun j hj => ?_⟩
  have q : ∀ y : Nat, ((y : Int) / 2 ^ j % 2 = 1 ↔ y.testBit j = true) := fun y => by
    rw [← bit_nat]
    rw [show ((2 : Int) ^ j) = ((2 ^ j : Nat) : Int) by simp, ← Int.natCast_ediv]
    omega
  rw [q, q, Nat.testBit_or, Nat.testBit_two_pow]
  simp only [Bool.or_eq_true, decide_eq_true_eq]
  constructor
  · rintro (h | h)
    · exact .inl h
    · exact .inr h.symm
  · rintro (h | h)
    · exact .inl h
    · exact .inr h.symm
theorem not_bit : ∀ k, k < 8 → ∀ j, j < 8 → (255 - 2 ^ k).testBit j = decide (j ≠ k) := by decide
theorem u8_not_bit (x : Int) (k : Nat) (hx : 0 ≤ x) (hx' : x < 256) (hk : k < 8) : 0 ≤ bits .andNot .u8 x (2 ^ k) ∧ bits .andNot .u8 x (2 ^ k) < 256 ∧ ∀ j, j < 8 → (bits .andNot .u8 x (2 ^ k) / 2 ^ j % 2 = 1 ↔ (x / 2 ^ j % 2 = 1 ∧ j ≠ k)) := by
  obtain ⟨x, rfl⟩ := Int.eq_ofNat_of_zero_le hx
  have h2 : (2 : Nat) ^ k < 256 := by
    have : 2 ^ k ≤ 2 ^ 7 := Nat.pow_le_pow_right (by decide) (by omega)
    omega
  have e : bits .andNot .u8 (x : Int) (2 ^ k) = ((x &&& (255 - 2 ^ k) : Nat) : Int) := by
    rw [show ((2 : Int) ^ k) = ((2 ^ k : Nat) : Int) by simp]
    exact u8_andNot_nat x (2 ^ k) (by omega) h2
  rw [e]
  have hlt : x &&& (255 - 2 ^ k) < 2 ^ 8 := Nat.and_lt_two_pow _ (Nat.lt_of_le_of_lt (Nat.sub_le _ _) (by decide))
  refine ⟨by omega, by omega, fun j hj => ?_⟩
  have q : ∀ y : Nat, ((y : Int) / 2 ^ j % 2 = 1 ↔ y.testBit j = true) := fun y => by
    rw [← bit_nat]
    rw [show ((2 : Int) ^ j) = ((2 ^ j : Nat) : Int) by simp, ← Int.natCast_ediv]
    omega
  rw [q, q, Nat.testBit_and, not_bit k hk j hj]
  simp
theorem getD_set8 (bs : List Int) (q i : Nat) (x : Int) (hq : q < bs.length) : (bs.set q x).getD i 0 = if i = q then x else bs.getD i 0 := by
  rw [List.getD_eq_getElem?_getD, List.getElem?_set]
  by_cases h : q = i
  · subst h; simp [hq]
  · rw [if_neg h, if_neg (Ne.symm h), List.getD_eq_getElem?_getD]
def addB (bs : List Int) (v : Nat) : List Int := bs.set (v / 8) (bits .or .u8 (bs.getD (v / 8) 0) (2 ^ (v % 8)))
def remB (bs : List Int) (v : Nat) : List Int := bs.set (v / 8) (bits .andNot .u8 (bs.getD (v / 8) 0) (2 ^ (v % 8)))
theorem byte_set {bs : List Int} (h : Byte bs) (q : Nat) (x : Int) (h0 : 0 ≤ x) (h1 : x < 256) : Byte (bs.set q x) := fun z hz => by
  rcases List.mem_or_eq_of_mem_set hz with h' | h'
  · exact h z h'
  · rw [h']; exact ⟨h0, h1⟩
theorem SetB.add {bs : List Int} {P : Nat → Prop} (h : SetB bs P) (v : Nat) (hv : v < 256) : SetB (addB bs v) (fun u => P u ∨ u = v) := by
  obtain ⟨h1, h2, h3⟩ := h
  have hx := h2.get (v / 8)
  obtain ⟨a, b, c⟩ := u8_or_bit _ (v % 8) hx.1 hx.2 (by omega)
  refine ⟨by unfold addB; rw [List.length_set]; exact h1, byte_set h2 _ _ a b, fun u hu => ?_⟩
  unfold addB
  rw [getD_set8 _ _ _ _ (by omega)]
  by_cases hq : u / 8 = v / 8
  · rw [if_pos hq, c (u % 8) (by omega), ← hq, h3 u hu]
    constructor
    · rintro (h | h)
      · exact .inl h
      · exact .inr (by omega)
    · rintro (h | h)
      · exact .inl h
      · exact .inr (by omega)
  · rw [if_neg hq, h3 u hu]
    constructor
    · exact .inl
    · rintro (h | h)
      · exact h
      · omega
theorem SetB.rem {bs : List Int} {P : Nat → Prop} (h : SetB bs P) (v : Nat) (hv : v < 256) : SetB (remB bs v) (fun u => P u ∧ u ≠ v) := by
  obtain ⟨h1, h2, h3⟩ := h
  have hx := h2.get (v / 8)
  obtain ⟨a, b, c⟩ := u8_not_bit _ (v % 8) hx.1 hx.2 (by omega)
  refine ⟨by unfold remB; rw [List.length_set]; exact h1, byte_set h2 _ _ a b, fun u hu => ?_⟩
  unfold remB
  rw [getD_set8 _ _ _ _ (by omega)]
  by_cases hq : u / 8 = v / 8
  · rw [if_pos hq, c (u % 8) (by omega), ← hq, h3 u hu]
    constructor
    · rintro ⟨h, h'⟩; exact ⟨h, by omega⟩
    · rintro ⟨h, h'⟩; exact ⟨h, by omega⟩
  · rw [if_neg hq, h3 u hu]
    constructor
    · intro h; exact ⟨h, by omega⟩
    · exact fun h => h.1

def serOk (v : Int) : Bool := decide (0 ≤ v ∧ v < 256)
def nowOk (v : Int) : Bool := decide (0 ≤ v ∧ v ≤ 4294967295)
theorem isSerial_any (v : Int) (w : World) : Calls Try.prog 62 #[.int .i64 v] w fun e w' => e = .returned (.bool (serOk v)) ∧ w' = w := by
  by_cases h0 : 0 ≤ v
  · by_cases h1 : v < 256
    · have HD : Hid (serOk v = true) := decide_eq_true ⟨h0, h1⟩
      go_enter Try.func62, Try.ntmps62
      go_wp2
      go_ret
      exact ⟨by rw [HD.out]; rfl, rfl⟩
    · have HD : Hid (serOk v = false) := decide_eq_false (fun h => h1 h.2)
      go_enter Try.func62, Try.ntmps62
      go_wp2
      go_ret
      exact ⟨by rw [HD.out]; rfl, rfl⟩
  · have HD : Hid (serOk v = false) := decide_eq_false (fun h => h0 h.1)
    go_enter Try.func62, Try.ntmps62
    go_wp2
    go_ret
    exact ⟨by rw [HD.out]; rfl, rfl⟩
theorem isNow_any (v : Int) (w : World) : Calls Try.prog 69 #[.int .i64 v] w fun e w' => e = .returned (.bool (nowOk v)) ∧ w' = w := by
  by_cases h0 : 0 ≤ v
  · by_cases h1 : v ≤ 4294967295
    · have HD : Hid (nowOk v = true) := decide_eq_true ⟨h0, h1⟩
      go_enter Try.func69, Try.ntmps69
      go_wp2
      go_ret
      exact ⟨by rw [HD.out]; rfl, rfl⟩
    · have HD : Hid (nowOk v = false) := decide_eq_false (fun h => h1 h.2)
      go_enter Try.func69, Try.ntmps69
      go_wp2
      go_ret
      exact ⟨by rw [HD.out]; rfl, rfl⟩
  · have HD : Hid (nowOk v = false) := decide_eq_false (fun h => h0 h.1)
    go_enter Try.func69, Try.ntmps69
    go_wp2
    go_ret
    exact ⟨by rw [HD.out]; rfl, rfl⟩

theorem two_mod (v : Nat) : (2 : Int) ^ (v % 8) % 256 = 2 ^ (v % 8) := by
  have : v % 8 = 0 ∨ v % 8 = 1 ∨ v % 8 = 2 ∨ v % 8 = 3 ∨ v % 8 = 4 ∨ v % 8 = 5 ∨ v % 8 = 6 ∨ v % 8 = 7 := by omega
  rcases this with h | h | h | h | h | h | h | h <;> rw [h] <;> decide
set_option maxHeartbeats 1000000 in
theorem addS_any (g o v : Nat) (bs : List Int) (w : World) (hv : v < 256) (hb : BAt w g o bs) :
    Calls Try.prog 63 #[.pointer (some ⟨g, o, none⟩), .int .i64 v] w fun e w' => e = .returned (.tuple #[]) ∧ ∃ q, w' = (w.setCell ⟨g, o + v / 8, none⟩ (.int .u8 ((addB bs v).getD (v / 8) 0))).drewN q := by
  obtain ⟨h1, h2, h3⟩ := hb
  obtain ⟨c0, f0⟩ := h3 (v / 8) (by omega)
  obtain ⟨x0, x1⟩ := h2.get (v / 8)
  have HX : Hid ((addB bs v).getD (v / 8) 0 = bits .or .u8 (bs.getD (v / 8) 0) (2 ^ (v % 8))) := by
    show _ = _
    unfold addB; rw [getD_set8 _ _ _ _ (by omega), if_pos rfl]
  have HM : Hid ((2 : Int) ^ (v % 8) % 256 = 2 ^ (v % 8)) := two_mod v
  have hv' : (v : Int) < 256 := by omega
  have hv8 : (v : Int) / 8 < 32 := by omega
  clear h1 h2 h3
  generalize bs.getD (v / 8) 0 = x at *
  go_enter Try.func63, Try.ntmps63
  go_region
  rw [HM.out, ← HX.out]
  go_end0
  exact ⟨rfl, 1, rfl⟩
set_option maxHeartbeats 1000000 in
theorem remS_any (g o v : Nat) (bs : List Int) (w : World) (hv : v < 256) (hb : BAt w g o bs) :
    Calls Try.prog 70 #[.pointer (some ⟨g, o, none⟩), .int .i64 v] w fun e w' => e = .returned (.tuple #[]) ∧ ∃ q, w' = (w.setCell ⟨g, o + v / 8, none⟩ (.int .u8 ((remB bs v).getD (v / 8) 0))).drewN q := by
  obtain ⟨h1, h2, h3⟩ := hb
  obtain ⟨c0, f0⟩ := h3 (v / 8) (by omega)
  obtain ⟨x0, x1⟩ := h2.get (v / 8)
  have HX : Hid ((remB bs v).getD (v / 8) 0 = bits .andNot .u8 (bs.getD (v / 8) 0) (2 ^ (v % 8))) := by
    show _ = _
    unfold remB; rw [getD_set8 _ _ _ _ (by omega), if_pos rfl]
  have HM : Hid ((2 : Int) ^ (v % 8) % 256 = 2 ^ (v % 8)) := two_mod v
  have hv' : (v : Int) < 256 := by omega
  have hv8 : (v : Int) / 8 < 32 := by omega
  clear h1 h2 h3
  generalize bs.getD (v / 8) 0 = x at *
  go_enter Try.func70, Try.ntmps70
  go_region
  rw [HM.out, ← HX.out]
  go_end0
  exact ⟨rfl, 1, rfl⟩
set_option maxHeartbeats 1000000 in
theorem hasS_any (g o : Nat) (v : Int) (bs : List Int) (P : Nat → Prop) (q : Bool) (w : World) (hb : BAt w g o bs) (hs : SetB bs P) (hq : q = true ↔ (0 ≤ v ∧ v < 256 ∧ P v.toNat)) :
    Calls Try.prog 66 #[.pointer (some ⟨g, o, none⟩), .int .i64 v] w fun e w' => e = .returned (.bool q) ∧ w' = w := by
  by_cases hv : 0 ≤ v ∧ v < 256
  · obtain ⟨h0, h1⟩ := hv
    obtain ⟨v, rfl⟩ := Int.eq_ofNat_of_zero_le h0
    obtain ⟨l1, l2, l3⟩ := hb
    obtain ⟨c0, f0⟩ := l3 (v / 8) (by omega)
    obtain ⟨x0, x1⟩ := l2.get (v / 8)
    have hbit := hs.2.2 v (by omega)
    have HSO : Hid (serOk (v : Int) = true) := decide_eq_true ⟨h0, h1⟩
    have hpp : (0 : Int) < 2 ^ (v % 8) := Int.pow_pos (by decide)
    have y0 : 0 ≤ bs.getD (v / 8) 0 / 2 ^ (v % 8) := Int.ediv_nonneg x0 (by omega)
    have y1 : bs.getD (v / 8) 0 / 2 ^ (v % 8) ≤ bs.getD (v / 8) 0 := Int.ediv_le_self _ x0
    have HA : Hid (bits .and .u8 (bs.getD (v / 8) 0 / 2 ^ (v % 8)) 1 = bs.getD (v / 8) 0 / 2 ^ (v % 8) % 2) := by
      show _ = _
      obtain ⟨y, hy⟩ := Int.eq_ofNat_of_zero_le y0
      rw [hy]
      have := u8_and_nat y 1 (by omega) (by decide)
      rw [show ((1 : Int)) = ((1 : Nat) : Int) from rfl, this, Nat.and_one_is_mod]; omega
    have HQ : Hid ((bs.getD (v / 8) 0 / 2 ^ (v % 8) % 2 == 1) = q) := by
      show _ = _
      have h2 : bs.getD (v / 8) 0 / 2 ^ (v % 8) % 2 = 0 ∨ bs.getD (v / 8) 0 / 2 ^ (v % 8) % 2 = 1 := by omega
      rcases h2 with h2 | h2
      · rw [h2]
        cases q with
        | false => rfl
        | true =>
          have := hq.1 rfl
          have := hbit.2 (by simpa using this.2.2)
          omega
      · rw [h2]
        cases q with
        | true => rfl
        | false =>
          have := hq.2 ⟨h0, h1, by simpa using hbit.1 h2⟩
          cases this
    have hv8 : (v : Int) / 8 < 32 := by omega
    clear l1 l2 l3 hbit hs hq hpp
    generalize bs.getD (v / 8) 0 = x at *
    go_enter Try.func66, Try.ntmps66
    go_wp2_with fail
    refine (isSerial_any _ _).mono ?_
    rintro e w1 ⟨rfl, rfl⟩
    rw [HSO.out]
    go_wp2
    rw [HA.out, HQ.out]
    go_ret
    exact ⟨rfl, rfl⟩
  · have HSO : Hid (serOk v = false) := decide_eq_false hv
    have HQ : Hid (q = false) := by
      show _ = _
      cases q with
      | false => rfl
      | true => exact absurd ⟨(hq.1 rfl).1, (hq.1 rfl).2.1⟩ hv
    clear hv hq hb hs
    go_enter Try.func66, Try.ntmps66
    go_wp2_with fail
    refine (isSerial_any _ _).mono ?_
    rintro e w1 ⟨rfl, rfl⟩
    rw [HSO.out]
    go_wp2
    go_ret
    exact ⟨by rw [HQ.out]; rfl, rfl⟩
end Go.Proofs.Ytmnoelfabldpfaa
