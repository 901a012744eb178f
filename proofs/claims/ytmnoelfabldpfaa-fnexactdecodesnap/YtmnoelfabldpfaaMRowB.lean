/-
  Own work: rows of bytes in memory.
-/
import Derived.Test.YtmnoelfabldpfaaBase
import Derived.Test.YtmnoelfabldpfaaRows
namespace Go.Proofs.Ytmnoelfabldpfaa
open Go.ChangeShapes Go.WideShapes Go.ChangeAt Go.RowKit
set_option linter.unusedVariables false

/-- Block g is a row of the bytes zs. -/
def Row (w : World) (g : Nat) (e : TypeId) (zs : List Int) : Prop := w.heap[g]? = some (.cells (zs.map (Value.int .u8)).toArray e (0, 0))
/-- At most block g has turned. -/
structure Wr (g : Nat) (w w' : World) : Prop where
  os : w'.os = w.os
  tape : w'.tape = w.tape
  output : w'.output = w.output
  size : w'.heap.size = w.heap.size
  block : ∀ k, k ≠ g → w'.heap[k]? = w.heap[k]?

theorem Wr.refl (g : Nat) (w : World) : Wr g w w := ⟨rfl, rfl, rfl, rfl, fun _ _ => rfl⟩
theorem Wr.trans {g : Nat} {a b c : World} (h : Wr g a b) (k : Wr g b c) : Wr g a c :=
  ⟨k.os.trans h.os, k.tape.trans h.tape, k.output.trans h.output, k.size.trans h.size, fun i hi => (k.block i hi).trans (h.block i hi)⟩
theorem Wr.setCell {g : Nat} {a w : World} (h : Wr g a w) (o : Nat) (u : Value) : Wr g a (w.setCell ⟨g, o, none⟩ u) :=
  h.trans ⟨rfl, rfl, rfl, by simp [World.setCell], fun k hk => heap_setCell_other w _ k u hk⟩
theorem Wr.setRow (g : Nat) (w : World) (cs : Array Value) : Wr g w (w.setRow g cs) := ⟨rfl, rfl, rfl, size_setRow w g cs, fun k hk => setRow_other w g k cs hk⟩
theorem Wr.drewN {g : Nat} {a w : World} (h : Wr g a w) (n : Nat) : Wr g a (w.drewN n) := ⟨h.os, h.tape, h.output, h.size, h.block⟩
theorem Wr.drew {g : Nat} {a w : World} (h : Wr g a w) : Wr g a w.drew := ⟨h.os, h.tape, h.output, h.size, h.block⟩
theorem Wr.below {g B : Nat} {w w' : World} (h : Wr g w w') (hB : B ≤ g) : Below B w w' := ⟨h.os, h.tape, h.output, by rw [h.size]; exact Nat.le_refl _, fun k hk => h.block k (by omega)⟩
theorem Wr.row {g g' : Nat} {w w' : World} {e : TypeId} {zs : List Int} (h : Wr g w w') (hr : Row w g' e zs) (hg : g' ≠ g) : Row w' g' e zs := by
  unfold Row; rw [h.block g' hg]; exact hr

theorem Row.lt {w : World} {g : Nat} {e : TypeId} {zs : List Int} (h : Row w g e zs) : g < w.heap.size := (Array.getElem?_eq_some_iff.1 h).1
theorem Row.cell {w : World} {g : Nat} {e : TypeId} {zs : List Int} (h : Row w g e zs) (i : Nat) (hi : i < zs.length) : w.cell? ⟨g, i, none⟩ = some (.int .u8 (zs.getD i 0)) := by
  rw [cell_of_row w g i _ e _ h]; simp [hi]
theorem Row.frozen {w : World} {g : Nat} {e : TypeId} {zs : List Int} (h : Row w g e zs) (i : Nat) : w.frozen? ⟨g, i, none⟩ = false := frozen_of_row w g i _ e h
theorem Row.set {w : World} {g : Nat} {e : TypeId} {zs : List Int} (h : Row w g e zs) (i : Nat) (x : Int) : Row (w.setCell ⟨g, i, none⟩ (.int .u8 x)) g e (zs.set i x) := by
  unfold Row; rw [heap_setCell_same w g i _ e _ h]; simp [List.map_set]
theorem Row.drew {w : World} {g : Nat} {e : TypeId} {zs : List Int} (h : Row w g e zs) : Row w.drew g e zs := h
theorem Row.drewN {w : World} {g : Nat} {e : TypeId} {zs : List Int} (h : Row w g e zs) (n : Nat) : Row (w.drewN n) g e zs := h
theorem Row.at_ {w : World} {g : Nat} {e : TypeId} {zs : List Int} (h : Row w g e zs) : At .u8 w (some ⟨g, 0, none⟩) zs :=
  .inr ⟨g, 0, rfl, h.lt, fun i hi => by rw [Nat.zero_add]; exact h.cell i hi⟩
theorem Row.atTake {w : World} {g : Nat} {e : TypeId} {zs : List Int} (h : Row w g e zs) (n : Nat) : At .u8 w (some ⟨g, 0, none⟩) (zs.take n) :=
  .inr ⟨g, 0, rfl, h.lt, fun i hi => by
    have hi' : i < n ∧ i < zs.length := by simp at hi; omega
    rw [Nat.zero_add, h.cell i hi'.2]; simp [List.getD, hi'.1]⟩
end Go.Proofs.Ytmnoelfabldpfaa
namespace Go.Proofs.Ytmnoelfabldpfaa
open Go.ChangeShapes Go.WideShapes Go.ChangeAt Go.RowKit
set_option linter.unusedVariables false

/-- The first k of the four bytes of v, little-endian, from place p on. -/
def putK (zs : List Int) (p : Nat) (v : Int) : Nat → List Int
  | 0 => zs
  | k + 1 => (putK zs p v k).set (p + k) (v / 2 ^ (8 * k) % 256)
theorem putK_len (zs : List Int) (p : Nat) (v : Int) (k : Nat) : (putK zs p v k).length = zs.length := by
  induction k with
  | zero => rfl
  | succ k ih => simp [putK, ih]

set_option maxHeartbeats 400000 in
theorem setN_any (g : Nat) (t : TypeId) (p : Int) (v : Int) (zs : List Int) (w : World) (hr : Row w g t zs) (hl : zs.length = 64) (hp : 0 ≤ p) (hp' : p ≤ 60) (hv : U32 v) :
    Calls Try.prog 52 #[.pointer (some ⟨g, 0, none⟩), .int .i64 p, .int .u32 v] w fun e w' => e = .returned (.tuple #[]) ∧ Row w' g t (putK zs p.toNat v 4) ∧ Wr g w w' := by
  obtain ⟨hv0, hv1⟩ := hv
  obtain ⟨p, rfl⟩ := Int.eq_ofNat_of_zero_le hp
  go_enter Try.func52, Try.ntmps52
  go_wp2
  go_loopw [7] (fun i wr => ∃ k : Nat, k ≤ 4 ∧ i = .int .i64 k ∧ Row wr g t (putK zs p v k) ∧ Wr g w wr) (fun i _ => 4 - (intOf i).toNat)
  case atStart => exact ⟨0, by omega, rfl, hr, Wr.refl _ _⟩
  case round =>
    obtain ⟨k, hk, rfl, hrow, hwr⟩ := hrel
    by_cases hlt : k < 4
    · have hlen := putK_len zs p v k
      have hc := hrow.cell (p + k) (by omega)
      have hf := hrow.frozen (p + k)
      go_wp2
      go_region
      go_wp2
      go_roundw
      case rel => exact ⟨k + 1, by omega, by go_num, (hrow.set (p + k) _).drew, (hwr.setCell (p + k) _).drew⟩
      case measure => simp [intOf]; omega
    · have hk4 : k = 4 := by omega
      subst hk4
      go_wp2
      go_end0
      exact ⟨rfl, hrow, hwr⟩

end Go.Proofs.Ytmnoelfabldpfaa
namespace Go.Proofs.Ytmnoelfabldpfaa
open Go.ChangeShapes Go.WideShapes Go.ChangeAt Go.RowKit
set_option linter.unusedVariables false

def num4 (zs : List Int) (p : Nat) : Int := zs.getD p 0 + 256 * zs.getD (p + 1) 0 + 65536 * zs.getD (p + 2) 0 + 16777216 * zs.getD (p + 3) 0

theorem or_join (x y : Int) (i : Nat) (hx : 0 ≤ x) (hx' : x < 2 ^ i) (hy : 0 ≤ y) (hy' : y < 4294967296) (hm : y % 2 ^ i = 0) (hi : i ≤ 32) : bits .or .u32 x y = x + y := by
  obtain ⟨x, rfl⟩ := Int.eq_ofNat_of_zero_le hx
  obtain ⟨y, rfl⟩ := Int.eq_ofNat_of_zero_le hy
  have hx2 : x < 2 ^ i := by exact_mod_cast hx'
  have hm2 : y % 2 ^ i = 0 := by exact_mod_cast hm
  have hi2 : 2 ^ i ≤ 2 ^ 32 := Nat.pow_le_pow_right (by decide) hi
  rw [u32_or_nat x y (by omega) (by omega), Nat.or_comm, nat_join i y x hm2 hx2]
  omega

theorem num_bits (a b c d : Int) (ha : 0 ≤ a ∧ a < 256) (hb : 0 ≤ b ∧ b < 256) (hc : 0 ≤ c ∧ c < 256) (hd : 0 ≤ d ∧ d < 256) :
    bits .or .u32 (bits .or .u32 (bits .or .u32 a (b * 256)) (c * 65536)) (d * 16777216) = a + 256 * b + 65536 * c + 16777216 * d := by
  rw [or_join a (b * 256) 8 (by omega) (by omega) (by omega) (by omega) (by omega) (by decide),
    or_join _ (c * 65536) 16 (by omega) (by omega) (by omega) (by omega) (by omega) (by decide),
    or_join _ (d * 16777216) 24 (by omega) (by omega) (by omega) (by omega) (by omega) (by decide)]
  omega

set_option maxHeartbeats 400000 in
theorem num_any (g : Nat) (t : TypeId) (p : Int) (zs : List Int) (w : World) (hr : Row w g t zs) (hz : Byte zs) (hl : zs.length = 64) (hp : 0 ≤ p) (hp' : p ≤ 60) :
    Calls Try.prog 40 #[.pointer (some ⟨g, 0, none⟩), .int .i64 p] w fun e w' => e = .returned (.int .u32 (num4 zs p.toNat)) ∧ ∃ q, w' = w.drewN q := by
  obtain ⟨p, rfl⟩ := Int.eq_ofNat_of_zero_le hp
  have c0 := hr.cell p (by omega)
  have c1 := hr.cell (p + 1) (by omega)
  have c2 := hr.cell (p + 2) (by omega)
  have c3 := hr.cell (p + 3) (by omega)
  have b0 := hz.get p
  have b1 := hz.get (p + 1)
  have b2 := hz.get (p + 2)
  have b3 := hz.get (p + 3)
  have HN : Hid (num4 zs p = zs.getD p 0 + 256 * zs.getD (p + 1) 0 + 65536 * zs.getD (p + 2) 0 + 16777216 * zs.getD (p + 3) 0) := rfl
  generalize zs.getD p 0 = a at *
  generalize zs.getD (p + 1) 0 = b at *
  generalize zs.getD (p + 2) 0 = c at *
  generalize zs.getD (p + 3) 0 = d at *
  have HB := num_bits a b c d b0 b1 b2 b3
  have HH : Hid _ := HB
  clear HB
  obtain ⟨b01, b02⟩ := b0
  obtain ⟨b11, b12⟩ := b1
  obtain ⟨b21, b22⟩ := b2
  obtain ⟨b31, b32⟩ := b3
  go_enter Try.func40, Try.ntmps40
  go_wp2
  go_quiet (fail)
  go_wp2
  go_ret
  exact ⟨ret_int (by rw [HH.out, Int.toNat_natCast, HN.out]), nq, rfl⟩
end Go.Proofs.Ytmnoelfabldpfaa
namespace Go.Proofs.Ytmnoelfabldpfaa
set_option linter.unusedVariables false

def val (B : Int) : List Int → Int
  | [] => 0
  | z :: zs => z + B * val B zs
def Dig (B : Int) (zs : List Int) : Prop := ∀ z ∈ zs, 0 ≤ z ∧ z < B

theorem val_append (B : Int) (xs ys : List Int) : val B (xs ++ ys) = val B xs + B ^ xs.length * val B ys := by
  induction xs with
  | nil => simp [val]
  | cons x xs ih => simp only [List.cons_append, val, List.length_cons, ih, Int.pow_succ]; grind
theorem val_snoc (B : Int) (xs : List Int) (x : Int) : val B (xs ++ [x]) = val B xs + x * B ^ xs.length := by
  rw [val_append]; simp only [val]; grind
theorem Dig.snoc {B : Int} {xs : List Int} {x : Int} (h : Dig B xs) (h0 : 0 ≤ x) (h1 : x < B) : Dig B (xs ++ [x]) := by
  intro z hz; simp at hz; rcases hz with h' | rfl
  · exact h z h'
  · exact ⟨h0, h1⟩
theorem Dig.nil (B : Int) : Dig B [] := fun _ h => by simp at h
theorem Dig.tail {B : Int} {x : Int} {xs : List Int} (h : Dig B (x :: xs)) : Dig B xs := fun z hz => h z (by simp [hz])
theorem Dig.head {B : Int} {x : Int} {xs : List Int} (h : Dig B (x :: xs)) : 0 ≤ x ∧ x < B := h x (by simp)
theorem val_nonneg {B : Int} (hB : 0 < B) {xs : List Int} (h : Dig B xs) : 0 ≤ val B xs := by
  induction xs with
  | nil => simp [val]
  | cons x xs ih =>
    have := h.head; have i := ih h.tail
    have := Int.mul_nonneg (Int.le_of_lt hB) i
    simp only [val]; omega
theorem val_lt {B : Int} (hB : 0 < B) {xs : List Int} (h : Dig B xs) : val B xs < B ^ xs.length := by
  induction xs with
  | nil => simp [val]
  | cons x xs ih =>
    obtain ⟨h0, h1⟩ := h.head; have i := ih h.tail
    have h2 : B * (val B xs + 1) ≤ B * B ^ xs.length := Int.mul_le_mul_of_nonneg_left (by omega) (by omega)
    simp only [val, List.length_cons, Int.pow_succ]
    grind
theorem val_inj {B : Int} (hB : 0 < B) {xs ys : List Int} (hx : Dig B xs) (hy : Dig B ys) (hl : xs.length = ys.length) (h : val B xs = val B ys) : xs = ys := by
  induction xs generalizing ys with
  | nil => cases ys with
    | nil => rfl
    | cons y ys => simp at hl
  | cons x xs ih => cases ys with
    | nil => simp at hl
    | cons y ys =>
      obtain ⟨h0, h1⟩ := hx.head; obtain ⟨h2, h3⟩ := hy.head
      simp only [val] at h
      have e : x = y := by
        have a1 : (x + B * val B xs) % B = x := by rw [Int.add_mul_emod_self_left]; exact Int.emod_eq_of_lt h0 h1
        have a2 : (y + B * val B ys) % B = y := by rw [Int.add_mul_emod_self_left]; exact Int.emod_eq_of_lt h2 h3
        rw [← a1, h, a2]
      subst e
      have e2 : val B xs = val B ys := by
        have : B * val B xs = B * val B ys := by omega
        exact Int.eq_of_mul_eq_mul_left (by omega) this
      rw [ih hx.tail hy.tail (by simpa using hl) e2]
theorem val_take (B : Int) (xs : List Int) (k : Nat) (h : k < xs.length) : val B (xs.take (k+1)) = val B (xs.take k) + xs.getD k 0 * B ^ k := by
  have : xs.take (k + 1) = xs.take k ++ [xs.getD k 0] := by
    rw [List.take_succ_eq_append_getElem h, List.getD_eq_getElem?_getD, List.getElem?_eq_getElem h]; rfl
  rw [this, val_snoc, List.length_take, Nat.min_eq_left (by omega)]
/-- One digit with what is carried. -/
theorem val_carry (B P x s t c r : Int) (h : s + c * P = t) (hr : r = x * P) : (s + (x + c) % B * P) + (x + c) / B * (P * B) = t + r := by
  have e : (x + c) % B + B * ((x + c) / B) = x + c := Int.emod_add_mul_ediv _ _
  have e2 : ((x + c) % B + B * ((x + c) / B)) * P = (x + c) * P := by rw [e]
  grind
theorem val_digit {B : Int} (hB : 0 < B) {ns : List Int} (h : Dig B ns) (q : Nat) : val B ns / B ^ q % B = ns.getD q 0 := by
  induction ns generalizing q with
  | nil => simp [val]
  | cons n ns ih =>
    obtain ⟨h0, h1⟩ := h.head
    cases q with
    | zero =>
      simp only [val, Int.pow_zero, Int.ediv_one, List.getD_cons_zero]
      rw [Int.add_mul_emod_self_left]; exact Int.emod_eq_of_lt h0 h1
    | succ q =>
      have e : (n + B * val B ns) / B = val B ns := by
        rw [Int.add_mul_ediv_left _ _ (by omega), Int.ediv_eq_zero_of_lt h0 h1]; omega
      rw [List.getD_cons_succ, ← ih h.tail q]
      simp only [val]
      rw [Int.pow_succ, Int.mul_comm (B ^ q) B, ← Int.ediv_ediv_of_nonneg (by omega), e]
theorem val_set (B : Int) (ns : List Int) (q : Nat) (x : Int) (hq : q < ns.length) : val B (ns.set q x) = val B ns + (x - ns.getD q 0) * B ^ q := by
  induction ns generalizing q with
  | nil => simp at hq
  | cons n ns ih =>
    cases q with
    | zero => simp only [List.set_cons_zero, val, List.getD_cons_zero, Int.pow_zero]; omega
    | succ q =>
      simp only [List.set_cons_succ, val, List.getD_cons_succ]
      rw [ih q (by simpa using hq), Int.pow_succ]; grind
end Go.Proofs.Ytmnoelfabldpfaa
