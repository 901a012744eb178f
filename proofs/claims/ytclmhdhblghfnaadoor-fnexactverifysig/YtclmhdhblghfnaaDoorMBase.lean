/-
  Own work: the plain mathematics of CRC-32 and how a slice of bytes reads.
-/
import Derived.Test.YtclmhdhblghfnaaDoorRows
import Derived.WalkKit
import Derived.ProofKit
import Derived.OpenShut
import Derived.ShutString
import Derived.ChangeOld
import Derived.Below
import Derived.WalkSpells
import Derived.Deep.QuietTactic
import Derived.BigQuiet
namespace Go.Proofs.YtclmhdhblghfnaaDoor
open Go.ChangeShapes Go.WideShapes Go.ChangeAt Go.RowKit
set_option linter.unusedVariables false

/-- The slice with head 'a' reads as the numbers zs. -/
def At (k : IntKind) (w : World) (a : Option Addr) (zs : List Int) : Prop :=
  zs = [] ∨ ∃ b off, a = some ⟨b, off, none⟩ ∧ b < w.heap.size ∧ ∀ i, i < zs.length → w.cell? ⟨b, off + i, none⟩ = some (.int k (zs.getD i 0))

def Byte (zs : List Int) : Prop := ∀ z ∈ zs, 0 ≤ z ∧ z < 256

theorem Byte.get {zs : List Int} (h : Byte zs) (i : Nat) : 0 ≤ zs.getD i 0 ∧ zs.getD i 0 < 256 := by
  by_cases hi : i < zs.length
  · rw [List.getD_eq_getElem?_getD, List.getElem?_eq_getElem hi]; exact h _ (List.getElem_mem hi)
  · rw [List.getD_eq_getElem?_getD, List.getElem?_eq_none (by omega)]; exact ⟨by decide, by decide⟩

theorem At.get {k : IntKind} {w : World} {a : Option Addr} {zs : List Int} (h : At k w a zs) (hz : 0 < zs.length) :
    ∃ b off, a = some ⟨b, off, none⟩ ∧ b < w.heap.size ∧ ∀ i, i < zs.length → w.cell? ⟨b, off + i, none⟩ = some (.int k (zs.getD i 0)) := by
  rcases h with h | h
  · simp [h] at hz
  · exact h

theorem At.below {k : IntKind} {w w' : World} {a : Option Addr} {zs : List Int} (h : At k w a zs) (hb : Below w.heap.size w w') : At k w' a zs := by
  rcases h with h | ⟨b, off, rfl, hl, hc⟩
  · exact .inl h
  · exact .inr ⟨b, off, rfl, by have := hb.size; omega, fun i hi => by rw [hb.cell (p := ⟨b, off + i, none⟩) hl]; exact hc i hi⟩

theorem At.of_owns {k : IntKind} {w : World} {base : Nat} {e : TypeId} {v : Value} {n : Nat} {zs : List Int} (h : w.ownsRow base e 1 v n (zs.map (Value.int k))) :
    ∃ a cap, v = .slice a n cap ∧ zs.length = n ∧ n ≤ cap ∧ cap ≤ maxLen ∧ At k w a zs := by
  obtain ⟨h1, h2⟩ := h
  have hn : zs.length = n := by simpa using h1
  rcases h2 with ⟨rfl, rfl⟩ | ⟨g, cap, cur, rfl, hg, hh, hc, hm, hs, ht⟩
  · exact ⟨none, 0, rfl, hn, by simp, by simp [maxLen], .inl (List.eq_nil_of_length_eq_zero hn)⟩
  · refine ⟨_, cap, rfl, hn, hc, hm, .inr ⟨g, 0, rfl, ?_, fun i hi => ?_⟩⟩
    · exact (Array.getElem?_eq_some_iff.1 hh).1
    · have hi' : i < cur.size := by rw [hs]; omega
      have e1 : cur.toList[i]? = some (.int k (zs.getD i 0)) := by
        have : (cur.toList.take (n * 1))[i]? = (zs.map (Value.int k))[i]? := by rw [ht]
        rw [List.getElem?_take_of_lt (by omega)] at this
        rw [this]; simp [hi]
      rw [cell_of_row w g (0 + i) cur e (0, 0) hh, Nat.zero_add]
      simpa using e1

theorem ret_int {k : IntKind} {a b : Int} (h : a = b) : Ending.returned (.int k a) = .returned (.int k b) := by rw [h]

theorem take_snoc (l : List Int) (k : Nat) (h : k < l.length) : l.take (k + 1) = l.take k ++ [l.getD k 0] := by
  rw [List.take_succ_eq_append_getElem h, List.getD_eq_getElem?_getD, List.getElem?_eq_getElem h]; rfl

/-! CRC-32 -/
theorem bits_u32_bd (o : BinOp) (a b : Int) : 0 ≤ bits o .u32 a b ∧ bits o .u32 a b < 4294967296 := by
  have h : ∀ n : Int, 0 ≤ IntKind.u32.wrap n ∧ IntKind.u32.wrap n < 4294967296 := fun n => by rw [IntKind.wrap_u32]; omega
  unfold bits; cases o <;> exact h _

def bit1 (c : Int) : Int := if c % 2 = 1 then bits .xor .u32 (c / 2) 3988292384 else c / 2
def bitN (c : Int) : Nat → Int
  | 0 => c
  | k + 1 => bit1 (bitN c k)
def crcS (c x : Int) : Int := bitN (bits .xor .u32 c x) 8
def crcF (l : List Int) : Int := l.foldl crcS 4294967295
def crc (l : List Int) : Int := bits .xor .u32 (crcF l) 4294967295

def U32 (c : Int) : Prop := 0 ≤ c ∧ c < 4294967296
theorem bit1_bd {c : Int} (h : U32 c) : U32 (bit1 c) := by
  unfold bit1; split
  · exact bits_u32_bd _ _ _
  · obtain ⟨_, _⟩ := h; constructor <;> omega
theorem bitN_bd {c : Int} (h : U32 c) (k : Nat) : U32 (bitN c k) := by
  induction k with
  | zero => exact h
  | succ k ih => exact bit1_bd ih
theorem crcS_bd (c x : Int) : U32 (crcS c x) := bitN_bd (bits_u32_bd _ _ _) 8
theorem crcF_snoc (l : List Int) (x : Int) : crcF (l ++ [x]) = crcS (crcF l) x := by simp [crcF]
theorem crcF_bd (l : List Int) : U32 (crcF l) := by
  unfold crcF
  suffices h : ∀ (l : List Int) (c : Int), U32 c → U32 (l.foldl crcS c) from h l _ ⟨by decide, by decide⟩
  intro l
  induction l with
  | nil => intro c h; exact h
  | cons x l ih => intro c h; exact ih _ (crcS_bd c x)
theorem crc_bd (l : List Int) : U32 (crc l) := bits_u32_bd _ _ _

theorem and1 {c : Int} (h : U32 c) : bits .and .u32 c 1 = c % 2 := by
  obtain ⟨h0, h1⟩ := h
  obtain ⟨n, rfl⟩ := Int.eq_ofNat_of_zero_le h0
  have := u32_and_nat n 1 (by omega) (by decide)
  rw [show ((1 : Int)) = ((1 : Nat) : Int) from rfl, this, nat_mask1]; simp

end Go.Proofs.YtclmhdhblghfnaaDoor
namespace Go.Proofs.YtclmhdhblghfnaaDoor
open Go.ChangeShapes Go.WideShapes Go.ChangeAt Go.RowKit
set_option linter.unusedVariables false

/-- Block g is a row of the bytes zs. -/
def Row (w : World) (g : Nat) (e : TypeId) (zs : List Int) : Prop := w.heap[g]? = some (.cells (zs.map (Value.int .u8)).toArray e (0, 0))
/-- At most block g has turned. -/
structure Wr (g : Nat) (w w' : World) : Prop where
  os : w'.os = w.os
  tape : w'.tape = w.tape
  output : w'.output = w.output
  size : w'.heap.size = w.heap.size
  block : ∀ k, k ≠ g → w'.heap[k]? = w.heap[k]?

theorem Wr.refl (g : Nat) (w : World) : Wr g w w := ⟨rfl, rfl, rfl, rfl, fun _ _ => rfl⟩
theorem Wr.trans {g : Nat} {a b c : World} (h : Wr g a b) (k : Wr g b c) : Wr g a c :=
  ⟨k.os.trans h.os, k.tape.trans h.tape, k.output.trans h.output, k.size.trans h.size, fun i hi => (k.block i hi).trans (h.block i hi)⟩
theorem Wr.setCell {g : Nat} {a w : World} (h : Wr g a w) (o : Nat) (u : Value) : Wr g a (w.setCell ⟨g, o, none⟩ u) :=
  h.trans ⟨rfl, rfl, rfl, by simp [World.setCell], fun k hk => heap_setCell_other w _ k u hk⟩
theorem Wr.setRow (g : Nat) (w : World) (cs : Array Value) : Wr g w (w.setRow g cs) := ⟨rfl, rfl, rfl, size_setRow w g cs, fun k hk => setRow_other w g k cs hk⟩
theorem Wr.drewN {g : Nat} {a w : World} (h : Wr g a w) (n : Nat) : Wr g a (w.drewN n) := ⟨h.os, h.tape, h.output, h.size, h.block⟩
theorem Wr.drew {g : Nat} {a w : World} (h : Wr g a w) : Wr g a w.drew := ⟨h.os, h.tape, h.output, h.size, h.block⟩
theorem Wr.below {g B : Nat} {w w' : World} (h : Wr g w w') (hB : B ≤ g) : Below B w w' := ⟨h.os, h.tape, h.output, by rw [h.size]; exact Nat.le_refl _, fun k hk => h.block k (by omega)⟩
theorem Wr.row {g g' : Nat} {w w' : World} {e : TypeId} {zs : List Int} (h : Wr g w w') (hr : Row w g' e zs) (hg : g' ≠ g) : Row w' g' e zs := by
  unfold Row; rw [h.block g' hg]; exact hr

theorem Row.lt {w : World} {g : Nat} {e : TypeId} {zs : List Int} (h : Row w g e zs) : g < w.heap.size := (Array.getElem?_eq_some_iff.1 h).1
theorem Row.cell {w : World} {g : Nat} {e : TypeId} {zs : List Int} (h : Row w g e zs) (i : Nat) (hi : i < zs.length) : w.cell? ⟨g, i, none⟩ = some (.int .u8 (zs.getD i 0)) := by
  rw [cell_of_row w g i _ e _ h]; simp [hi]
theorem Row.frozen {w : World} {g : Nat} {e : TypeId} {zs : List Int} (h : Row w g e zs) (i : Nat) : w.frozen? ⟨g, i, none⟩ = false := frozen_of_row w g i _ e h
theorem Row.set {w : World} {g : Nat} {e : TypeId} {zs : List Int} (h : Row w g e zs) (i : Nat) (x : Int) : Row (w.setCell ⟨g, i, none⟩ (.int .u8 x)) g e (zs.set i x) := by
  unfold Row; rw [heap_setCell_same w g i _ e _ h]; simp [List.map_set]
theorem Row.drew {w : World} {g : Nat} {e : TypeId} {zs : List Int} (h : Row w g e zs) : Row w.drew g e zs := h
theorem Row.drewN {w : World} {g : Nat} {e : TypeId} {zs : List Int} (h : Row w g e zs) (n : Nat) : Row (w.drewN n) g e zs := h
theorem Row.at_ {w : World} {g : Nat} {e : TypeId} {zs : List Int} (h : Row w g e zs) : At .u8 w (some ⟨g, 0, none⟩) zs :=
  .inr ⟨g, 0, rfl, h.lt, fun i hi => by rw [Nat.zero_add]; exact h.cell i hi⟩
theorem Row.atTake {w : World} {g : Nat} {e : TypeId} {zs : List Int} (h : Row w g e zs) (n : Nat) : At .u8 w (some ⟨g, 0, none⟩) (zs.take n) :=
  .inr ⟨g, 0, rfl, h.lt, fun i hi => by
    have hi' : i < n ∧ i < zs.length := by simp at hi; omega
    rw [Nat.zero_add, h.cell i hi'.2]; simp [List.getD, hi'.1]⟩
end Go.Proofs.YtclmhdhblghfnaaDoor
namespace Go.Proofs.YtclmhdhblghfnaaDoor
set_option linter.unusedVariables false

def val (B : Int) : List Int → Int
  | [] => 0
  | z :: zs => z + B * val B zs
def Dig (B : Int) (zs : List Int) : Prop := ∀ z ∈ zs, 0 ≤ z ∧ z < B

theorem val_append (B : Int) (xs ys : List Int) : val B (xs ++ ys) = val B xs + B ^ xs.length * val B ys := by
  induction xs with
  | nil => simp [val]
  | cons x xs ih => simp only [List.cons_append, val, List.length_cons, ih, Int.pow_succ]; grind
theorem val_snoc (B : Int) (xs : List Int) (x : Int) : val B (xs ++ [x]) = val B xs + x * B ^ xs.length := by
  rw [val_append]; simp only [val]; grind
theorem Dig.snoc {B : Int} {xs : List Int} {x : Int} (h : Dig B xs) (h0 : 0 ≤ x) (h1 : x < B) : Dig B (xs ++ [x]) := by
  intro z hz; simp at hz; rcases hz with h' | rfl
  · exact h z h'
  · exact ⟨h0, h1⟩
theorem Dig.nil (B : Int) : Dig B [] := fun _ h => by simp at h
theorem Dig.tail {B : Int} {x : Int} {xs : List Int} (h : Dig B (x :: xs)) : Dig B xs := fun z hz => h z (by simp [hz])
theorem Dig.head {B : Int} {x : Int} {xs : List Int} (h : Dig B (x :: xs)) : 0 ≤ x ∧ x < B := h x (by simp)
theorem val_nonneg {B : Int} (hB : 0 < B) {xs : List Int} (h : Dig B xs) : 0 ≤ val B xs := by
  induction xs with
  | nil => simp [val]
  | cons x xs ih =>
    have := h.head; have i := ih h.tail
    have := Int.mul_nonneg (Int.le_of_lt hB) i
    simp only [val]; omega
theorem val_lt {B : Int} (hB : 0 < B) {xs : List Int} (h : Dig B xs) : val B xs < B ^ xs.length := by
  induction xs with
  | nil => simp [val]
  | cons x xs ih =>
    obtain ⟨h0, h1⟩ := h.head; have i := ih h.tail
    have h2 : B * (val B xs + 1) ≤ B * B ^ xs.length := Int.mul_le_mul_of_nonneg_left (by omega) (by omega)
    simp only [val, List.length_cons, Int.pow_succ]
    grind
theorem val_inj {B : Int} (hB : 0 < B) {xs ys : List Int} (hx : Dig B xs) (hy : Dig B ys) (hl : xs.length = ys.length) (h : val B xs = val B ys) : xs = ys := by
  induction xs generalizing ys with
  | nil => cases ys with
    | nil => rfl
    | cons y ys => simp at hl
  | cons x xs ih => cases ys with
    | nil => simp at hl
    | cons y ys =>
      obtain ⟨h0, h1⟩ := hx.head; obtain ⟨h2, h3⟩ := hy.head
      simp only [val] at h
      have e : x = y := by
        have a1 : (x + B * val B xs) % B = x := by rw [Int.add_mul_emod_self_left]; exact Int.emod_eq_of_lt h0 h1
        have a2 : (y + B * val B ys) % B = y := by rw [Int.add_mul_emod_self_left]; exact Int.emod_eq_of_lt h2 h3
        rw [← a1, h, a2]
      subst e
      have e2 : val B xs = val B ys := by
        have : B * val B xs = B * val B ys := by omega
        exact Int.eq_of_mul_eq_mul_left (by omega) this
      rw [ih hx.tail hy.tail (by simpa using hl) e2]
theorem val_take (B : Int) (xs : List Int) (k : Nat) (h : k < xs.length) : val B (xs.take (k+1)) = val B (xs.take k) + xs.getD k 0 * B ^ k := by
  have : xs.take (k + 1) = xs.take k ++ [xs.getD k 0] := by
    rw [List.take_succ_eq_append_getElem h, List.getD_eq_getElem?_getD, List.getElem?_eq_getElem h]; rfl
  rw [this, val_snoc, List.length_take, Nat.min_eq_left (by omega)]
/-- One digit with what is carried. -/
theorem val_carry (B P x s t c r : Int) (h : s + c * P = t) (hr : r = x * P) : (s + (x + c) % B * P) + (x + c) / B * (P * B) = t + r := by
  have e : (x + c) % B + B * ((x + c) / B) = x + c := Int.emod_add_mul_ediv _ _
  have e2 : ((x + c) % B + B * ((x + c) / B)) * P = (x + c) * P := by rw [e]
  grind
theorem val_digit {B : Int} (hB : 0 < B) {ns : List Int} (h : Dig B ns) (q : Nat) : val B ns / B ^ q % B = ns.getD q 0 := by
  induction ns generalizing q with
  | nil => simp [val]
  | cons n ns ih =>
    obtain ⟨h0, h1⟩ := h.head
    cases q with
    | zero =>
      simp only [val, Int.pow_zero, Int.ediv_one, List.getD_cons_zero]
      rw [Int.add_mul_emod_self_left]; exact Int.emod_eq_of_lt h0 h1
    | succ q =>
      have e : (n + B * val B ns) / B = val B ns := by
        rw [Int.add_mul_ediv_left _ _ (by omega), Int.ediv_eq_zero_of_lt h0 h1]; omega
      rw [List.getD_cons_succ, ← ih h.tail q]
      simp only [val]
      rw [Int.pow_succ, Int.mul_comm (B ^ q) B, ← Int.ediv_ediv_of_nonneg (by omega), e]
theorem val_set (B : Int) (ns : List Int) (q : Nat) (x : Int) (hq : q < ns.length) : val B (ns.set q x) = val B ns + (x - ns.getD q 0) * B ^ q := by
  induction ns generalizing q with
  | nil => simp at hq
  | cons n ns ih =>
    cases q with
    | zero => simp only [List.set_cons_zero, val, List.getD_cons_zero, Int.pow_zero]; omega
    | succ q =>
      simp only [List.set_cons_succ, val, List.getD_cons_succ]
      rw [ih q (by simpa using hq), Int.pow_succ]; grind
end Go.Proofs.YtclmhdhblghfnaaDoor
