/-
  Own work: the plain mathematics of CRC-32 and how a slice of bytes reads.
-/
import Derived.Test.YtmnoelfabldpfaaRows
import Derived.WalkKit
import Derived.ProofKit
import Derived.OpenShut
import Derived.ShutString
import Derived.ChangeOld
import Derived.Below
import Derived.WalkSpells
import Derived.Deep.QuietTactic
import Derived.BigQuiet
namespace Go.Proofs.Ytmnoelfabldpfaa
open Go.ChangeShapes Go.WideShapes Go.ChangeAt Go.RowKit
set_option linter.unusedVariables false

/-- The slice with head 'a' reads as the numbers zs. -/
def At (k : IntKind) (w : World) (a : Option Addr) (zs : List Int) : Prop :=
  zs = [] ∨ ∃ b off, a = some ⟨b, off, none⟩ ∧ b < w.heap.size ∧ ∀ i, i < zs.length → w.cell? ⟨b, off + i, none⟩ = some (.int k (zs.getD i 0))

def Byte (zs : List Int) : Prop := ∀ z ∈ zs, 0 ≤ z ∧ z < 256

theorem Byte.get {zs : List Int} (h : Byte zs) (i : Nat) : 0 ≤ zs.getD i 0 ∧ zs.getD i 0 < 256 := by
  by_cases hi : i < zs.length
  · rw [List.getD_eq_getElem?_getD, List.getElem?_eq_getElem hi]; exact h _ (List.getElem_mem hi)
  · rw [List.getD_eq_getElem?_getD, List.getElem?_eq_none (by omega)]; exact ⟨by decide, by decide⟩

theorem At.get {k : IntKind} {w : World} {a : Option Addr} {zs : List Int} (h : At k w a zs) (hz : 0 < zs.length) :
    ∃ b off, a = some ⟨b, off, none⟩ ∧ b < w.heap.size ∧ ∀ i, i < zs.length → w.cell? ⟨b, off + i, none⟩ = some (.int k (zs.getD i 0)) := by
  rcases h with h | h
  · simp [h] at hz
  · exact h

theorem At.below {k : IntKind} {w w' : World} {a : Option Addr} {zs : List Int} (h : At k w a zs) (hb : Below w.heap.size w w') : At k w' a zs := by
  rcases h with h | ⟨b, off, rfl, hl, hc⟩
  · exact .inl h
  · exact .inr ⟨b, off, rfl, by have := hb.size; omega, fun i hi => by rw [hb.cell (p := ⟨b, off + i, none⟩) hl]; exact hc i hi⟩

theorem At.of_owns {k : IntKind} {w : World} {base : Nat} {e : TypeId} {v : Value} {n : Nat} {zs : List Int} (h : w.ownsRow base e 1 v n (zs.map (Value.int k))) :
    ∃ a cap, v = .slice a n cap ∧ zs.length = n ∧ n ≤ cap ∧ cap ≤ maxLen ∧ At k w a zs := by
  obtain ⟨h1, h2⟩ := h
  have hn : zs.length = n := by simpa using h1
  rcases h2 with ⟨rfl, rfl⟩ | ⟨g, cap, cur, rfl, hg, hh, hc, hm, hs, ht⟩
  · exact ⟨none, 0, rfl, hn, by simp, by simp [maxLen], .inl (List.eq_nil_of_length_eq_zero hn)⟩
  · refine ⟨_, cap, rfl, hn, hc, hm, .inr ⟨g, 0, rfl, ?_, fun i hi => ?_⟩⟩
    · exact (Array.getElem?_eq_some_iff.1 hh).1
    · have hi' : i < cur.size := by rw [hs]; omega
      have e1 : cur.toList[i]? = some (.int k (zs.getD i 0)) := by
        have : (cur.toList.take (n * 1))[i]? = (zs.map (Value.int k))[i]? := by rw [ht]
        rw [List.getElem?_take_of_lt (by omega)] at this
        rw [this]; simp [hi]
      rw [cell_of_row w g (0 + i) cur e (0, 0) hh, Nat.zero_add]
      simpa using e1

theorem ret_int {k : IntKind} {a b : Int} (h : a = b) : Ending.returned (.int k a) = .returned (.int k b) := by rw [h]

theorem take_snoc (l : List Int) (k : Nat) (h : k < l.length) : l.take (k + 1) = l.take k ++ [l.getD k 0] := by
  rw [List.take_succ_eq_append_getElem h, List.getD_eq_getElem?_getD, List.getElem?_eq_getElem h]; rfl

/-! CRC-32 -/
theorem bits_u32_bd (o : BinOp) (a b : Int) : 0 ≤ bits o .u32 a b ∧ bits o .u32 a b < 4294967296 := by
  have h : ∀ n : Int, 0 ≤ IntKind.u32.wrap n ∧ IntKind.u32.wrap n < 4294967296 := fun n => by rw [IntKind.wrap_u32]; omega
  unfold bits; cases o <;> exact h _

def bit1 (c : Int) : Int := if c % 2 = 1 then bits .xor .u32 (c / 2) 3988292384 else c / 2
def bitN (c : Int) : Nat → Int
  | 0 => c
  | k + 1 => bit1 (bitN c k)
def crcS (c x : Int) : Int := bitN (bits .xor .u32 c x) 8
def crcF (l : List Int) : Int := l.foldl crcS 4294967295
def crc (l : List Int) : Int := bits .xor .u32 (crcF l) 4294967295

def U32 (c : Int) : Prop := 0 ≤ c ∧ c < 4294967296
theorem bit1_bd {c : Int} (h : U32 c) : U32 (bit1 c) := by
  unfold bit1; split
  · exact bits_u32_bd _ _ _
  · obtain ⟨_, _⟩ := h; constructor <;> omega
theorem bitN_bd {c : Int} (h : U32 c) (k : Nat) : U32 (bitN c k) := by
  induction k with
  | zero => exact h
  | succ k ih => exact bit1_bd ih
theorem crcS_bd (c x : Int) : U32 (crcS c x) := bitN_bd (bits_u32_bd _ _ _) 8
theorem crcF_snoc (l : List Int) (x : Int) : crcF (l ++ [x]) = crcS (crcF l) x := by simp [crcF]
theorem crcF_bd (l : List Int) : U32 (crcF l) := by
  unfold crcF
  suffices h : ∀ (l : List Int) (c : Int), U32 c → U32 (l.foldl crcS c) from h l _ ⟨by decide, by decide⟩
  intro l
  induction l with
  | nil => intro c h; exact h
  | cons x l ih => intro c h; exact ih _ (crcS_bd c x)
theorem crc_bd (l : List Int) : U32 (crc l) := bits_u32_bd _ _ _

theorem and1 {c : Int} (h : U32 c) : bits .and .u32 c 1 = c % 2 := by
  obtain ⟨h0, h1⟩ := h
  obtain ⟨n, rfl⟩ := Int.eq_ofNat_of_zero_le h0
  have := u32_and_nat n 1 (by omega) (by decide)
  rw [show ((1 : Int)) = ((1 : Nat) : Int) from rfl, this, nat_mask1]; simp

end Go.Proofs.Ytmnoelfabldpfaa
namespace Go.Proofs.Ytmnoelfabldpfaa
open Go.ChangeShapes Go.WideShapes Go.ChangeAt Go.RowKit
set_option linter.unusedVariables false

/-- Block g is a row of the bytes zs. -/
def Row (w : World) (g : Nat) (e : TypeId) (zs : List Int) : Prop := w.heap[g]? = some (.cells (zs.map (Value.int .u8)).toArray e (0, 0))
/-- At most block g has turned. -/
structure Wr (g : Nat) (w w' : World) : Prop where
  os : w'.os = w.os
  tape : w'.tape = w.tape
  output : w'.output = w.output
  size : w'.heap.size = w.heap.size
  block : ∀ k, k ≠ g → w'.heap[k]? = w.heap[k]?

theorem Wr.refl (g : Nat) (w : World) : Wr g w w := ⟨rfl, rfl, rfl, rfl, fun _ _ => rfl⟩
theorem Wr.trans {g : Nat} {a b c : World} (h : Wr g a b) (k : Wr g b c) : Wr g a c :=
  ⟨k.os.trans h.os, k.tape.trans h.tape, k.output.trans h.output, k.size.trans h.size, fun i hi => (k.block i hi).trans (h.block i hi)⟩
theorem Wr.setCell {g : Nat} {a w : World} (h : Wr g a w) (o : Nat) (u : Value) : Wr g a (w.setCell ⟨g, o, none⟩ u) :=
  h.trans ⟨rfl, rfl, rfl, by simp [World.setCell], fun k hk => heap_setCell_other w _ k u hk⟩
theorem Wr.setRow (g : Nat) (w : World) (cs : Array Value) : Wr g w (w.setRow g cs) := ⟨rfl, rfl, rfl, size_setRow w g cs, fun k hk => setRow_other w g k cs hk⟩
theorem Wr.drewN {g : Nat} {a w : World} (h : Wr g a w) (n : Nat) : Wr g a (w.drewN n) := ⟨h.os, h.tape, h.output, h.size, h.block⟩
theorem Wr.drew {g : Nat} {a w : World} (h : Wr g a w) : Wr g a w.drew := ⟨h.os, h.tape, h.output, h.size, h.block⟩
theorem Wr.below {g B : Nat} {w w' : World} (h : Wr g w w') (hB : B ≤ g) : Below B w w' := ⟨h.os, h.tape, h.output, by rw [h.size]; exact Nat.le_refl _, fun k hk => h.block k (by omega)⟩
theorem Wr.row {g g' : Nat} {w w' : World} {e : TypeId} {zs : List Int} (h : Wr g w w') (hr : Row w g' e zs) (hg : g' ≠ g) : Row w' g' e zs := by
  unfold Row; rw [h.block g' hg]; exact hr

theorem Row.lt {w : World} {g : Nat} {e : TypeId} {zs : List Int} (h : Row w g e zs) : g < w.heap.size := (Array.getElem?_eq_some_iff.1 h).1
theorem Row.cell {w : World} {g : Nat} {e : TypeId} {zs : List Int} (h : Row w g e zs) (i : Nat) (hi : i < zs.length) : w.cell? ⟨g, i, none⟩ = some (.int .u8 (zs.getD i 0)) := by
  rw [cell_of_row w g i _ e _ h]; simp [hi]
theorem Row.frozen {w : World} {g : Nat} {e : TypeId} {zs : List Int} (h : Row w g e zs) (i : Nat) : w.frozen? ⟨g, i, none⟩ = false := frozen_of_row w g i _ e h
theorem Row.set {w : World} {g : Nat} {e : TypeId} {zs : List Int} (h : Row w g e zs) (i : Nat) (x : Int) : Row (w.setCell ⟨g, i, none⟩ (.int .u8 x)) g e (zs.set i x) := by
  unfold Row; rw [heap_setCell_same w g i _ e _ h]; simp [List.map_set]
theorem Row.drew {w : World} {g : Nat} {e : TypeId} {zs : List Int} (h : Row w g e zs) : Row w.drew g e zs := h
theorem Row.drewN {w : World} {g : Nat} {e : TypeId} {zs : List Int} (h : Row w g e zs) (n : Nat) : Row (w.drewN n) g e zs := h
theorem Row.at_ {w : World} {g : Nat} {e : TypeId} {zs : List Int} (h : Row w g e zs) : At .u8 w (some ⟨g, 0, none⟩) zs :=
  .inr ⟨g, 0, rfl, h.lt, fun i hi => by rw [Nat.zero_add]; exact h.cell i hi⟩
theorem Row.atTake {w : World} {g : Nat} {e : TypeId} {zs : List Int} (h : Row w g e zs) (n : Nat) : At .u8 w (some ⟨g, 0, none⟩) (zs.take n) :=
  .inr ⟨g, 0, rfl, h.lt, fun i hi => by
    have hi' : i < n ∧ i < zs.length := by simp at hi; omega
    rw [Nat.zero_add, h.cell i hi'.2]; simp [List.getD, hi'.1]⟩
end Go.Proofs.Ytmnoelfabldpfaa
namespace Go.Proofs.Ytmnoelfabldpfaa
open Go.ChangeShapes Go.WideShapes Go.ChangeAt Go.RowKit
set_option linter.unusedVariables false

/-- The first k of the four bytes of v, little-endian, from place p on. -/
def putK (zs : List Int) (p : Nat) (v : Int) : Nat → List Int
  | 0 => zs
  | k + 1 => (putK zs p v k).set (p + k) (v / 2 ^ (8 * k) % 256)
theorem putK_len (zs : List Int) (p : Nat) (v : Int) (k : Nat) : (putK zs p v k).length = zs.length := by
  induction k with
  | zero => rfl
  | succ k ih => simp [putK, ih]

set_option maxHeartbeats 400000 in
theorem setN_any (g : Nat) (t : TypeId) (p : Int) (v : Int) (zs : List Int) (w : World) (hr : Row w g t zs) (hl : zs.length = 64) (hp : 0 ≤ p) (hp' : p ≤ 60) (hv : U32 v) :
    Calls Try.prog 52 #[.pointer (some ⟨g, 0, none⟩), .int .i64 p, .int .u32 v] w fun e w' => e = .returned (.tuple #[]) ∧ Row w' g t (putK zs p.toNat v 4) ∧ Wr g w w' := by
  obtain ⟨hv0, hv1⟩ := hv
  obtain ⟨p, rfl⟩ := Int.eq_ofNat_of_zero_le hp
  go_enter Try.func52, Try.ntmps52
  go_wp2
  go_loopw [7] (fun i wr => ∃ k : Nat, k ≤ 4 ∧ i = .int .i64 k ∧ Row wr g t (putK zs p v k) ∧ Wr g w wr) (fun i _ => 4 - (intOf i).toNat)
  case atStart => exact ⟨0, by omega, rfl, hr, Wr.refl _ _⟩
  case round =>
    obtain ⟨k, hk, rfl, hrow, hwr⟩ := hrel
    by_cases hlt : k < 4
    · have hlen := putK_len zs p v k
      have hc := hrow.cell (p + k) (by omega)
      have hf := hrow.frozen (p + k)
      go_wp2
      go_region
      go_wp2
      go_roundw
      case rel => exact ⟨k + 1, by omega, by go_num, (hrow.set (p + k) _).drew, (hwr.setCell (p + k) _).drew⟩
      case measure => simp [intOf]; omega
    · have hk4 : k = 4 := by omega
      subst hk4
      go_wp2
      go_end0
      exact ⟨rfl, hrow, hwr⟩

end Go.Proofs.Ytmnoelfabldpfaa
namespace Go.Proofs.Ytmnoelfabldpfaa
open Go.ChangeShapes Go.WideShapes Go.ChangeAt Go.RowKit
set_option linter.unusedVariables false

def num4 (zs : List Int) (p : Nat) : Int := zs.getD p 0 + 256 * zs.getD (p + 1) 0 + 65536 * zs.getD (p + 2) 0 + 16777216 * zs.getD (p + 3) 0

theorem or_join (x y : Int) (i : Nat) (hx : 0 ≤ x) (hx' : x < 2 ^ i) (hy : 0 ≤ y) (hy' : y < 4294967296) (hm : y % 2 ^ i = 0) (hi : i ≤ 32) : bits .or .u32 x y = x + y := by
  obtain ⟨x, rfl⟩ := Int.eq_ofNat_of_zero_le hx
  obtain ⟨y, rfl⟩ := Int.eq_ofNat_of_zero_le hy
  have hx2 : x < 2 ^ i := by exact_mod_cast hx'
  have hm2 : y % 2 ^ i = 0 := by exact_mod_cast hm
  have hi2 : 2 ^ i ≤ 2 ^ 32 := Nat.pow_le_pow_right (by decide) hi
  rw [u32_or_nat x y (by omega) (by omega), Nat.or_comm, nat_join i y x hm2 hx2]
  omega

theorem num_bits (a b c d : Int) (ha : 0 ≤ a ∧ a < 256) (hb : 0 ≤ b ∧ b < 256) (hc : 0 ≤ c ∧ c < 256) (hd : 0 ≤ d ∧ d < 256) :
    bits .or .u32 (bits .or .u32 (bits .or .u32 a (b * 256)) (c * 65536)) (d * 16777216) = a + 256 * b + 65536 * c + 16777216 * d := by
  rw [or_join a (b * 256) 8 (by omega) (by omega) (by omega) (by omega) (by omega) (by decide),
    or_join _ (c * 65536) 16 (by omega) (by omega) (by omega) (by omega) (by omega) (by decide),
    or_join _ (d * 16777216) 24 (by omega) (by omega) (by omega) (by omega) (by omega) (by decide)]
  omega

set_option maxHeartbeats 400000 in
theorem num_any (g : Nat) (t : TypeId) (p : Int) (zs : List Int) (w : World) (hr : Row w g t zs) (hz : Byte zs) (hl : zs.length = 64) (hp : 0 ≤ p) (hp' : p ≤ 60) :
    Calls Try.prog 40 #[.pointer (some ⟨g, 0, none⟩), .int .i64 p] w fun e w' => e = .returned (.int .u32 (num4 zs p.toNat)) ∧ ∃ q, w' = w.drewN q := by
  obtain ⟨p, rfl⟩ := Int.eq_ofNat_of_zero_le hp
  have c0 := hr.cell p (by omega)
  have c1 := hr.cell (p + 1) (by omega)
  have c2 := hr.cell (p + 2) (by omega)
  have c3 := hr.cell (p + 3) (by omega)
  have b0 := hz.get p
  have b1 := hz.get (p + 1)
  have b2 := hz.get (p + 2)
  have b3 := hz.get (p + 3)
  have HN : Hid (num4 zs p = zs.getD p 0 + 256 * zs.getD (p + 1) 0 + 65536 * zs.getD (p + 2) 0 + 16777216 * zs.getD (p + 3) 0) := rfl
  generalize zs.getD p 0 = a at *
  generalize zs.getD (p + 1) 0 = b at *
  generalize zs.getD (p + 2) 0 = c at *
  generalize zs.getD (p + 3) 0 = d at *
  have HB := num_bits a b c d b0 b1 b2 b3
  have HH : Hid _ := HB
  clear HB
  obtain ⟨b01, b02⟩ := b0
  obtain ⟨b11, b12⟩ := b1
  obtain ⟨b21, b22⟩ := b2
  obtain ⟨b31, b32⟩ := b3
  go_enter Try.func40, Try.ntmps40
  go_wp2
  go_quiet (fail)
  go_wp2
  go_ret
  exact ⟨ret_int (by rw [HH.out, Int.toNat_natCast, HN.out]), nq, rfl⟩
end Go.Proofs.Ytmnoelfabldpfaa
