/-
  Own work: the plain mathematics of CRC-32 and how a slice of bytes reads.
-/
import Derived.Test.YtiignammhieidaaRows
import Derived.WalkKit
import Derived.ProofKit
import Derived.OpenShut
import Derived.ShutString
import Derived.ChangeOld
import Derived.Below
import Derived.WalkSpells
import Derived.Deep.QuietTactic
import Derived.BigQuiet
namespace Go.Proofs.Ytiignammhieidaa
open Go.ChangeShapes Go.WideShapes Go.ChangeAt Go.RowKit
set_option linter.unusedVariables false

/-- The slice with head 'a' reads as the numbers zs. -/
def At (k : IntKind) (w : World) (a : Option Addr) (zs : List Int) : Prop :=
  zs = [] ∨ ∃ b off, a = some ⟨b, off, none⟩ ∧ b < w.heap.size ∧ ∀ i, i < zs.length → w.cell? ⟨b, off + i, none⟩ = some (.int k (zs.getD i 0))

def Byte (zs : List Int) : Prop := ∀ z ∈ zs, 0 ≤ z ∧ z < 256

theorem Byte.get {zs : List Int} (h : Byte zs) (i : Nat) : 0 ≤ zs.getD i 0 ∧ zs.getD i 0 < 256 := by
  by_cases hi : i < zs.length
  · rw [List.getD_eq_getElem?_getD, List.getElem?_eq_getElem hi]; exact h _ (List.getElem_mem hi)
  · rw [List.getD_eq_getElem?_getD, List.getElem?_eq_none (by omega)]; exact ⟨by decide, by decide⟩

theorem At.get {k : IntKind} {w : World} {a : Option Addr} {zs : List Int} (h : At k w a zs) (hz : 0 < zs.length) :
    ∃ b off, a = some ⟨b, off, none⟩ ∧ b < w.heap.size ∧ ∀ i, i < zs.length → w.cell? ⟨b, off + i, none⟩ = some (.int k (zs.getD i 0)) := by
  rcases h with h | h
  · simp [h] at hz
  · exact h

theorem At.below {k : IntKind} {w w' : World} {a : Option Addr} {zs : List Int} (h : At k w a zs) (hb : Below w.heap.size w w') : At k w' a zs := by
  rcases h with h | ⟨b, off, rfl, hl, hc⟩
  · exact .inl h
  · exact .inr ⟨b, off, rfl, by have := hb.size; omega, fun i hi => by rw [hb.cell (p := ⟨b, off + i, none⟩) hl]; exact hc i hi⟩

theorem At.of_owns {k : IntKind} {w : World} {base : Nat} {e : TypeId} {v : Value} {n : Nat} {zs : List Int} (h : w.ownsRow base e 1 v n (zs.map (Value.int k))) :
    ∃ a cap, v = .slice a n cap ∧ zs.length = n ∧ n ≤ cap ∧ cap ≤ maxLen ∧ At k w a zs := by
  obtain ⟨h1, h2⟩ := h
  have hn : zs.length = n := by simpa using h1
  rcases h2 with ⟨rfl, rfl⟩ | ⟨g, cap, cur, rfl, hg, hh, hc, hm, hs, ht⟩
  · exact ⟨none, 0, rfl, hn, by simp, by simp [maxLen], .inl (List.eq_nil_of_length_eq_zero hn)⟩
  · refine ⟨_, cap, rfl, hn, hc, hm, .inr ⟨g, 0, rfl, ?_, fun i hi => ?_⟩⟩
    · exact (Array.getElem?_eq_some_iff.1 hh).1
    · have hi' : i < cur.size := by rw [hs]; omega
      have e1 : cur.toList[i]? = some (.int k (zs.getD i 0)) := by
        have : (cur.toList.take (n * 1))[i]? = (zs.map (Value.int k))[i]? := by rw [ht]
        rw [List.getElem?_take_of_lt (by omega)] at this
        rw [this]; simp [hi]
      rw [cell_of_row w g (0 + i) cur e (0, 0) hh, Nat.zero_add]
      simpa using e1

theorem ret_int {k : IntKind} {a b : Int} (h : a = b) : Ending.returned (.int k a) = .returned (.int k b) := by rw [h]

theorem take_snoc (l : List Int) (k : Nat) (h : k < l.length) : l.take (k + 1) = l.take k ++ [l.getD k 0] := by
  rw [List.take_succ_eq_append_getElem h, List.getD_eq_getElem?_getD, List.getElem?_eq_getElem h]; rfl

/-! CRC-32 -/
theorem bits_u32_bd (o : BinOp) (a b : Int) : 0 ≤ bits o .u32 a b ∧ bits o .u32 a b < 4294967296 := by
  have h : ∀ n : Int, 0 ≤ IntKind.u32.wrap n ∧ IntKind.u32.wrap n < 4294967296 := fun n => by rw [IntKind.wrap_u32]; omega
  unfold bits; cases o <;> exact h _

def bit1 (c : Int) : Int := if c % 2 = 1 then bits .xor .u32 (c / 2) 3988292384 else c / 2
def bitN (c : Int) : Nat → Int
  | 0 => c
  | k + 1 => bit1 (bitN c k)
def crcS (c x : Int) : Int := bitN (bits .xor .u32 c x) 8
def crcF (l : List Int) : Int := l.foldl crcS 4294967295
def crc (l : List Int) : Int := bits .xor .u32 (crcF l) 4294967295

def U32 (c : Int) : Prop := 0 ≤ c ∧ c < 4294967296
theorem bit1_bd {c : Int} (h : U32 c) : U32 (bit1 c) := by
  unfold bit1; split
  · exact bits_u32_bd _ _ _
  · obtain ⟨_, _⟩ := h; constructor <;> omega
theorem bitN_bd {c : Int} (h : U32 c) (k : Nat) : U32 (bitN c k) := by
  induction k with
  | zero => exact h
  | succ k ih => exact bit1_bd ih
theorem crcS_bd (c x : Int) : U32 (crcS c x) := bitN_bd (bits_u32_bd _ _ _) 8
theorem crcF_snoc (l : List Int) (x : Int) : crcF (l ++ [x]) = crcS (crcF l) x := by simp [crcF]
theorem crcF_bd (l : List Int) : U32 (crcF l) := by
  unfold crcF
  suffices h : ∀ (l : List Int) (c : Int), U32 c → U32 (l.foldl crcS c) from h l _ ⟨by decide, by decide⟩
  intro l
  induction l with
  | nil => intro c h; exact h
  | cons x l ih => intro c h; exact ih _ (crcS_bd c x)
theorem crc_bd (l : List Int) : U32 (crc l) := bits_u32_bd _ _ _

theorem and1 {c : Int} (h : U32 c) : bits .and .u32 c 1 = c % 2 := by
  obtain ⟨h0, h1⟩ := h
  obtain ⟨n, rfl⟩ := Int.eq_ofNat_of_zero_le h0
  have := u32_and_nat n 1 (by omega) (by decide)
  rw [show ((1 : Int)) = ((1 : Nat) : Int) from rfl, this, nat_mask1]; simp

end Go.Proofs.Ytiignammhieidaa
