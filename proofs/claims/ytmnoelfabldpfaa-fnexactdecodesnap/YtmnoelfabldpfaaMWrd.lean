/-
  Own work: rows of words of 64 bits, and the arithmetic of words.
-/
import Derived.Test.YtmnoelfabldpfaaMRowB
import Derived.Deep.MidRow
import Derived.Laws.BitsAllLaws
import Derived.Deep.AppendLies
namespace Go.Proofs.Ytmnoelfabldpfaa
open Go.ChangeShapes Go.WideShapes Go.ChangeAt Go.RowKit
set_option linter.unusedVariables false

/-- Block g is a row of the words ns. -/
def RowW (w : World) (g : Nat) (e : TypeId) (ns : List Int) : Prop := w.heap[g]? = some (.cells (ns.map (Value.int .u64)).toArray e (0, 0))
theorem RowW.lt {w : World} {g : Nat} {e : TypeId} {zs : List Int} (h : RowW w g e zs) : g < w.heap.size := (Array.getElem?_eq_some_iff.1 h).1
theorem RowW.cell {w : World} {g : Nat} {e : TypeId} {zs : List Int} (h : RowW w g e zs) (i : Nat) (hi : i < zs.length) : w.cell? ⟨g, i, none⟩ = some (.int .u64 (zs.getD i 0)) := by
  rw [cell_of_row w g i _ e _ h]; simp [hi]
theorem RowW.frozen {w : World} {g : Nat} {e : TypeId} {zs : List Int} (h : RowW w g e zs) (i : Nat) : w.frozen? ⟨g, i, none⟩ = false := frozen_of_row w g i _ e h
theorem RowW.set {w : World} {g : Nat} {e : TypeId} {zs : List Int} (h : RowW w g e zs) (i : Nat) (x : Int) : RowW (w.setCell ⟨g, i, none⟩ (.int .u64 x)) g e (zs.set i x) := by
  unfold RowW; rw [heap_setCell_same w g i _ e _ h]; simp [List.map_set]
theorem RowW.drewN {w : World} {g : Nat} {e : TypeId} {zs : List Int} (h : RowW w g e zs) (n : Nat) : RowW (w.drewN n) g e zs := h
theorem Wr.rowW {g g' : Nat} {w w' : World} {e : TypeId} {zs : List Int} (h : Wr g w w') (hr : RowW w g' e zs) (hg : g' ≠ g) : RowW w' g' e zs := by
  unfold RowW; rw [h.block g' hg]; exact hr
theorem RowW.below {w w' : World} {g : Nat} {e : TypeId} {zs : List Int} {B : Nat} (h : RowW w g e zs) (hb : Below B w w') (hg : g < B) : RowW w' g e zs := by
  unfold RowW; rw [hb.block g hg]; exact h

def W64 : Int := 18446744073709551616
def Wrd (ns : List Int) : Prop := ∀ z ∈ ns, 0 ≤ z ∧ z < 18446744073709551616
theorem Wrd.get {zs : List Int} (h : Wrd zs) (i : Nat) : 0 ≤ zs.getD i 0 ∧ zs.getD i 0 < 18446744073709551616 := by
  by_cases hi : i < zs.length
  · rw [List.getD_eq_getElem?_getD, List.getElem?_eq_getElem hi]; exact h _ (List.getElem_mem hi)
  · rw [List.getD_eq_getElem?_getD, List.getElem?_eq_none (by omega)]; exact ⟨by decide, by decide⟩
theorem Wrd.set {zs : List Int} (h : Wrd zs) (i : Nat) (x : Int) (h0 : 0 ≤ x) (h1 : x < 18446744073709551616) : Wrd (zs.set i x) := by
  intro z hz
  rcases List.mem_or_eq_of_mem_set hz with h' | rfl
  · exact h z h'
  · exact ⟨h0, h1⟩

theorem u64_or_add (a b : Int) (k : Nat) (ha : 0 ≤ a) (ha' : a < 18446744073709551616) (hb : 0 ≤ b) (hb' : b < 2 ^ k) (hb'' : b < 18446744073709551616) (q : Int) (hd : a = q * 2 ^ k) : bits .or .u64 a b = a + b := by
  obtain ⟨a, rfl⟩ := Int.eq_ofNat_of_zero_le ha
  obtain ⟨b, rfl⟩ := Int.eq_ofNat_of_zero_le hb
  rw [u64_or_nat a b (by omega) (by omega)]
  have hq : 0 ≤ q := by
    have hp : (0 : Int) < 2 ^ k := Int.pow_pos (by decide)
    rcases Int.lt_or_le q 0 with h | h
    · have := Int.mul_neg_of_neg_of_pos h hp; omega
    · exact h
  obtain ⟨q, rfl⟩ := Int.eq_ofNat_of_zero_le hq
  have hd' : a = q * 2 ^ k := by exact_mod_cast hd
  have hb3 : b < 2 ^ k := by exact_mod_cast hb'
  have := Nat.shiftLeft_add_eq_or_of_lt hb3 q
  rw [Nat.shiftLeft_eq, ← hd'] at this
  rw [← this]; simp
theorem u64_and_mask (a : Int) (k : Nat) (ha : 0 ≤ a) (ha' : a < 18446744073709551616) (m : Int) (hm : m = 2 ^ k - 1) (hk : k ≤ 64) : bits .and .u64 a m = a % 2 ^ k := by
  obtain ⟨a, rfl⟩ := Int.eq_ofNat_of_zero_le ha
  have hp : 0 < 2 ^ k := Nat.pow_pos (by decide)
  have hle : 2 ^ k ≤ 2 ^ 64 := Nat.pow_le_pow_right (by decide) hk
  have e : m = ((2 ^ k - 1 : Nat) : Int) := by rw [hm]; rw [Int.ofNat_sub (by omega)]; simp
  rw [e, u64_and_nat a _ (by omega) (by omega), Nat.and_two_pow_sub_one_eq_mod]
  simp

theorem take_set_succ (ms : List Int) (k : Nat) (x : Int) (h : k < ms.length) : (ms.set k x).take (k + 1) = ms.take k ++ [x] := by
  rw [List.take_set, List.take_succ_eq_append_getElem h, List.set_append_right _ _ (by simp; omega)]
  simp [Nat.min_eq_left (Nat.le_of_lt h)]
theorem drop_set_succ (ms : List Int) (k : Nat) (x : Int) : (ms.set k x).drop (k + 1) = ms.drop (k + 1) := by
  rw [List.drop_set]; simp
theorem getD_of_drop {ms ns : List Int} {k : Nat} (h : ms.drop k = ns.drop k) : ms.getD k 0 = ns.getD k 0 := by
  have e : (ms.drop k)[0]? = (ns.drop k)[0]? := by rw [h]
  simp only [List.getElem?_drop, Nat.add_zero] at e
  rw [List.getD_eq_getElem?_getD, List.getD_eq_getElem?_getD, e]
theorem drop_succ_of {ms ns : List Int} {k : Nat} (h : ms.drop k = ns.drop k) : ms.drop (k + 1) = ns.drop (k + 1) := by
  rw [← List.drop_drop, h, List.drop_drop]
theorem val_set_succ (B : Int) (ms : List Int) (k : Nat) (x : Int) (h : k < ms.length) : val B ((ms.set k x).take (k + 1)) = val B (ms.take k) + x * B ^ k := by
  rw [take_set_succ ms k x h, val_snoc, List.length_take, Nat.min_eq_left (Nat.le_of_lt h)]

theorem sub_step (B p q z P x y b x' b' : Int) (h : p - q = z - b * P) (hx : x' - b' * B = x - y - b) : (p + x * P) - (q + y * P) = (z + x' * P) - b' * (P * B) := by
  have : (x' - b' * B) * P = (x - y - b) * P := by rw [hx]
  grind

/-- At most the old block g has turned, and there may be new ones. -/
structure WrH (g : Nat) (w w' : World) : Prop where
  os : w'.os = w.os
  tape : w'.tape = w.tape
  output : w'.output = w.output
  size : w.heap.size ≤ w'.heap.size
  block : ∀ k, k < w.heap.size → k ≠ g → w'.heap[k]? = w.heap[k]?
theorem WrH.refl (g : Nat) (w : World) : WrH g w w := ⟨rfl, rfl, rfl, Nat.le_refl _, fun _ _ _ => rfl⟩
theorem WrH.trans {g : Nat} {a b c : World} (h : WrH g a b) (k : WrH g b c) : WrH g a c :=
  ⟨k.os.trans h.os, k.tape.trans h.tape, k.output.trans h.output, Nat.le_trans h.size k.size, fun i hi hg => (k.block i (Nat.lt_of_lt_of_le hi h.size) hg).trans (h.block i hi hg)⟩
theorem Wr.wrH {g : Nat} {w w' : World} (h : Wr g w w') : WrH g w w' := ⟨h.os, h.tape, h.output, by rw [h.size]; exact Nat.le_refl _, fun k _ hg => h.block k hg⟩
theorem WrH.of_below {g : Nat} {w w' : World} (h : Below w.heap.size w w') : WrH g w w' := ⟨h.os, h.tape, h.output, h.size, fun k hk _ => h.block k hk⟩
theorem WrH.below {g : Nat} {w w' : World} (h : WrH g w w') (B : Nat) (hB : B ≤ g) (hB' : B ≤ w.heap.size) : Below B w w' := ⟨h.os, h.tape, h.output, h.size, fun k hk => h.block k (by omega) (by omega)⟩
theorem WrH.rowW {g g' : Nat} {w w' : World} {e : TypeId} {zs : List Int} (h : WrH g w w') (hr : RowW w g' e zs) (hg : g' ≠ g) : RowW w' g' e zs := by
  unfold RowW; rw [h.block g' hr.lt hg]; exact hr
theorem RowW.setRow {w : World} {g : Nat} {e : TypeId} {zs : List Int} (h : RowW w g e zs) (ns : List Int) : RowW (w.setRow g (ns.map (Value.int .u64)).toArray) g e ns := by
  unfold RowW; rw [setRow_heap _ _ _ _ _ _ h]
theorem RowW.setRow_other {w : World} {g g' : Nat} {e : TypeId} {zs : List Int} (h : RowW w g e zs) (cs : Array Value) (hg : g ≠ g') : RowW (w.setRow g' cs) g e zs := by
  unfold RowW; rw [Go.setRow_other w g' g cs hg]; exact h

/-- The model's entry for math/bits.Sub64, as a call. -/
def bor (x y b : Int) : Int := if x < y + b then 1 else 0
theorem bor_bd (x y b : Int) : 0 ≤ bor x y b ∧ bor x y b ≤ 1 := by unfold bor; split <;> omega
theorem bor_eq (x y b : Int) (hx : 0 ≤ x) (hx' : x < 18446744073709551616) (hy : 0 ≤ y) (hy' : y < 18446744073709551616) (hb : 0 ≤ b) (hb' : b ≤ 1) : (x - y - b) % 18446744073709551616 - bor x y b * 18446744073709551616 = x - y - b := by
  unfold bor; split <;> omega

theorem below_new2 (w : World) (o : Obj) : Below w.heap.size w (w.alloc o) := (Below.refl _ _).alloc (Nat.le_refl _) _
end Go.Proofs.Ytmnoelfabldpfaa
namespace Go.Proofs.Ytmnoelfabldpfaa
open Go.ChangeShapes Go.WideShapes Go.ChangeAt Go.RowKit
set_option linter.unusedVariables false

theorem Try.infoU8' : (Try.prog.info? 5).map (fun i => (i.zero, i.size, i.bytes)) = some (some (.int .u8 0), 1, 1) := by kernel_rfl

/-- The value v is a slice of the bytes zs. -/
def Part (w : World) (v : Value) (zs : List Int) : Prop :=
  ∃ b o c, v = .slice (some ⟨b, o, none⟩) zs.length c ∧ b < w.heap.size ∧ ∀ i, i < zs.length → w.cell? ⟨b, o + i, none⟩ = some (.int .u8 (zs.getD i 0))

/-- A slice of the call's own that holds the bytes zs, in a block from B on. -/
def Own (w : World) (B : Nat) (v : Value) (zs : List Int) : Prop :=
  w.ownsRow B 5 1 v zs.length (zs.map (Value.int .u8)) ∧ ∃ g c, v = .slice (some ⟨g, 0, none⟩) zs.length c

theorem Own.base {w : World} {B : Nat} {v : Value} {zs : List Int} (h : Own w B v zs) : ∃ g c, v = .slice (some ⟨g, 0, none⟩) zs.length c ∧ B ≤ g ∧ g < w.heap.size ∧ zs.length ≤ c := by
  obtain ⟨h, g, c, rfl⟩ := h
  rcases h.2 with ⟨h', _⟩ | ⟨g', c', cur, h', hb, hh, hc, _⟩
  · cases h'
  · cases h'
    exact ⟨g, c, rfl, hb, (Array.getElem?_eq_some_iff.1 hh).1, hc⟩

theorem Own.part {w : World} {B : Nat} {v : Value} {zs : List Int} (h : Own w B v zs) : Part w v zs := by
  obtain ⟨g, c, rfl, hb, hg, hc⟩ := h.base
  refine ⟨g, 0, c, rfl, hg, fun i hi => ?_⟩
  rw [Nat.zero_add, h.1.cellAt i (by omega)]; simp [hi]

theorem Part.below {w w' : World} {v : Value} {zs : List Int} (h : Part w v zs) (hb : Below w.heap.size w w') : Part w' v zs := by
  obtain ⟨b, o, c, rfl, hl, hc⟩ := h
  exact ⟨b, o, c, rfl, by have := hb.size; omega, fun i hi => by rw [hb.cell (p := ⟨b, o + i, none⟩) hl]; exact hc i hi⟩

theorem Own.empty (w : World) (B : Nat) (hB : B ≤ w.heap.size) : Own (w.alloc (.cells #[] 5)) B (.slice (some ⟨w.heap.size, 0, none⟩) 0 0) [] :=
  ⟨World.ownsRow_lit w #[] 0 hB (by simp) (by simp), _, _, rfl⟩

theorem Own.alloc {w : World} {B : Nat} {v : Value} {zs : List Int} (h : Own w B v zs) (o : Obj) : Own (w.alloc o) B v zs := ⟨h.1.alloc _, h.2⟩

/-- append of bytes to a slice of the call's own. -/
theorem wpList_app (w : World) {ops : Array Oper} {rest : List Oper} {o : Oper} {a : Act} {Q : Exit → Act → World → Prop}
    (hg : o.guard = none) (s x : Operand) (hop : o.op = Op.call { callee := Callee.builtin Builtin.append, args := #[s, x], argTypes := #[22, 22] })
    (B : Nat) (v : Value) (xs : List Int) (hs : a.eval s = v) (hown : Own w B v xs) (ad : Addr) (m c : Nat) (news : List Int) (hx : a.eval x = .slice (some ad) m c) (hl : news.length = m)
    (hnews : ∀ j, j < m → w.cell? (ad.add j) = some (.int .u8 (news.getD j 0))) (hb : xs.length + m ≤ 1099511627776) (hB : B ≤ w.heap.size)
    (hK : ∀ v' w', Own w' B v' (xs ++ news) → Below B w w' → w.grownBy w' v.ownBlock → wpList Try.prog ops Q rest (a.put o.dst v') w') :
    wpList Try.prog ops Q (o :: rest) a w := by
  obtain ⟨i0, hi, hz0, hz1, hz2⟩ := info_parts Try.infoU8'
  have hbase := hown.base
  refine wpList_append_own w hg s x 22 hop B 5 i0 (.int .u8 0) 1 1 Try.underlying22 hi hz0 hz1 hz2 rfl (by decide) v xs.length _ hs hown.1 ad m c (news.map (Value.int .u8)) hx (by simp [hl]) ?_ (ints_oneCell _ _) (by unfold maxLen; omega) (by omega) hB ?_
  · intro j u hu
    have hj : j < news.length := by have := (List.getElem?_eq_some_iff.1 hu).1; simpa using this
    rw [hnews j (by omega)]
    simp [hj] at hu; simp [hj, hu]
  · intro v' w' h1 h2 h3
    obtain ⟨g, c0, hv, hBg, _, _⟩ := hbase
    have hbel : Below B w w' := (Below.refl _ _).grown h2 hB (fun k hk => by rw [hv] at hk; simp [Value.ownBlock] at hk; omega)
    refine hK v' w' ⟨?_, ?_⟩ hbel h2
    · rw [List.map_append, List.length_append, hl]; exact h1
    · rcases h1.2 with ⟨h', _⟩ | ⟨g', c', cur, h', _⟩
      · exact absurd (h3.1 h').1 (by rw [hv]; simp)
      · exact ⟨g', c', by rw [h', List.length_append, hl]⟩
end Go.Proofs.Ytmnoelfabldpfaa
