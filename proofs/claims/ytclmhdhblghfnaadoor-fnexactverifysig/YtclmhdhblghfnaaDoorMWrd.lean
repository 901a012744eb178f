/-
  Own work: rows of words of 64 bits, and the arithmetic of words.
-/
import Derived.Test.YtclmhdhblghfnaaDoorMBase
import Derived.Deep.MidRow
import Derived.Laws.BitsAllLaws
namespace Go.Proofs.YtclmhdhblghfnaaDoor
open Go.ChangeShapes Go.WideShapes Go.ChangeAt Go.RowKit
set_option linter.unusedVariables false

/-- Block g is a row of the words ns. -/
def RowW (w : World) (g : Nat) (e : TypeId) (ns : List Int) : Prop := w.heap[g]? = some (.cells (ns.map (Value.int .u64)).toArray e (0, 0))
theorem RowW.lt {w : World} {g : Nat} {e : TypeId} {zs : List Int} (h : RowW w g e zs) : g < w.heap.size := (Array.getElem?_eq_some_iff.1 h).1
theorem RowW.cell {w : World} {g : Nat} {e : TypeId} {zs : List Int} (h : RowW w g e zs) (i : Nat) (hi : i < zs.length) : w.cell? ⟨g, i, none⟩ = some (.int .u64 (zs.getD i 0)) := by
  rw [cell_of_row w g i _ e _ h]; simp [hi]
theorem RowW.frozen {w : World} {g : Nat} {e : TypeId} {zs : List Int} (h : RowW w g e zs) (i : Nat) : w.frozen? ⟨g, i, none⟩ = false := frozen_of_row w g i _ e h
theorem RowW.set {w : World} {g : Nat} {e : TypeId} {zs : List Int} (h : RowW w g e zs) (i : Nat) (x : Int) : RowW (w.setCell ⟨g, i, none⟩ (.int .u64 x)) g e (zs.set i x) := by
  unfold RowW; rw [heap_setCell_same w g i _ e _ h]; simp [List.map_set]
theorem RowW.drewN {w : World} {g : Nat} {e : TypeId} {zs : List Int} (h : RowW w g e zs) (n : Nat) : RowW (w.drewN n) g e zs := h
theorem Wr.rowW {g g' : Nat} {w w' : World} {e : TypeId} {zs : List Int} (h : Wr g w w') (hr : RowW w g' e zs) (hg : g' ≠ g) : RowW w' g' e zs := by
  unfold RowW; rw [h.block g' hg]; exact hr
theorem RowW.below {w w' : World} {g : Nat} {e : TypeId} {zs : List Int} {B : Nat} (h : RowW w g e zs) (hb : Below B w w') (hg : g < B) : RowW w' g e zs := by
  unfold RowW; rw [hb.block g hg]; exact h

def W64 : Int := 18446744073709551616
def Wrd (ns : List Int) : Prop := ∀ z ∈ ns, 0 ≤ z ∧ z < 18446744073709551616
theorem Wrd.get {zs : List Int} (h : Wrd zs) (i : Nat) : 0 ≤ zs.getD i 0 ∧ zs.getD i 0 < 18446744073709551616 := by
  by_cases hi : i < zs.length
  · rw [List.getD_eq_getElem?_getD, List.getElem?_eq_getElem hi]; exact h _ (List.getElem_mem hi)
  · rw [List.getD_eq_getElem?_getD, List.getElem?_eq_none (by omega)]; exact ⟨by decide, by decide⟩
theorem Wrd.set {zs : List Int} (h : Wrd zs) (i : Nat) (x : Int) (h0 : 0 ≤ x) (h1 : x < 18446744073709551616) : Wrd (zs.set i x) := by
  intro z hz
  rcases List.mem_or_eq_of_mem_set hz with h' | rfl
  · exact h z h'
  · exact ⟨h0, h1⟩

theorem u64_or_add (a b : Int) (k : Nat) (ha : 0 ≤ a) (ha' : a < 18446744073709551616) (hb : 0 ≤ b) (hb' : b < 2 ^ k) (hb'' : b < 18446744073709551616) (q : Int) (hd : a = q * 2 ^ k) : bits .or .u64 a b = a + b := by
  obtain ⟨a, rfl⟩ := Int.eq_ofNat_of_zero_le ha
  obtain ⟨b, rfl⟩ := Int.eq_ofNat_of_zero_le hb
  rw [u64_or_nat a b (by omega) (by omega)]
  have hq : 0 ≤ q := by
    have hp : (0 : Int) < 2 ^ k := Int.pow_pos (by decide)
    rcases Int.lt_or_le q 0 with h | h
    · have := Int.mul_neg_of_neg_of_pos h hp; omega
    · exact h
  obtain ⟨q, rfl⟩ := Int.eq_ofNat_of_zero_le hq
  have hd' : a = q * 2 ^ k := by exact_mod_cast hd
  have hb3 : b < 2 ^ k := by exact_mod_cast hb'
  have := Nat.shiftLeft_add_eq_or_of_lt hb3 q
  rw [Nat.shiftLeft_eq, ← hd'] at this
  rw [← this]; simp
theorem u64_and_mask (a : Int) (k : Nat) (ha : 0 ≤ a) (ha' : a < 18446744073709551616) (m : Int) (hm : m = 2 ^ k - 1) (hk : k ≤ 64) : bits .and .u64 a m = a % 2 ^ k := by
  obtain ⟨a, rfl⟩ := Int.eq_ofNat_of_zero_le ha
  have hp : 0 < 2 ^ k := Nat.pow_pos (by decide)
  have hle : 2 ^ k ≤ 2 ^ 64 := Nat.pow_le_pow_right (by decide) hk
  have e : m = ((2 ^ k - 1 : Nat) : Int) := by rw [hm]; rw [Int.ofNat_sub (by omega)]; simp
  rw [e, u64_and_nat a _ (by omega) (by omega), Nat.and_two_pow_sub_one_eq_mod]
  simp

theorem take_set_succ (ms : List Int) (k : Nat) (x : Int) (h : k < ms.length) : (ms.set k x).take (k + 1) = ms.take k ++ [x] := by
  rw [List.take_set, List.take_succ_eq_append_getElem h, List.set_append_right _ _ (by simp; omega)]
  simp [Nat.min_eq_left (Nat.le_of_lt h)]
theorem drop_set_succ (ms : List Int) (k : Nat) (x : Int) : (ms.set k x).drop (k + 1) = ms.drop (k + 1) := by
  rw [List.drop_set]; simp
theorem getD_of_drop {ms ns : List Int} {k : Nat} (h : ms.drop k = ns.drop k) : ms.getD k 0 = ns.getD k 0 := by
  have e : (ms.drop k)[0]? = (ns.drop k)[0]? := by rw [h]
  simp only [List.getElem?_drop, Nat.add_zero] at e
  rw [List.getD_eq_getElem?_getD, List.getD_eq_getElem?_getD, e]
theorem drop_succ_of {ms ns : List Int} {k : Nat} (h : ms.drop k = ns.drop k) : ms.drop (k + 1) = ns.drop (k + 1) := by
  rw [← List.drop_drop, h, List.drop_drop]
theorem val_set_succ (B : Int) (ms : List Int) (k : Nat) (x : Int) (h : k < ms.length) : val B ((ms.set k x).take (k + 1)) = val B (ms.take k) + x * B ^ k := by
  rw [take_set_succ ms k x h, val_snoc, List.length_take, Nat.min_eq_left (Nat.le_of_lt h)]

theorem sub_step (B p q z P x y b x' b' : Int) (h : p - q = z - b * P) (hx : x' - b' * B = x - y - b) : (p + x * P) - (q + y * P) = (z + x' * P) - b' * (P * B) := by
  have : (x' - b' * B) * P = (x - y - b) * P := by rw [hx]
  grind

/-- At most the old block g has turned, and there may be new ones. -/
structure WrH (g : Nat) (w w' : World) : Prop where
  os : w'.os = w.os
  tape : w'.tape = w.tape
  output : w'.output = w.output
  size : w.heap.size ≤ w'.heap.size
  block : ∀ k, k < w.heap.size → k ≠ g → w'.heap[k]? = w.heap[k]?
theorem WrH.refl (g : Nat) (w : World) : WrH g w w := ⟨rfl, rfl, rfl, Nat.le_refl _, fun _ _ _ => rfl⟩
theorem WrH.trans {g : Nat} {a b c : World} (h : WrH g a b) (k : WrH g b c) : WrH g a c :=
  ⟨k.os.trans h.os, k.tape.trans h.tape, k.output.trans h.output, Nat.le_trans h.size k.size, fun i hi hg => (k.block i (Nat.lt_of_lt_of_le hi h.size) hg).trans (h.block i hi hg)⟩
theorem Wr.wrH {g : Nat} {w w' : World} (h : Wr g w w') : WrH g w w' := ⟨h.os, h.tape, h.output, by rw [h.size]; exact Nat.le_refl _, fun k _ hg => h.block k hg⟩
theorem WrH.of_below {g : Nat} {w w' : World} (h : Below w.heap.size w w') : WrH g w w' := ⟨h.os, h.tape, h.output, h.size, fun k hk _ => h.block k hk⟩
theorem WrH.below {g : Nat} {w w' : World} (h : WrH g w w') (B : Nat) (hB : B ≤ g) (hB' : B ≤ w.heap.size) : Below B w w' := ⟨h.os, h.tape, h.output, h.size, fun k hk => h.block k (by omega) (by omega)⟩
theorem WrH.rowW {g g' : Nat} {w w' : World} {e : TypeId} {zs : List Int} (h : WrH g w w') (hr : RowW w g' e zs) (hg : g' ≠ g) : RowW w' g' e zs := by
  unfold RowW; rw [h.block g' hr.lt hg]; exact hr
theorem RowW.setRow {w : World} {g : Nat} {e : TypeId} {zs : List Int} (h : RowW w g e zs) (ns : List Int) : RowW (w.setRow g (ns.map (Value.int .u64)).toArray) g e ns := by
  unfold RowW; rw [setRow_heap _ _ _ _ _ _ h]
theorem RowW.setRow_other {w : World} {g g' : Nat} {e : TypeId} {zs : List Int} (h : RowW w g e zs) (cs : Array Value) (hg : g ≠ g') : RowW (w.setRow g' cs) g e zs := by
  unfold RowW; rw [Go.setRow_other w g' g cs hg]; exact h

/-- The model's entry for math/bits.Sub64, as a call. -/
def bor (x y b : Int) : Int := if x < y + b then 1 else 0
theorem bor_bd (x y b : Int) : 0 ≤ bor x y b ∧ bor x y b ≤ 1 := by unfold bor; split <;> omega
theorem bor_eq (x y b : Int) (hx : 0 ≤ x) (hx' : x < 18446744073709551616) (hy : 0 ≤ y) (hy' : y < 18446744073709551616) (hb : 0 ≤ b) (hb' : b ≤ 1) : (x - y - b) % 18446744073709551616 - bor x y b * 18446744073709551616 = x - y - b := by
  unfold bor; split <;> omega

theorem below_new2 (w : World) (o : Obj) : Below w.heap.size w (w.alloc o) := (Below.refl _ _).alloc (Nat.le_refl _) _
end Go.Proofs.YtclmhdhblghfnaaDoor
namespace Go.Proofs.YtclmhdhblghfnaaDoor
open Go.ChangeShapes Go.WideShapes Go.ChangeAt Go.RowKit
set_option linter.unusedVariables false

/-- x turned right by n bits. -/
def rtr (n : Nat) (x : Int) : Int := bits .or .u64 (x / 2 ^ n) (IntKind.u64.wrap (x * 2 ^ (64 - n)))
theorem bor_comm (x y : Int) : bits .or .u64 x y = bits .or .u64 y x := by
  show IntKind.u64.wrap ((BitVec.ofInt 64 x ||| BitVec.ofInt 64 y).toNat : Int) = IntKind.u64.wrap ((BitVec.ofInt 64 y ||| BitVec.ofInt 64 x).toNat : Int)
  rw [BitVec.or_comm]
def U64 (x : Int) : Prop := 0 ≤ x ∧ x < 18446744073709551616
theorem u64_wrap (n : Int) : U64 (IntKind.u64.wrap n) := by unfold U64; rw [IntKind.wrap_u64]; omega
theorem bits_u64 (o : BinOp) (x y : Int) : U64 (bits o .u64 x y) := by unfold bits; cases o <;> exact u64_wrap _
theorem rtr_u64 (n : Nat) (x : Int) : U64 (rtr n x) := bits_u64 _ _ _
def rotN : List Nat := [1, 8, 19, 61, 28, 34, 39, 14, 18, 41]
theorem and63 : ∀ n ∈ rotN, bits .and .u64 (18446744073709551616 - (n : Int)) 63 = 64 - (n : Int) := by decide +kernel
set_option maxHeartbeats 400000 in
theorem rotI_any (x : Int) (n : Nat) (w : World) (hn : n ∈ rotN) (hx : U64 x) :
    Calls Tryd.prog 98 #[.int .u64 x, .int .i64 n] w fun e w' => e = .returned (.int .u64 (rtr n x)) ∧ w' = w := by
  have hb : 1 ≤ n ∧ n ≤ 63 := by
    simp only [rotN, List.mem_cons, List.not_mem_nil, or_false] at hn
    omega
  have h63 := and63 n hn
  obtain ⟨hx0, hx1⟩ := hx
  have hr : Calls Tryd.prog 99 #[.int .u64 x, .int .i64 (-(n : Int))] w fun e w' => e = .returned (.int .u64 (rtr n x)) ∧ w' = w := by
    have hw : IntKind.u64.wrap (-(n : Int)) = 18446744073709551616 - (n : Int) := by rw [IntKind.wrap_u64]; omega
    have HE : Hid (bits .or .u64 (IntKind.u64.wrap (x * 2 ^ (64 - n))) (x / 2 ^ (64 - (64 - n))) = rtr n x) := by
      show _ = _
      rw [bor_comm, show 64 - (64 - n) = n by omega]; rfl
    go_enter Tryd.func99, Tryd.ntmps99
    go_wp2
    go_ret
    exact ⟨ret_int HE.out, rfl⟩
  go_enter Tryd.func98, Tryd.ntmps98
  go_wp2_with fail
  refine hr.mono ?_
  rintro e w1 ⟨rfl, rfl⟩
  go_wp2
  go_ret
  exact ⟨rfl, rfl⟩
set_option maxHeartbeats 400000 in
theorem rotS_any (x : Int) (n : Nat) (w : World) (hn : n ∈ rotN) (hx : U64 x) :
    Calls Tryd.prog 70 #[.int .u64 x, .int .u64 n] w fun e w' => e = .returned (.int .u64 (rtr n x)) ∧ w' = w := by
  have hb : 1 ≤ n ∧ n ≤ 63 := by
    simp only [rotN, List.mem_cons, List.not_mem_nil, or_false] at hn
    omega
  obtain ⟨hx0, hx1⟩ := hx
  go_enter Tryd.func70, Tryd.ntmps70
  go_wp2
  go_ret
  exact ⟨rfl, rfl⟩
def sg0 (x : Int) : Int := bits .xor .u64 (bits .xor .u64 (rtr 1 x) (rtr 8 x)) (x / 128)
def sg1 (x : Int) : Int := bits .xor .u64 (bits .xor .u64 (rtr 19 x) (rtr 61 x)) (x / 64)
def bg0 (x : Int) : Int := bits .xor .u64 (bits .xor .u64 (rtr 28 x) (rtr 34 x)) (rtr 39 x)
def bg1 (x : Int) : Int := bits .xor .u64 (bits .xor .u64 (rtr 14 x) (rtr 18 x)) (rtr 41 x)
theorem sg0_u64 (x : Int) : U64 (sg0 x) := bits_u64 _ _ _
theorem sg1_u64 (x : Int) : U64 (sg1 x) := bits_u64 _ _ _
theorem bg0_u64 (x : Int) : U64 (bg0 x) := bits_u64 _ _ _
theorem bg1_u64 (x : Int) : U64 (bg1 x) := bits_u64 _ _ _
theorem hid_ofS {p : Prop} (h : p) : Hid p := h
set_option maxHeartbeats 400000 in
theorem s0_any (x : Int) (w : World) (hx : U64 x) :
    Calls Tryd.prog 93 #[.int .u64 x] w fun e w' => e = .returned (.int .u64 (sg0 x)) ∧ w' = w := by
  have HX : Hid (U64 x) := hx
  have HD : Hid (sg0 x = bits .xor .u64 (bits .xor .u64 (rtr 1 x) (rtr 8 x)) (x / 128)) := rfl
  obtain ⟨hx0, hx1⟩ := hx
  have C1 := hid_ofS (rotI_any x 1 w (by decide) HX.out)
  have C8 := hid_ofS (rotI_any x 8 w (by decide) HX.out)
  go_enter Tryd.func93, Tryd.ntmps93
  go_wp2_with fail
  refine C1.out.mono ?_
  rintro e w1 ⟨rfl, hw1⟩
  subst w1
  obtain ⟨r1, hr1⟩ : ∃ r, rtr 1 x = r := ⟨_, rfl⟩
  have u1 : U64 r1 := by rw [← hr1]; exact rtr_u64 _ _
  rw [hr1] at HD ⊢
  obtain ⟨u10, u11⟩ := u1
  clear hr1 C1
  go_wp2_with fail
  refine C8.out.mono ?_
  rintro e w8 ⟨rfl, hw8⟩
  subst w8
  obtain ⟨r8, hr8⟩ : ∃ r, rtr 8 x = r := ⟨_, rfl⟩
  have u8 : U64 r8 := by rw [← hr8]; exact rtr_u64 _ _
  rw [hr8] at HD ⊢
  obtain ⟨u80, u81⟩ := u8
  clear hr8 C8
  go_wp2
  go_ret
  exact ⟨ret_int HD.out.symm, rfl⟩
set_option maxHeartbeats 400000 in
theorem s1_any (x : Int) (w : World) (hx : U64 x) :
    Calls Tryd.prog 92 #[.int .u64 x] w fun e w' => e = .returned (.int .u64 (sg1 x)) ∧ w' = w := by
  have HX : Hid (U64 x) := hx
  have HD : Hid (sg1 x = bits .xor .u64 (bits .xor .u64 (rtr 19 x) (rtr 61 x)) (x / 64)) := rfl
  obtain ⟨hx0, hx1⟩ := hx
  have C19 := hid_ofS (rotI_any x 19 w (by decide) HX.out)
  have C61 := hid_ofS (rotI_any x 61 w (by decide) HX.out)
  go_enter Tryd.func92, Tryd.ntmps92
  go_wp2_with fail
  refine C19.out.mono ?_
  rintro e w19 ⟨rfl, hw19⟩
  subst w19
  obtain ⟨r19, hr19⟩ : ∃ r, rtr 19 x = r := ⟨_, rfl⟩
  have u19 : U64 r19 := by rw [← hr19]; exact rtr_u64 _ _
  rw [hr19] at HD ⊢
  obtain ⟨u190, u191⟩ := u19
  clear hr19 C19
  go_wp2_with fail
  refine C61.out.mono ?_
  rintro e w61 ⟨rfl, hw61⟩
  subst w61
  obtain ⟨r61, hr61⟩ : ∃ r, rtr 61 x = r := ⟨_, rfl⟩
  have u61 : U64 r61 := by rw [← hr61]; exact rtr_u64 _ _
  rw [hr61] at HD ⊢
  obtain ⟨u610, u611⟩ := u61
  clear hr61 C61
  go_wp2
  go_ret
  exact ⟨ret_int HD.out.symm, rfl⟩
set_option maxHeartbeats 400000 in
theorem b0_any (x : Int) (w : World) (hx : U64 x) :
    Calls Tryd.prog 95 #[.int .u64 x] w fun e w' => e = .returned (.int .u64 (bg0 x)) ∧ w' = w := by
  have HX : Hid (U64 x) := hx
  have HD : Hid (bg0 x = bits .xor .u64 (bits .xor .u64 (rtr 28 x) (rtr 34 x)) (rtr 39 x)) := rfl
  obtain ⟨hx0, hx1⟩ := hx
  have C28 := hid_ofS (rotI_any x 28 w (by decide) HX.out)
  have C34 := hid_ofS (rotI_any x 34 w (by decide) HX.out)
  have C39 := hid_ofS (rotI_any x 39 w (by decide) HX.out)
  go_enter Tryd.func95, Tryd.ntmps95
  go_wp2_with fail
  refine C28.out.mono ?_
  rintro e w28 ⟨rfl, hw28⟩
  subst w28
  obtain ⟨r28, hr28⟩ : ∃ r, rtr 28 x = r := ⟨_, rfl⟩
  have u28 : U64 r28 := by rw [← hr28]; exact rtr_u64 _ _
  rw [hr28] at HD ⊢
  obtain ⟨u280, u281⟩ := u28
  clear hr28 C28
  go_wp2_with fail
  refine C34.out.mono ?_
  rintro e w34 ⟨rfl, hw34⟩
  subst w34
  obtain ⟨r34, hr34⟩ : ∃ r, rtr 34 x = r := ⟨_, rfl⟩
  have u34 : U64 r34 := by rw [← hr34]; exact rtr_u64 _ _
  rw [hr34] at HD ⊢
  obtain ⟨u340, u341⟩ := u34
  clear hr34 C34
  go_wp2_with fail
  refine C39.out.mono ?_
  rintro e w39 ⟨rfl, hw39⟩
  subst w39
  obtain ⟨r39, hr39⟩ : ∃ r, rtr 39 x = r := ⟨_, rfl⟩
  have u39 : U64 r39 := by rw [← hr39]; exact rtr_u64 _ _
  rw [hr39] at HD ⊢
  obtain ⟨u390, u391⟩ := u39
  clear hr39 C39
  go_wp2
  go_ret
  exact ⟨ret_int HD.out.symm, rfl⟩
set_option maxHeartbeats 400000 in
theorem b1_any (x : Int) (w : World) (hx : U64 x) :
    Calls Tryd.prog 94 #[.int .u64 x] w fun e w' => e = .returned (.int .u64 (bg1 x)) ∧ w' = w := by
  have HX : Hid (U64 x) := hx
  have HD : Hid (bg1 x = bits .xor .u64 (bits .xor .u64 (rtr 14 x) (rtr 18 x)) (rtr 41 x)) := rfl
  obtain ⟨hx0, hx1⟩ := hx
  have C14 := hid_ofS (rotI_any x 14 w (by decide) HX.out)
  have C18 := hid_ofS (rotI_any x 18 w (by decide) HX.out)
  have C41 := hid_ofS (rotI_any x 41 w (by decide) HX.out)
  go_enter Tryd.func94, Tryd.ntmps94
  go_wp2_with fail
  refine C14.out.mono ?_
  rintro e w14 ⟨rfl, hw14⟩
  subst w14
  obtain ⟨r14, hr14⟩ : ∃ r, rtr 14 x = r := ⟨_, rfl⟩
  have u14 : U64 r14 := by rw [← hr14]; exact rtr_u64 _ _
  rw [hr14] at HD ⊢
  obtain ⟨u140, u141⟩ := u14
  clear hr14 C14
  go_wp2_with fail
  refine C18.out.mono ?_
  rintro e w18 ⟨rfl, hw18⟩
  subst w18
  obtain ⟨r18, hr18⟩ : ∃ r, rtr 18 x = r := ⟨_, rfl⟩
  have u18 : U64 r18 := by rw [← hr18]; exact rtr_u64 _ _
  rw [hr18] at HD ⊢
  obtain ⟨u180, u181⟩ := u18
  clear hr18 C18
  go_wp2_with fail
  refine C41.out.mono ?_
  rintro e w41 ⟨rfl, hw41⟩
  subst w41
  obtain ⟨r41, hr41⟩ : ∃ r, rtr 41 x = r := ⟨_, rfl⟩
  have u41 : U64 r41 := by rw [← hr41]; exact rtr_u64 _ _
  rw [hr41] at HD ⊢
  obtain ⟨u410, u411⟩ := u41
  clear hr41 C41
  go_wp2
  go_ret
  exact ⟨ret_int HD.out.symm, rfl⟩
end Go.Proofs.YtclmhdhblghfnaaDoor
