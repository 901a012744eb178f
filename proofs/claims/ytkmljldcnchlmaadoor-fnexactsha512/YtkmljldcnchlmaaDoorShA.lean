/-
  Own work: turning of words, by the program and by the model (written by wip/mksha.py).
-/
import Derived.Test.YtkmljldcnchlmaaDoorWrd
import Derived.Test.YtkmljldcnchlmaaDoorBase
namespace Go.Proofs.YtkmljldcnchlmaaDoor
open Go.ChangeShapes Go.WideShapes Go.ChangeAt Go.RowKit
set_option linter.unusedVariables false

/-- x turned right by n bits. -/
def rtr (n : Nat) (x : Int) : Int := bits .or .u64 (x / 2 ^ n) (IntKind.u64.wrap (x * 2 ^ (64 - n)))
theorem bor_comm (x y : Int) : bits .or .u64 x y = bits .or .u64 y x := by
  show IntKind.u64.wrap ((BitVec.ofInt 64 x ||| BitVec.ofInt 64 y).toNat : Int) = IntKind.u64.wrap ((BitVec.ofInt 64 y ||| BitVec.ofInt 64 x).toNat : Int)
  rw [BitVec.or_comm]
def U64 (x : Int) : Prop := 0 ≤ x ∧ x < 18446744073709551616
theorem u64_wrap (n : Int) : U64 (IntKind.u64.wrap n) := by unfold U64; rw [IntKind.wrap_u64]; omega
theorem bits_u64 (o : BinOp) (x y : Int) : U64 (bits o .u64 x y) := by unfold bits; cases o <;> exact u64_wrap _
theorem rtr_u64 (n : Nat) (x : Int) : U64 (rtr n x) := bits_u64 _ _ _
def rotN : List Nat := [1, 8, 19, 61, 28, 34, 39, 14, 18, 41]
theorem and63 : ∀ n ∈ rotN, bits .and .u64 (18446744073709551616 - (n : Int)) 63 = 64 - (n : Int) := by decide +kernel
set_option maxHeartbeats 400000 in
theorem rotI_any (x : Int) (n : Nat) (w : World) (hn : n ∈ rotN) (hx : U64 x) :
    Calls Tryd.prog 36 #[.int .u64 x, .int .i64 n] w fun e w' => e = .returned (.int .u64 (rtr n x)) ∧ w' = w := by
  have hb : 1 ≤ n ∧ n ≤ 63 := by
    simp only [rotN, List.mem_cons, List.not_mem_nil, or_false] at hn
    omega
  have h63 := and63 n hn
  obtain ⟨hx0, hx1⟩ := hx
  have hr : Calls Tryd.prog 37 #[.int .u64 x, .int .i64 (-(n : Int))] w fun e w' => e = .returned (.int .u64 (rtr n x)) ∧ w' = w := by
    have hw : IntKind.u64.wrap (-(n : Int)) = 18446744073709551616 - (n : Int) := by rw [IntKind.wrap_u64]; omega
    have HE : Hid (bits .or .u64 (IntKind.u64.wrap (x * 2 ^ (64 - n))) (x / 2 ^ (64 - (64 - n))) = rtr n x) := by
      show _ = _
      rw [bor_comm, show 64 - (64 - n) = n by omega]; rfl
    go_enter Tryd.func37, Tryd.ntmps37
    go_wp2
    go_ret
    exact ⟨ret_int HE.out, rfl⟩
  go_enter Tryd.func36, Tryd.ntmps36
  go_wp2_with fail
  refine hr.mono ?_
  rintro e w1 ⟨rfl, rfl⟩
  go_wp2
  go_ret
  exact ⟨rfl, rfl⟩
set_option maxHeartbeats 400000 in
theorem rotS_any (x : Int) (n : Nat) (w : World) (hn : n ∈ rotN) (hx : U64 x) :
    Calls Tryd.prog 22 #[.int .u64 x, .int .u64 n] w fun e w' => e = .returned (.int .u64 (rtr n x)) ∧ w' = w := by
  have hb : 1 ≤ n ∧ n ≤ 63 := by
    simp only [rotN, List.mem_cons, List.not_mem_nil, or_false] at hn
    omega
  obtain ⟨hx0, hx1⟩ := hx
  go_enter Tryd.func22, Tryd.ntmps22
  go_wp2
  go_ret
  exact ⟨rfl, rfl⟩
def sg0 (x : Int) : Int := bits .xor .u64 (bits .xor .u64 (rtr 1 x) (rtr 8 x)) (x / 128)
def sg1 (x : Int) : Int := bits .xor .u64 (bits .xor .u64 (rtr 19 x) (rtr 61 x)) (x / 64)
def bg0 (x : Int) : Int := bits .xor .u64 (bits .xor .u64 (rtr 28 x) (rtr 34 x)) (rtr 39 x)
def bg1 (x : Int) : Int := bits .xor .u64 (bits .xor .u64 (rtr 14 x) (rtr 18 x)) (rtr 41 x)
theorem sg0_u64 (x : Int) : U64 (sg0 x) := bits_u64 _ _ _
theorem sg1_u64 (x : Int) : U64 (sg1 x) := bits_u64 _ _ _
theorem bg0_u64 (x : Int) : U64 (bg0 x) := bits_u64 _ _ _
theorem bg1_u64 (x : Int) : U64 (bg1 x) := bits_u64 _ _ _
theorem hid_ofS {p : Prop} (h : p) : Hid p := h
set_option maxHeartbeats 400000 in
theorem s0_any (x : Int) (w : World) (hx : U64 x) :
    Calls Tryd.prog 31 #[.int .u64 x] w fun e w' => e = .returned (.int .u64 (sg0 x)) ∧ w' = w := by
  have HX : Hid (U64 x) := hx
  have HD : Hid (sg0 x = bits .xor .u64 (bits .xor .u64 (rtr 1 x) (rtr 8 x)) (x / 128)) := rfl
  obtain ⟨hx0, hx1⟩ := hx
  have C1 := hid_ofS (rotI_any x 1 w (by decide) HX.out)
  have C8 := hid_ofS (rotI_any x 8 w (by decide) HX.out)
  go_enter Tryd.func31, Tryd.ntmps31
  go_wp2_with fail
  refine C1.out.mono ?_
  rintro e w1 ⟨rfl, hw1⟩
  subst w1
  obtain ⟨r1, hr1⟩ : ∃ r, rtr 1 x = r := ⟨_, rfl⟩
  have u1 : U64 r1 := by rw [← hr1]; exact rtr_u64 _ _
  rw [hr1] at HD ⊢
  obtain ⟨u10, u11⟩ := u1
  clear hr1 C1
  go_wp2_with fail
  refine C8.out.mono ?_
  rintro e w8 ⟨rfl, hw8⟩
  subst w8
  obtain ⟨r8, hr8⟩ : ∃ r, rtr 8 x = r := ⟨_, rfl⟩
  have u8 : U64 r8 := by rw [← hr8]; exact rtr_u64 _ _
  rw [hr8] at HD ⊢
  obtain ⟨u80, u81⟩ := u8
  clear hr8 C8
  go_wp2
  go_ret
  exact ⟨ret_int HD.out.symm, rfl⟩
set_option maxHeartbeats 400000 in
theorem s1_any (x : Int) (w : World) (hx : U64 x) :
    Calls Tryd.prog 30 #[.int .u64 x] w fun e w' => e = .returned (.int .u64 (sg1 x)) ∧ w' = w := by
  have HX : Hid (U64 x) := hx
  have HD : Hid (sg1 x = bits .xor .u64 (bits .xor .u64 (rtr 19 x) (rtr 61 x)) (x / 64)) := rfl
  obtain ⟨hx0, hx1⟩ := hx
  have C19 := hid_ofS (rotI_any x 19 w (by decide) HX.out)
  have C61 := hid_ofS (rotI_any x 61 w (by decide) HX.out)
  go_enter Tryd.func30, Tryd.ntmps30
  go_wp2_with fail
  refine C19.out.mono ?_
  rintro e w19 ⟨rfl, hw19⟩
  subst w19
  obtain ⟨r19, hr19⟩ : ∃ r, rtr 19 x = r := ⟨_, rfl⟩
  have u19 : U64 r19 := by rw [← hr19]; exact rtr_u64 _ _
  rw [hr19] at HD ⊢
  obtain ⟨u190, u191⟩ := u19
  clear hr19 C19
  go_wp2_with fail
  refine C61.out.mono ?_
  rintro e w61 ⟨rfl, hw61⟩
  subst w61
  obtain ⟨r61, hr61⟩ : ∃ r, rtr 61 x = r := ⟨_, rfl⟩
  have u61 : U64 r61 := by rw [← hr61]; exact rtr_u64 _ _
  rw [hr61] at HD ⊢
  obtain ⟨u610, u611⟩ := u61
  clear hr61 C61
  go_wp2
  go_ret
  exact ⟨ret_int HD.out.symm, rfl⟩
set_option maxHeartbeats 400000 in
theorem b0_any (x : Int) (w : World) (hx : U64 x) :
    Calls Tryd.prog 33 #[.int .u64 x] w fun e w' => e = .returned (.int .u64 (bg0 x)) ∧ w' = w := by
  have HX : Hid (U64 x) := hx
  have HD : Hid (bg0 x = bits .xor .u64 (bits .xor .u64 (rtr 28 x) (rtr 34 x)) (rtr 39 x)) := rfl
  obtain ⟨hx0, hx1⟩ := hx
  have C28 := hid_ofS (rotI_any x 28 w (by decide) HX.out)
  have C34 := hid_ofS (rotI_any x 34 w (by decide) HX.out)
  have C39 := hid_ofS (rotI_any x 39 w (by decide) HX.out)
  go_enter Tryd.func33, Tryd.ntmps33
  go_wp2_with fail
  refine C28.out.mono ?_
  rintro e w28 ⟨rfl, hw28⟩
  subst w28
  obtain ⟨r28, hr28⟩ : ∃ r, rtr 28 x = r := ⟨_, rfl⟩
  have u28 : U64 r28 := by rw [← hr28]; exact rtr_u64 _ _
  rw [hr28] at HD ⊢
  obtain ⟨u280, u281⟩ := u28
  clear hr28 C28
  go_wp2_with fail
  refine C34.out.mono ?_
  rintro e w34 ⟨rfl, hw34⟩
  subst w34
  obtain ⟨r34, hr34⟩ : ∃ r, rtr 34 x = r := ⟨_, rfl⟩
  have u34 : U64 r34 := by rw [← hr34]; exact rtr_u64 _ _
  rw [hr34] at HD ⊢
  obtain ⟨u340, u341⟩ := u34
  clear hr34 C34
  go_wp2_with fail
  refine C39.out.mono ?_
  rintro e w39 ⟨rfl, hw39⟩
  subst w39
  obtain ⟨r39, hr39⟩ : ∃ r, rtr 39 x = r := ⟨_, rfl⟩
  have u39 : U64 r39 := by rw [← hr39]; exact rtr_u64 _ _
  rw [hr39] at HD ⊢
  obtain ⟨u390, u391⟩ := u39
  clear hr39 C39
  go_wp2
  go_ret
  exact ⟨ret_int HD.out.symm, rfl⟩
set_option maxHeartbeats 400000 in
theorem b1_any (x : Int) (w : World) (hx : U64 x) :
    Calls Tryd.prog 32 #[.int .u64 x] w fun e w' => e = .returned (.int .u64 (bg1 x)) ∧ w' = w := by
  have HX : Hid (U64 x) := hx
  have HD : Hid (bg1 x = bits .xor .u64 (bits .xor .u64 (rtr 14 x) (rtr 18 x)) (rtr 41 x)) := rfl
  obtain ⟨hx0, hx1⟩ := hx
  have C14 := hid_ofS (rotI_any x 14 w (by decide) HX.out)
  have C18 := hid_ofS (rotI_any x 18 w (by decide) HX.out)
  have C41 := hid_ofS (rotI_any x 41 w (by decide) HX.out)
  go_enter Tryd.func32, Tryd.ntmps32
  go_wp2_with fail
  refine C14.out.mono ?_
  rintro e w14 ⟨rfl, hw14⟩
  subst w14
  obtain ⟨r14, hr14⟩ : ∃ r, rtr 14 x = r := ⟨_, rfl⟩
  have u14 : U64 r14 := by rw [← hr14]; exact rtr_u64 _ _
  rw [hr14] at HD ⊢
  obtain ⟨u140, u141⟩ := u14
  clear hr14 C14
  go_wp2_with fail
  refine C18.out.mono ?_
  rintro e w18 ⟨rfl, hw18⟩
  subst w18
  obtain ⟨r18, hr18⟩ : ∃ r, rtr 18 x = r := ⟨_, rfl⟩
  have u18 : U64 r18 := by rw [← hr18]; exact rtr_u64 _ _
  rw [hr18] at HD ⊢
  obtain ⟨u180, u181⟩ := u18
  clear hr18 C18
  go_wp2_with fail
  refine C41.out.mono ?_
  rintro e w41 ⟨rfl, hw41⟩
  subst w41
  obtain ⟨r41, hr41⟩ : ∃ r, rtr 41 x = r := ⟨_, rfl⟩
  have u41 : U64 r41 := by rw [← hr41]; exact rtr_u64 _ _
  rw [hr41] at HD ⊢
  obtain ⟨u410, u411⟩ := u41
  clear hr41 C41
  go_wp2
  go_ret
  exact ⟨ret_int HD.out.symm, rfl⟩
end Go.Proofs.YtkmljldcnchlmaaDoor
