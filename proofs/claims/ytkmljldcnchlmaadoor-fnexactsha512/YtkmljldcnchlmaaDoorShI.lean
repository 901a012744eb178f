/-
  Own work: the words' text, by the program.
-/
import Derived.Test.YtkmljldcnchlmaaDoorShH
import Derived.OwnWalk
namespace Go.Proofs.YtkmljldcnchlmaaDoor
open Go.ChangeShapes Go.WideShapes Go.ChangeAt Go.RowKit
set_option linter.unusedVariables false

/-- The bytes of words. -/
def txtW (hs : List Int) : List Int := hs.flatMap by8
theorem txtW_snoc (hs : List Int) (k : Nat) (h : k < hs.length) : txtW (hs.take (k + 1)) = txtW (hs.take k) ++ by8 (hs.getD k 0) := by
  unfold txtW; rw [take_snocI hs k h, List.flatMap_append]; simp
theorem by8_take (v : Int) (i : Nat) (h : i < 8) : (by8 v).take (i + 1) = (by8 v).take i ++ [v / 2 ^ (56 - 8 * i) % 256] := by
  rw [take_snocI _ _ (by rw [by8_len]; exact h), by8_get v i h]
theorem txtW_len (hs : List Int) : (txtW hs).length = 8 * hs.length := by
  unfold txtW
  induction hs with
  | nil => rfl
  | cons a l ih => rw [List.flatMap_cons, List.length_append, by8_len, ih, List.length_cons]; omega
theorem txtW_byte (hs : List Int) : Byte (txtW hs) := fun z hz => by
  unfold txtW at hz
  obtain ⟨v, _, h⟩ := List.mem_flatMap.1 hz
  exact by8_byte v z h

set_option maxRecDepth 100000 in
set_option maxHeartbeats 2000000 in
theorem textI_any (g : Nat) (hs : List Int) (w : World) (hr : RowW w g 33 hs) (h8 : W8 hs) :
    Calls Tryd.prog 18 #[.pointer (some ⟨g, 0, none⟩)] w fun e w' => ∃ v, e = .returned v ∧ Own w' w.heap.size v (txtW hs) ∧ Below w.heap.size w w' := by
  have hgl := hr.lt
  have HR := hid_ofS hr
  have H8 := hid_ofS h8
  clear hr h8
  obtain ⟨i0, hi, hz0, hz1, hz2⟩ := info_parts Tryd.infoU8'
  have HI := hid_ofS (And.intro hi (And.intro hz0 (And.intro hz1 hz2)))
  clear hi hz0 hz1 hz2
  go_enter Tryd.func18, Tryd.ntmps18
  go_wp2_with (refine wpList_make_own _ rfl _ _ 22 rfl w.heap.size 5 i0 (.int .u8 0) 1 Tryd.underlying22 HI.out.1 HI.out.2.1 HI.out.2.2.1 .i64 .i64 64 64 rfl rfl rfl (by rw [HI.out.2.2.2]; decide) (by decide) (Nat.le_refl _) ?_)
  intro w1 o1 b1
  have HO1 : Hid (Own w1 w.heap.size (.slice (some ⟨w.heap.size, 0, none⟩) 0 64) (txtW (hs.take 0))) := ⟨o1, _, _, rfl⟩
  have HB1 : Hid (Below w.heap.size w w1) := (Below.refl _ _).grown b1 (Nat.le_refl _) (fun k hk => by cases hk)
  clear o1 b1
  go_wp2
  go_loopw [3, 9] (fun v i wr => ∃ k : Nat, k ≤ 8 ∧ i = .int .i64 k ∧ Own wr w.heap.size v (txtW (hs.take k)) ∧ Below w.heap.size w wr) (fun _ i _ => 8 - (intOf i).toNat)
  case atStart => exact ⟨0, by omega, rfl, HO1.out, HB1.out⟩
  case round =>
    clear HO1 HB1
    obtain ⟨k, hk, rfl, hown, hbel⟩ := hrel
    by_cases hlt : k < 8
    · have hlt' : (k : Int) < 8 := by omega
      have hc := (HR.out.below hbel hgl).cell k (by rw [H8.out.1]; exact hlt)
      have hu := H8.out.2 k
      have HSN := hid_ofS (txtW_snoc hs k (by rw [H8.out.1]; exact hlt))
      have HPL := hid_ofS (txtW_len (hs.take k))
      rw [List.length_take, H8.out.1] at HPL
      have HO := hid_ofS hown
      have HB := hid_ofS hbel
      clear hown hbel
      obtain ⟨x, hx⟩ : ∃ x, x = hs.getD k 0 := ⟨_, rfl⟩
      rw [← hx] at hc hu HSN
      clear hx
      obtain ⟨p, hp⟩ : ∃ p, p = txtW (hs.take k) := ⟨_, rfl⟩
      rw [← hp] at HO HSN HPL
      clear hp
      obtain ⟨hu0, hu1⟩ := hu
      have hlp : p.length ≤ 64 := by have := HPL.out; omega
      go_wp2
      go_loopw [3, 14] (fun v i wr => ∃ j : Nat, j ≤ 8 ∧ i = .int .i64 j ∧ Own wr w.heap.size v (p ++ (by8 x).take j) ∧ Below w.heap.size w wr) (fun _ i _ => 8 - (intOf i).toNat)
      case atStart => exact ⟨0, by omega, rfl, by simpa using HO.out, HB.out⟩
      case round =>
        clear HO HB hc
        obtain ⟨j, hj, rfl, hown, hbel⟩ := hrel
        by_cases hlj : j < 8
        · have hlj' : (j : Int) < 8 := by omega
          have hsz := hbel.size
          have HE := hid_ofS (by8_take x j hlj)
          have HLJ : Hid ((p ++ (by8 x).take j).length + 1 ≤ 1099511627776) := by show _ ≤ _; rw [List.length_append, List.length_take, by8_len]; omega
          have HO := hid_ofS hown
          have HB := hid_ofS hbel
          clear hown hbel
          go_wp2_with (at_builtin; refine wpList_app _ rfl _ _ rfl w.heap.size _ _ rfl (HO.out.alloc _) ⟨wr.heap.size, 0, none⟩ 1 1 [x / 2 ^ (56 - 8 * j) % 256] rfl rfl ?c1 HLJ.out ?c3 ?_)
          all_goals first | (intro j' hj'; obtain rfl : j' = 0 := by omega
                             simp [Addr.add]; done) | skip
          case c3 => rw [World.size_alloc]; omega
          intro v' w2 hown' hbel' _
          have HO2 : Hid (Own w2 w.heap.size v' (p ++ (by8 x).take (j + 1))) := by rw [HE.out]; exact hown'
          have HB2 : Hid (Below w.heap.size w w2) := (HB.out.alloc hsz _).trans hbel'
          clear hown' hbel' HO HB HE HLJ
          go_wp2
          go_roundw
          case rel => exact ⟨j + 1, by omega, by go_num, HO2.out, HB2.out⟩
          case measure => simp [intOf]; omega
        · obtain rfl : j = 8 := by omega
          rw [List.take_of_length_le (by rw [by8_len]; exact Nat.le_refl _), ← HSN.out] at hown
          have HOW := hid_ofS hown
          have HBE := hid_ofS hbel
          clear hown hbel
          go_wp2
          go_roundw
          case rel => exact ⟨k + 1, by omega, by go_num, HOW.out, HBE.out⟩
          case measure => simp [intOf]; omega
    · obtain rfl : k = 8 := by omega
      have HOW := hid_ofS hown
      rw [List.take_of_length_le (by rw [H8.out.1]; exact Nat.le_refl _)] at HOW
      have HBE := hid_ofS hbel
      clear hown hbel
      go_wp2
      go_ret
      exact ⟨_, rfl, HOW.out, HBE.out⟩
end Go.Proofs.YtkmljldcnchlmaaDoor
