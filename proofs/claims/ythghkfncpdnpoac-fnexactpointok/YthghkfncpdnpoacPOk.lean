/-
  Own work: PointOk, by the program and by the model.
-/
import Derived.Test.YthghkfncpdnpoacRtN
namespace Go.Proofs.Ythghkfncpdnpoac
open Go.ChangeShapes Go.WideShapes Go.ChangeAt Go.RowKit
set_option linter.unusedVariables false

set_option maxHeartbeats 1000000 in
theorem spk_any (p : Option Addr) (n cap : Nat) (zs : List Int) (w : World) (hn : zs.length = n) (hm : n ≤ 1048576) (ha : At .u8 w p zs) (hz : Byte zs) :
    Calls Try.prog 15 #[.slice p n cap] w fun e w' => e = .returned (.bool (mB zs mdD)) ∧ Below w.heap.size w w' := by
  have HA : Hid (At .u8 w p zs) := ha
  clear ha
  go_enter Try.func15, Try.ntmps15
  go_wp2_with fail
  refine (d_any _).mono ?_
  rintro e w1 ⟨g1, c1, rfl, k1, l1, hf, hb⟩
  have HB : Hid (Below w.heap.size w w1) := hb
  have ha1 := HA.out.below hb
  clear hb HA
  go_wp2_with fail
  refine (decodeS_any p _ n cap c1 zs mdD _ hn hm ha1 hz hf).mono ?_
  rintro e w2 ⟨s1, s2, s3, s4, rfl, hb2, hone, _⟩
  have HON : Hid (s1.oneCell' = true ∧ s2.oneCell' = true ∧ s3.oneCell' = true ∧ s4.oneCell' = true) := hone
  have HPN : Hid (PtW (w2.alloc (.cells #[.slice none 0 0, .slice none 0 0, .slice none 0 0, .slice none 0 0] 76)) w2.heap.size #[.slice none 0 0, .slice none 0 0, .slice none 0 0, .slice none 0 0]) := PtW.new w2
  have HB2 : Hid (Below w.heap.size w w2) := HB.out.trans (hb2.mono HB.out.size)
  clear hb2 HB ha1 hf hone
  generalize hq : mB zs mdD = q at *
  have HQ : Hid (mB zs mdD = q) := hq
  clear hq
  go_wp2_with (first
    | (refine wpList_storePt rfl (.tmp 4) (.tmp 10) rfl w2.heap.size s1 s2 s3 s4 _ HON.out.1 HON.out.2.1 HON.out.2.2.1 HON.out.2.2.2 rfl rfl rfl HPN.out ?_)
    | fail)
  intro w3 _ hw3
  have HB3 : Hid (Below w.heap.size w w3) := HB2.out.trans (((below_new3 _ _).trans (hw3.below (Nat.le_refl _))).mono HB2.out.size)
  clear hw3 HB2 HPN
  go_wp2
  go_ret
  exact ⟨by rw [HQ.out]; rfl, HB3.out⟩

theorem pt_new (w : World) : Pt (w.alloc (.cells #[.int .u64 0, .int .u64 0, .int .u64 0, .int .u64 0, .int .u64 0, .int .u64 0, .int .u64 0, .int .u64 0, .int .u64 0, .int .u64 0, .int .u64 0, .int .u64 0, .int .u64 0, .int .u64 0, .int .u64 0, .int .u64 0, .int .u64 0, .int .u64 0, .int .u64 0, .int .u64 0] 84)) w.heap.size [0, 0, 0, 0, 0] [0, 0, 0, 0, 0] [0, 0, 0, 0, 0] [0, 0, 0, 0, 0] :=
  ⟨heap_alloc_new w _, zero_ok, zero_ok, zero_ok, zero_ok⟩
set_option maxHeartbeats 1000000 in
theorem ipk_any (p : Option Addr) (n cap : Nat) (zs : List Int) (w : World) (hn : zs.length = n) (hm : n ≤ 1048576) (ha : At .u8 w p zs) (hz : Byte zs) :
    Calls Try.prog 17 #[.slice p n cap] w fun e w' => e = .returned (.bool (mB zs mdD)) ∧ Below w.heap.size w w' := by
  have HB0 := below_new3 w (.cells #[.int .u64 0, .int .u64 0, .int .u64 0, .int .u64 0, .int .u64 0, .int .u64 0, .int .u64 0, .int .u64 0, .int .u64 0, .int .u64 0, .int .u64 0, .int .u64 0, .int .u64 0, .int .u64 0, .int .u64 0, .int .u64 0, .int .u64 0, .int .u64 0, .int .u64 0, .int .u64 0] 84)
  have HPT := pt_new w
  have ha1 := ha.below HB0
  go_enter Try.func17, Try.ntmps17
  go_wp2_with fail
  generalize w.alloc (.cells #[.int .u64 0, .int .u64 0, .int .u64 0, .int .u64 0, .int .u64 0, .int .u64 0, .int .u64 0, .int .u64 0, .int .u64 0, .int .u64 0, .int .u64 0, .int .u64 0, .int .u64 0, .int .u64 0, .int .u64 0, .int .u64 0, .int .u64 0, .int .u64 0, .int .u64 0, .int .u64 0] 84) = w0 at *
  refine (decode_any w.heap.size _ _ _ _ p n cap zs _ hn hm ha1 hz HPT).mono ?_
  rintro e w1 ⟨x, y, z, t, _, hw, rfl, _⟩
  have HB1 : Hid (Below w.heap.size w w1) := HB0.trans (hw.below w.heap.size (Nat.le_refl _) HB0.size)
  rw [dec_same zs hz]
  clear hw HPT HB0 ha1
  generalize hq : mB zs mdD = q at *
  have HQ : Hid (mB zs mdD = q) := hq
  clear hq
  go_wp2
  go_ret
  exact ⟨by rw [HQ.out]; rfl, HB1.out⟩
end Go.Proofs.Ythghkfncpdnpoac
