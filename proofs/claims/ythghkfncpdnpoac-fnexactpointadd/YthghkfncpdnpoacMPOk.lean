/-
  Own work: PointOk, by the program and by the model.
-/
import Derived.Test.YthghkfncpdnpoacRtN
import Derived.Test.YthghkfncpdnpoacMINm
import Derived.Test.YthghkfncpdnpoacResB
namespace Go.Proofs.Ythghkfncpdnpoac
open Go.ChangeShapes Go.WideShapes Go.ChangeAt Go.RowKit
set_option linter.unusedVariables false

set_option maxHeartbeats 1000000 in
theorem spk_any (p : Option Addr) (n cap : Nat) (zs : List Int) (w : World) (hn : zs.length = n) (hm : n ≤ 1048576) (ha : At .u8 w p zs) (hz : Byte zs) :
    Calls Try.prog 15 #[.slice p n cap] w fun e w' => e = .returned (.bool (mB zs mdD)) ∧ Below w.heap.size w w' := by
  have HA : Hid (At .u8 w p zs) := ha
  clear ha
  go_enter Try.func15, Try.ntmps15
  go_wp2_with fail
  refine (d_any _).mono ?_
  rintro e w1 ⟨g1, c1, rfl, k1, l1, hf, hb⟩
  have HB : Hid (Below w.heap.size w w1) := hb
  have ha1 := HA.out.below hb
  clear hb HA
  go_wp2_with fail
  refine (decodeS_any p _ n cap c1 zs mdD _ hn hm ha1 hz hf).mono ?_
  rintro e w2 ⟨s1, s2, s3, s4, rfl, hb2, hone, _⟩
  have HON : Hid (s1.oneCell' = true ∧ s2.oneCell' = true ∧ s3.oneCell' = true ∧ s4.oneCell' = true) := hone
  have HPN : Hid (PtW (w2.alloc (.cells #[.slice none 0 0, .slice none 0 0, .slice none 0 0, .slice none 0 0] 76)) w2.heap.size #[.slice none 0 0, .slice none 0 0, .slice none 0 0, .slice none 0 0]) := PtW.new w2
  have HB2 : Hid (Below w.heap.size w w2) := HB.out.trans (hb2.mono HB.out.size)
  clear hb2 HB ha1 hf hone
  generalize hq : mB zs mdD = q at *
  have HQ : Hid (mB zs mdD = q) := hq
  clear hq
  go_wp2_with (first
    | (refine wpList_storePt rfl (.tmp 4) (.tmp 10) rfl w2.heap.size s1 s2 s3 s4 _ HON.out.1 HON.out.2.1 HON.out.2.2.1 HON.out.2.2.2 rfl rfl rfl HPN.out ?_)
    | fail)
  intro w3 _ hw3
  have HB3 : Hid (Below w.heap.size w w3) := HB2.out.trans (((below_new3 _ _).trans (hw3.below (Nat.le_refl _))).mono HB2.out.size)
  clear hw3 HB2 HPN
  go_wp2
  go_ret
  exact ⟨by rw [HQ.out]; rfl, HB3.out⟩

theorem pt_new (w : World) : Pt (w.alloc (.cells #[.int .u64 0, .int .u64 0, .int .u64 0, .int .u64 0, .int .u64 0, .int .u64 0, .int .u64 0, .int .u64 0, .int .u64 0, .int .u64 0, .int .u64 0, .int .u64 0, .int .u64 0, .int .u64 0, .int .u64 0, .int .u64 0, .int .u64 0, .int .u64 0, .int .u64 0, .int .u64 0] 84)) w.heap.size [0, 0, 0, 0, 0] [0, 0, 0, 0, 0] [0, 0, 0, 0, 0] [0, 0, 0, 0, 0] :=
  ⟨heap_alloc_new w _, zero_ok, zero_ok, zero_ok, zero_ok⟩
set_option maxHeartbeats 1000000 in
theorem ipk_any (p : Option Addr) (n cap : Nat) (zs : List Int) (w : World) (hn : zs.length = n) (hm : n ≤ 1048576) (ha : At .u8 w p zs) (hz : Byte zs) :
    Calls Try.prog 17 #[.slice p n cap] w fun e w' => e = .returned (.bool (mB zs mdD)) ∧ Below w.heap.size w w' := by
  have HB0 := below_new3 w (.cells #[.int .u64 0, .int .u64 0, .int .u64 0, .int .u64 0, .int .u64 0, .int .u64 0, .int .u64 0, .int .u64 0, .int .u64 0, .int .u64 0, .int .u64 0, .int .u64 0, .int .u64 0, .int .u64 0, .int .u64 0, .int .u64 0, .int .u64 0, .int .u64 0, .int .u64 0, .int .u64 0] 84)
  have HPT := pt_new w
  have ha1 := ha.below HB0
  go_enter Try.func17, Try.ntmps17
  go_wp2_with fail
  generalize w.alloc (.cells #[.int .u64 0, .int .u64 0, .int .u64 0, .int .u64 0, .int .u64 0, .int .u64 0, .int .u64 0, .int .u64 0, .int .u64 0, .int .u64 0, .int .u64 0, .int .u64 0, .int .u64 0, .int .u64 0, .int .u64 0, .int .u64 0, .int .u64 0, .int .u64 0, .int .u64 0, .int .u64 0] 84) = w0 at *
  refine (decode_any w.heap.size _ _ _ _ p n cap zs _ hn hm ha1 hz HPT).mono ?_
  rintro e w1 ⟨x, y, z, t, _, hw, rfl, _⟩
  have HB1 : Hid (Below w.heap.size w w1) := HB0.trans (hw.below w.heap.size (Nat.le_refl _) HB0.size)
  rw [dec_same zs hz]
  clear hw HPT HB0 ha1
  generalize hq : mB zs mdD = q at *
  have HQ : Hid (mB zs mdD = q) := hq
  clear hq
  go_wp2
  go_ret
  exact ⟨by rw [HQ.out]; rfl, HB1.out⟩
end Go.Proofs.Ythghkfncpdnpoac
namespace Go.Proofs.Ythghkfncpdnpoac
open Go.ChangeShapes Go.WideShapes Go.ChangeAt Go.RowKit
set_option linter.unusedVariables false

/-- The code of the sum of two points. -/
def sdV (X1 Y1 Z1 T1 X2 Y2 Z2 T2 : Int) : Int :=
  cdV ((smB X1 Y1 X2 Y2 - smA X1 Y1 X2 Y2) % fp * ((smG Z1 Z2 - smC mdD T1 T2) % fp) % fp) ((smG Z1 Z2 + smC mdD T1 T2) % fp * ((smB X1 Y1 X2 Y2 + smA X1 Y1 X2 Y2) % fp) % fp) ((smG Z1 Z2 - smC mdD T1 T2) % fp * ((smG Z1 Z2 + smC mdD T1 T2) % fp) % fp)
def padV (zs ys : List Int) : Int := sdV (mX zs mdD) (mY zs) (1 % fp) (mX zs mdD * mY zs % fp) (mX ys mdD) (mY ys) (1 % fp) (mX ys mdD * mY ys % fp)
open Classical in
/-- The answer's bytes. -/
noncomputable def paZ (zs ys : List Int) : List Int := if h : ∃ rs : List Int, (mB zs mdD = true ∧ mB ys mdD = true) ∧ Byte rs ∧ rs.length = 32 ∧ val 256 rs = padV zs ys then h.choose else []
theorem paZ_eq {zs ys rs : List Int} (hn : mB zs mdD = true ∧ mB ys mdD = true) (hb : Byte rs) (hl : rs.length = 32) (hv : val 256 rs = padV zs ys) : paZ zs ys = rs := by
  have hex : ∃ rs : List Int, (mB zs mdD = true ∧ mB ys mdD = true) ∧ Byte rs ∧ rs.length = 32 ∧ val 256 rs = padV zs ys := ⟨rs, hn, hb, hl, hv⟩
  unfold paZ
  rw [dif_pos hex]
  obtain ⟨h0, h1, h2, h3⟩ := hex.choose_spec
  exact val_inj (B := 256) (by decide) h1 hb (by omega) (by rw [h3, hv])
theorem paZ_no {zs ys : List Int} (hn : ¬ (mB zs mdD = true ∧ mB ys mdD = true)) : paZ zs ys = [] := by
  unfold paZ; rw [dif_neg]; rintro ⟨rs, h, _⟩; exact hn h
theorem paZ_len (zs ys : List Int) : (paZ zs ys).length ≤ 32 := by
  unfold paZ; split
  · next h => exact Nat.le_of_eq h.choose_spec.2.2.1
  · simp
/-- What a PointAdd answers. -/
def PadP (w : World) (zs ys : List Int) (e : Ending) (w' : World) : Prop := ∃ v, e = .returned v ∧ ResO w.heap.size w' v (paZ zs ys) ∧ Below w.heap.size w w'

/-- What the model's PointAdd answers. -/
def SpP (w : World) (zs ys : List Int) (e : Ending) (w' : World) : Prop := ∃ b o c, e = .returned (.slice (some ⟨b, o, none⟩) (paZ zs ys).length c) ∧ b < w'.heap.size ∧ At .u8 w' (some ⟨b, o, none⟩) (paZ zs ys) ∧ Below w.heap.size w w'
theorem PtW.wr {w w' : World} {g V : Nat} {cs : Array Value} (h : PtW w g cs) (hw : Wr V w w') (hne : g ≠ V) : PtW w' g cs := by unfold PtW; rw [hw.block g hne]; exact h

set_option maxRecDepth 100000 in
set_option maxHeartbeats 4000000 in
theorem spad_any (p q : Option Addr) (n cap m cap' : Nat) (zs ys : List Int) (w : World) (hn : zs.length = n) (hm : n ≤ 1048576) (ha : At .u8 w p zs) (hz : Byte zs) (hn' : ys.length = m) (hm' : m ≤ 1048576) (ha' : At .u8 w q ys) (hy : Byte ys) :
    Calls Try.prog 27 #[.slice p n cap, .slice q m cap'] w (SpP w zs ys) := by
  have HA : Hid (At .u8 w p zs) := ha
  have HA' : Hid (At .u8 w q ys) := ha'
  clear ha ha'
  go_enter Try.func27, Try.ntmps27
  go_wp2_with fail
  refine (d_any _).mono ?_
  rintro e w1 ⟨g1, c1, rfl, k1, l1, hf, hb⟩
  have HB : Hid (Below w.heap.size w w1) := hb
  have ha1 := HA.out.below hb
  have HA1 : Hid (At .u8 w1 q ys) := HA'.out.below hb
  have HD1 : Hid (FeA w1 (some ⟨g1, 0, none⟩) mdD) := hf
  clear hb HA HA'
  go_wp2_with fail
  refine (decodeS_any p _ n cap c1 zs mdD _ hn hm ha1 hz hf).mono ?_
  rintro e w2 ⟨s1, s2, s3, s4, rfl, hb2, hone, hok⟩
  have HON : Hid (s1.oneCell' = true ∧ s2.oneCell' = true ∧ s3.oneCell' = true ∧ s4.oneCell' = true) := hone
  have HOK : Hid (mB zs mdD = true → ∃ g1 c1 g2 c2 g3 c3 g4 c4, s1 = .slice (some ⟨g1, 0, none⟩) 16 c1 ∧ s2 = .slice (some ⟨g2, 0, none⟩) 16 c2 ∧ s3 = .slice (some ⟨g3, 0, none⟩) 16 c3 ∧ s4 = .slice (some ⟨g4, 0, none⟩) 16 c4 ∧
      FeA w2 (some ⟨g1, 0, none⟩) (mX zs mdD) ∧ FeA w2 (some ⟨g2, 0, none⟩) (mY zs) ∧ FeA w2 (some ⟨g3, 0, none⟩) (1 % fp) ∧ FeA w2 (some ⟨g4, 0, none⟩) (mX zs mdD * mY zs % fp)) := hok
  have HPN : Hid (PtW (w2.alloc (.cells #[.slice none 0 0, .slice none 0 0, .slice none 0 0, .slice none 0 0] 76)) w2.heap.size #[.slice none 0 0, .slice none 0 0, .slice none 0 0, .slice none 0 0]) := PtW.new w2
  have HB2 : Hid (Below w.heap.size w w2) := HB.out.trans (hb2.mono HB.out.size)
  have HA2 : Hid (At .u8 w2 q ys) := HA1.out.below hb2
  have HD2 : Hid (FeA w2 (some ⟨g1, 0, none⟩) mdD) := HD1.out.below hb2
  clear hb2 HB ha1 hf hone hok HA1 HD1
  generalize hq : mB zs mdD = q1 at *
  have HQ : Hid (mB zs mdD = q1) := hq
  clear hq
  go_wp2_with (first
    | (refine wpList_storePt rfl (.tmp 7) (.tmp 16) rfl w2.heap.size s1 s2 s3 s4 _ HON.out.1 HON.out.2.1 HON.out.2.2.1 HON.out.2.2.2 rfl rfl rfl HPN.out ?_)
    | fail)
  intro w3 hp3 hw3
  have b23 : Below w2.heap.size w2 w3 := (below_new3 _ _).trans (hw3.below (Nat.le_refl _))
  have HB3 : Hid (Below w.heap.size w w3) := HB2.out.trans (b23.mono HB2.out.size)
  have HP3 : Hid (PtW w3 w2.heap.size #[s1, s2, s3, s4]) := hp3
  have ha3 := HA2.out.below b23
  have hd3 := HD2.out.below b23
  have HD3 : Hid (FeA w3 (some ⟨g1, 0, none⟩) mdD) := hd3
  have HOK3 : Hid (q1 = true → ∃ g1 c1 g2 c2 g3 c3 g4 c4, s1 = .slice (some ⟨g1, 0, none⟩) 16 c1 ∧ s2 = .slice (some ⟨g2, 0, none⟩) 16 c2 ∧ s3 = .slice (some ⟨g3, 0, none⟩) 16 c3 ∧ s4 = .slice (some ⟨g4, 0, none⟩) 16 c4 ∧
      FeA w3 (some ⟨g1, 0, none⟩) (mX zs mdD) ∧ FeA w3 (some ⟨g2, 0, none⟩) (mY zs) ∧ FeA w3 (some ⟨g3, 0, none⟩) (1 % fp) ∧ FeA w3 (some ⟨g4, 0, none⟩) (mX zs mdD * mY zs % fp)) := fun h => by
    obtain ⟨h1, c1, h2, c2, h3, c3, h4, c4, e1, e2, e3, e4, f1, f2, f3, f4⟩ := HOK.out h
    exact ⟨h1, c1, h2, c2, h3, c3, h4, c4, e1, e2, e3, e4, f1.below b23, f2.below b23, f3.below b23, f4.below b23⟩
  clear hw3 HB2 HPN hp3 HOK HA2 HD2 b23 HON
  generalize w2.heap.size = Ga at *
  go_wp2_with fail
  refine (decodeS_any q _ m cap' c1 ys mdD _ hn' hm' ha3 hy hd3).mono ?_
  rintro e w4 ⟨r1, r2, r3, r4, rfl, hb4, hone, hok⟩
  have HON : Hid (r1.oneCell' = true ∧ r2.oneCell' = true ∧ r3.oneCell' = true ∧ r4.oneCell' = true) := hone
  have HPN : Hid (PtW (w4.alloc (.cells #[.slice none 0 0, .slice none 0 0, .slice none 0 0, .slice none 0 0] 76)) w4.heap.size #[.slice none 0 0, .slice none 0 0, .slice none 0 0, .slice none 0 0]) := PtW.new w4
  have HB4 : Hid (Below w3.heap.size w3 w4) := hb4
  have HOK4 : Hid (mB ys mdD = true → ∃ g1 c1 g2 c2 g3 c3 g4 c4, r1 = .slice (some ⟨g1, 0, none⟩) 16 c1 ∧ r2 = .slice (some ⟨g2, 0, none⟩) 16 c2 ∧ r3 = .slice (some ⟨g3, 0, none⟩) 16 c3 ∧ r4 = .slice (some ⟨g4, 0, none⟩) 16 c4 ∧
      FeA w4 (some ⟨g1, 0, none⟩) (mX ys mdD) ∧ FeA w4 (some ⟨g2, 0, none⟩) (mY ys) ∧ FeA w4 (some ⟨g3, 0, none⟩) (1 % fp) ∧ FeA w4 (some ⟨g4, 0, none⟩) (mX ys mdD * mY ys % fp)) := hok
  clear hb4 ha3 hd3 hone hok
  generalize hq : mB ys mdD = q2 at *
  have HQ2 : Hid (mB ys mdD = q2) := hq
  clear hq
  go_wp2_with (first
    | (refine wpList_storePt rfl (.tmp 9) (.tmp 22) rfl w4.heap.size r1 r2 r3 r4 _ HON.out.1 HON.out.2.1 HON.out.2.2.1 HON.out.2.2.2 rfl rfl rfl HPN.out ?_)
    | fail)
  intro w5 hp5 hw5
  have b45 : Below w4.heap.size w4 w5 := (below_new3 _ _).trans (hw5.below (Nat.le_refl _))
  have HB5 : Hid (Below w3.heap.size w3 w5) := HB4.out.trans (b45.mono HB4.out.size)
  have HP5 : Hid (PtW w5 w4.heap.size #[r1, r2, r3, r4]) := hp5
  have HP35 : Hid (PtW w5 Ga #[s1, s2, s3, s4]) := HP3.out.below HB5.out HP3.out.lt
  have HBB : Hid (Below w.heap.size w w5) := HB3.out.trans (HB5.out.mono HB3.out.size)
  have HD5 : Hid (FeA w5 (some ⟨g1, 0, none⟩) mdD) := HD3.out.below HB5.out
  have HOK5 : Hid (q2 = true → ∃ g1 c1 g2 c2 g3 c3 g4 c4, r1 = .slice (some ⟨g1, 0, none⟩) 16 c1 ∧ r2 = .slice (some ⟨g2, 0, none⟩) 16 c2 ∧ r3 = .slice (some ⟨g3, 0, none⟩) 16 c3 ∧ r4 = .slice (some ⟨g4, 0, none⟩) 16 c4 ∧
      FeA w5 (some ⟨g1, 0, none⟩) (mX ys mdD) ∧ FeA w5 (some ⟨g2, 0, none⟩) (mY ys) ∧ FeA w5 (some ⟨g3, 0, none⟩) (1 % fp) ∧ FeA w5 (some ⟨g4, 0, none⟩) (mX ys mdD * mY ys % fp)) := fun h => by
    obtain ⟨h1, c1, h2, c2, h3, c3, h4, c4, e1, e2, e3, e4, f1, f2, f3, f4⟩ := HOK4.out h
    exact ⟨h1, c1, h2, c2, h3, c3, h4, c4, e1, e2, e3, e4, f1.below b45, f2.below b45, f3.below b45, f4.below b45⟩
  have HOK35 : Hid (q1 = true → ∃ g1 c1 g2 c2 g3 c3 g4 c4, s1 = .slice (some ⟨g1, 0, none⟩) 16 c1 ∧ s2 = .slice (some ⟨g2, 0, none⟩) 16 c2 ∧ s3 = .slice (some ⟨g3, 0, none⟩) 16 c3 ∧ s4 = .slice (some ⟨g4, 0, none⟩) 16 c4 ∧
      FeA w5 (some ⟨g1, 0, none⟩) (mX zs mdD) ∧ FeA w5 (some ⟨g2, 0, none⟩) (mY zs) ∧ FeA w5 (some ⟨g3, 0, none⟩) (1 % fp) ∧ FeA w5 (some ⟨g4, 0, none⟩) (mX zs mdD * mY zs % fp)) := fun h => by
    obtain ⟨h1, c1, h2, c2, h3, c3, h4, c4, e1, e2, e3, e4, f1, f2, f3, f4⟩ := HOK3.out h
    exact ⟨h1, c1, h2, c2, h3, c3, h4, c4, e1, e2, e3, e4, f1.below HB5.out, f2.below HB5.out, f3.below HB5.out, f4.below HB5.out⟩
  clear hp5 hw5 b45 HB5 HB4 HB3 HP3 HD3 HOK3 HOK4 HPN HON
  generalize w4.heap.size = Gb at *
  have HEM : (¬ (q1 = true ∧ q2 = true)) → Hid (SpP w zs ys (.returned (.slice (some ⟨w5.heap.size, 0, none⟩) 0 0)) (w5.alloc (.cells #[] 5))) := fun h => by
    show SpP _ _ _ _ _
    unfold SpP
    rw [paZ_no (by rw [HQ.out, HQ2.out]; exact h)]
    exact ⟨w5.heap.size, 0, 0, rfl, by simp, .inl rfl, HBB.out.trans ((below_new3 _ _).mono HBB.out.size)⟩
  cases q1 with
  | false =>
    have H := HEM (by simp)
    clear HEM
    go_wp2
    go_ret
    exact H.out
  | true =>
  cases q2 with
  | false =>
    have H := HEM (by simp)
    clear HEM
    go_wp2
    go_ret
    exact H.out
  | true =>
    clear HEM
    obtain ⟨x1, i1, x2, i2, x3, i3, x4, i4, rfl, rfl, rfl, rfl, f1, f2, f3, f4⟩ := HOK35.out rfl
    obtain ⟨y1, j1, y2, j2, y3, j3, y4, j4, rfl, rfl, rfl, rfl, h1, h2, h3, h4⟩ := HOK5.out rfl
    have CS := sum_any (some ⟨x1, 0, none⟩) (some ⟨x2, 0, none⟩) (some ⟨x3, 0, none⟩) (some ⟨x4, 0, none⟩) (some ⟨y1, 0, none⟩) (some ⟨y2, 0, none⟩) (some ⟨y3, 0, none⟩) (some ⟨y4, 0, none⟩) (some ⟨g1, 0, none⟩) i1 i2 i3 i4 j1 j2 j3 j4 c1 _ _ _ _ _ _ _ _ _ w5 (fun e he => by
      simp only [List.mem_cons, List.not_mem_nil, or_false] at he
      rcases he with rfl | rfl | rfl | rfl | rfl | rfl | rfl | rfl | rfl
      · exact f1
      · exact f2
      · exact f3
      · exact f4
      · exact h1
      · exact h2
      · exact h3
      · exact h4
      · exact HD5.out)
    clear f1 f2 f3 f4 h1 h2 h3 h4 HOK5 HOK35 HD5
    go_wp2_with (first
      | (refine wpList_load_row rfl 76 (.tmp 7) rfl Ga rfl 76 _ (0, 0) _ HP35.out Try.underlying76 rfl Try.sizePt ?_)
      | (refine wpList_load_row rfl 76 (.tmp 9) rfl Gb rfl 76 _ (0, 0) _ HP5.out Try.underlying76 rfl Try.sizePt ?_)
      | fail)
    refine CS.mono ?_
    rintro e w6 ⟨a1, k1, a2, k2, a3, k3, a4, k4, rfl, f1, f2, f3, f4, b6⟩
    have HC := code_any (some ⟨a1, 0, none⟩) (some ⟨a2, 0, none⟩) (some ⟨a3, 0, none⟩) (some ⟨a4, 0, none⟩) k1 k2 k3 k4 _ _ _ w6 f1 f2 f3
    have HB6 : Hid (Below w.heap.size w w6) := HBB.out.trans (b6.mono HBB.out.size)
    clear f1 f2 f3 f4 b6 CS HBB HP5 HP35
    go_wp2_with fail
    refine HC.mono ?_
    rintro e w7 ⟨v, bs, rfl, O, hbb, hbl, hbv, b7⟩
    have hpz := paZ_eq ⟨HQ.out, HQ2.out⟩ hbb hbl (show val 256 bs = padV zs ys from hbv)
    obtain ⟨g, c, rfl, hB, hg, hA⟩ := O.at2
    have HF : Hid (SpP w zs ys (.returned (.slice (some ⟨g, 0, none⟩) bs.length c)) w7) := by
      show SpP _ _ _ _ _
      unfold SpP
      rw [hpz]
      exact ⟨g, 0, c, rfl, hg, hA, HB6.out.trans (b7.mono HB6.out.size)⟩
    clear O hbb hbl hbv b7 hpz hA HC HB6
    go_wp2
    go_ret
    exact HF.out
end Go.Proofs.Ythghkfncpdnpoac
namespace Go.Proofs.Ythghkfncpdnpoac
open Go.ChangeShapes Go.WideShapes Go.ChangeAt Go.RowKit
set_option linter.unusedVariables false

theorem mB_len {zs : List Int} (h : mB zs mdD = true) : zs.length = 32 ∧ mY zs < fp := by
  unfold mB at h
  simp only [Bool.and_eq_true] at h
  exact ⟨by simpa using h.1.1.1, by simpa using h.1.1.2⟩
theorem Pt.wrh {w w' : World} {g V : Nat} {x y z t : List Int} (h : Pt w g x y z t) (hw : WrH V w w') (hne : g ≠ V) : Pt w' g x y z t := ⟨hw.rowW h.row hne, h.x, h.y, h.z, h.t⟩
theorem At.wrh {k : IntKind} {w w' : World} {a : Option Addr} {zs : List Int} {V : Nat} (h : At k w a zs) (hw : WrH V w w') (hne : ∀ b o, a = some ⟨b, o, none⟩ → b ≠ V) : At k w' a zs := by
  rcases h with h | ⟨b, off, rfl, hl, hc⟩
  · exact .inl h
  · exact .inr ⟨b, off, rfl, by have := hw.size; omega, fun i hi => by rw [World.cell?_of_block (a := ⟨b, off + i, none⟩) (w := w) (hw.block b hl (hne b off rfl))]; exact hc i hi⟩

set_option maxRecDepth 100000 in
set_option maxHeartbeats 4000000 in
theorem ipad_any (p q : Option Addr) (n cap m cap' : Nat) (zs ys : List Int) (w : World) (hn : zs.length = n) (hm : n ≤ 1048576) (ha : At .u8 w p zs) (hz : Byte zs) (hn' : ys.length = m) (hm' : m ≤ 1048576) (ha' : At .u8 w q ys) (hy : Byte ys) :
    Calls Try.prog 28 #[.slice p n cap, .slice q m cap'] w (PadP w zs ys) := by
  have HB0 : Below w.heap.size w ((w.alloc (.cells #[.int .u64 0, .int .u64 0, .int .u64 0, .int .u64 0, .int .u64 0, .int .u64 0, .int .u64 0, .int .u64 0, .int .u64 0, .int .u64 0, .int .u64 0, .int .u64 0, .int .u64 0, .int .u64 0, .int .u64 0, .int .u64 0, .int .u64 0, .int .u64 0, .int .u64 0, .int .u64 0] 84)).alloc (.cells #[.int .u64 0, .int .u64 0, .int .u64 0, .int .u64 0, .int .u64 0, .int .u64 0, .int .u64 0, .int .u64 0, .int .u64 0, .int .u64 0, .int .u64 0, .int .u64 0, .int .u64 0, .int .u64 0, .int .u64 0, .int .u64 0, .int .u64 0, .int .u64 0, .int .u64 0, .int .u64 0] 84)) := (below_new3 _ _).trans ((below_new3 _ _).mono (by simp))
  have HP1 : Pt ((w.alloc (.cells #[.int .u64 0, .int .u64 0, .int .u64 0, .int .u64 0, .int .u64 0, .int .u64 0, .int .u64 0, .int .u64 0, .int .u64 0, .int .u64 0, .int .u64 0, .int .u64 0, .int .u64 0, .int .u64 0, .int .u64 0, .int .u64 0, .int .u64 0, .int .u64 0, .int .u64 0, .int .u64 0] 84)).alloc (.cells #[.int .u64 0, .int .u64 0, .int .u64 0, .int .u64 0, .int .u64 0, .int .u64 0, .int .u64 0, .int .u64 0, .int .u64 0, .int .u64 0, .int .u64 0, .int .u64 0, .int .u64 0, .int .u64 0, .int .u64 0, .int .u64 0, .int .u64 0, .int .u64 0, .int .u64 0, .int .u64 0] 84)) w.heap.size [0, 0, 0, 0, 0] [0, 0, 0, 0, 0] [0, 0, 0, 0, 0] [0, 0, 0, 0, 0] := (pt_new w).below (below_new3 _ _) (by simp)
  have HP2 : Pt ((w.alloc (.cells #[.int .u64 0, .int .u64 0, .int .u64 0, .int .u64 0, .int .u64 0, .int .u64 0, .int .u64 0, .int .u64 0, .int .u64 0, .int .u64 0, .int .u64 0, .int .u64 0, .int .u64 0, .int .u64 0, .int .u64 0, .int .u64 0, .int .u64 0, .int .u64 0, .int .u64 0, .int .u64 0] 84)).alloc (.cells #[.int .u64 0, .int .u64 0, .int .u64 0, .int .u64 0, .int .u64 0, .int .u64 0, .int .u64 0, .int .u64 0, .int .u64 0, .int .u64 0, .int .u64 0, .int .u64 0, .int .u64 0, .int .u64 0, .int .u64 0, .int .u64 0, .int .u64 0, .int .u64 0, .int .u64 0, .int .u64 0] 84)) (w.heap.size + 1) [0, 0, 0, 0, 0] [0, 0, 0, 0, 0] [0, 0, 0, 0, 0] [0, 0, 0, 0, 0] := by
    have := pt_new (w.alloc (.cells #[.int .u64 0, .int .u64 0, .int .u64 0, .int .u64 0, .int .u64 0, .int .u64 0, .int .u64 0, .int .u64 0, .int .u64 0, .int .u64 0, .int .u64 0, .int .u64 0, .int .u64 0, .int .u64 0, .int .u64 0, .int .u64 0, .int .u64 0, .int .u64 0, .int .u64 0, .int .u64 0] 84))
    rwa [show (w.alloc (.cells #[.int .u64 0, .int .u64 0, .int .u64 0, .int .u64 0, .int .u64 0, .int .u64 0, .int .u64 0, .int .u64 0, .int .u64 0, .int .u64 0, .int .u64 0, .int .u64 0, .int .u64 0, .int .u64 0, .int .u64 0, .int .u64 0, .int .u64 0, .int .u64 0, .int .u64 0, .int .u64 0] 84)).heap.size = w.heap.size + 1 by simp] at this
  have ha1 := ha.below HB0
  have ha2 := ha'.below HB0
  have hqb : ∀ b o, q = some ⟨b, o, none⟩ → ys ≠ [] → b < w.heap.size := fun b o e h => by
    rcases ha' with h' | ⟨b', o', e', hl, _⟩
    · exact absurd h' h
    · rw [e] at e'; cases e'; exact hl
  go_enter Try.func28, Try.ntmps28
  go_wp2_with fail
  generalize (w.alloc (.cells #[.int .u64 0, .int .u64 0, .int .u64 0, .int .u64 0, .int .u64 0, .int .u64 0, .int .u64 0, .int .u64 0, .int .u64 0, .int .u64 0, .int .u64 0, .int .u64 0, .int .u64 0, .int .u64 0, .int .u64 0, .int .u64 0, .int .u64 0, .int .u64 0, .int .u64 0, .int .u64 0] 84)).alloc (.cells #[.int .u64 0, .int .u64 0, .int .u64 0, .int .u64 0, .int .u64 0, .int .u64 0, .int .u64 0, .int .u64 0, .int .u64 0, .int .u64 0, .int .u64 0, .int .u64 0, .int .u64 0, .int .u64 0, .int .u64 0, .int .u64 0, .int .u64 0, .int .u64 0, .int .u64 0, .int .u64 0] 84) = w0 at *
  refine (decode_any w.heap.size _ _ _ _ p n cap zs _ hn hm ha1 hz HP1).mono ?_
  rintro e w1 ⟨x1, y1, z1, t1, P1, hw1, rfl, hv1⟩
  have HB1 : Hid (Below w.heap.size w w1) := HB0.trans (hw1.below w.heap.size (Nat.le_refl _) HB0.size)
  have HQ1 : Hid (Pt w1 (w.heap.size + 1) [0, 0, 0, 0, 0] [0, 0, 0, 0, 0] [0, 0, 0, 0, 0] [0, 0, 0, 0, 0]) := HP2.wrh hw1 (by omega)
  have HA1 : Hid (At .u8 w1 q ys) := ha'.below HB1.out
  have HP1' : Hid (Pt w1 w.heap.size x1 y1 z1 t1) := P1
  have HV1 : Hid (dcR zs = true → ev x1 = dcX zs ∧ ev y1 = dcY zs ∧ ev z1 = 1 ∧ ev t1 = dcX zs * dcY zs % fp) := hv1
  clear hw1 HP1 HB0 ha1 ha2 HP2 P1 hv1 ha ha'
  have HDS : Hid (dcR zs = mB zs mdD) := dec_same zs hz
  rw [HDS.out]
  have HNO : (¬ (mB zs mdD = true ∧ mB ys mdD = true)) → ∀ wz, Below w.heap.size w wz → Hid (PadP w zs ys (.returned (.slice none 0 0)) wz) := fun h wz hb => by
    show PadP _ _ _ _ _
    unfold PadP
    rw [paZ_no h]
    exact ⟨_, rfl, ⟨none, 0, rfl, .inl rfl, .inl rfl, fun ad h => by cases h⟩, hb⟩
  cases hb : mB zs mdD with
  | false =>
    have H := HNO (by rw [hb]; simp) w1 HB1.out
    clear HNO HB1 HQ1 HA1 HP1' HV1
    go_wp2
    go_ret
    exact H.out
  | true =>
    go_wp2_with fail
    refine (decode_any (w.heap.size + 1) _ _ _ _ q m cap' ys _ hn' hm' HA1.out hy HQ1.out).mono ?_
    rintro e w2 ⟨x2, y2, z2, t2, P2, hw2, rfl, hv2⟩
    have HB2 : Hid (Below w.heap.size w w2) := HB1.out.trans (hw2.below w.heap.size (by omega) HB1.out.size)
    have HP2' : Hid (Pt w2 w.heap.size x1 y1 z1 t1) := HP1'.out.wrh hw2 (by omega)
    have HP2 : Hid (Pt w2 (w.heap.size + 1) x2 y2 z2 t2) := P2
    have HV2 : Hid (dcR ys = true → ev x2 = dcX ys ∧ ev y2 = dcY ys ∧ ev z2 = 1 ∧ ev t2 = dcX ys * dcY ys % fp) := hv2
    have HDS2 : Hid (dcR ys = mB ys mdD) := dec_same ys hy
    rw [HDS2.out]
    clear hw2 P2 hv2 HB1 HQ1 HA1 HP1'
    cases hb2 : mB ys mdD with
    | false =>
      have H := HNO (by rw [hb2]; simp) w2 HB2.out
      clear HNO
      go_wp2
      go_ret
      exact H.out
    | true =>
      obtain ⟨e1, e2, e3, e4⟩ := HV1.out (by rw [HDS.out]; exact hb)
      obtain ⟨f1, f2, f3, f4⟩ := HV2.out (by rw [HDS2.out]; exact hb2)
      have q1 := decX_same zs (mB_len hb).1 hz (mB_len hb).2
      have q2 := decX_same ys (mB_len hb2).1 hy (mB_len hb2).2
      have HE : Hid (ev x1 = mX zs mdD ∧ ev y1 = mY zs ∧ ev z1 = 1 % fp ∧ ev t1 = mX zs mdD * mY zs % fp ∧ ev x2 = mX ys mdD ∧ ev y2 = mY ys ∧ ev z2 = 1 % fp ∧ ev t2 = mX ys mdD * mY ys % fp) :=
        ⟨by rw [e1, q1], e2, by rw [e3]; decide, by rw [e4, q1]; rfl, by rw [f1, q2], f2, by rw [f3]; decide, by rw [f4, q2]; rfl⟩
      clear e1 e2 e3 e4 f1 f2 f3 f4 q1 q2 HV1 HV2 HNO
      go_wp2_with fail
      refine (add_any w.heap.size (w.heap.size + 1) x1 y1 z1 t1 x2 y2 z2 t2 _ HP2'.out HP2.out).mono ?_
      rintro e w3 ⟨x, y, z, t, P3, hw3, rfl, v1, v2, v3, v4⟩
      have HB3 : Hid (Below w.heap.size w w3) := HB2.out.trans (hw3.below w.heap.size (Nat.le_refl _) HB2.out.size)
      have HP3 : Hid (Pt w3 w.heap.size x y z t) := P3
      have HCV : Hid (cdV (ev x) (ev y) (ev z) = padV zs ys) := by
        show _ = _
        obtain ⟨a1, a2, a3, a4, b1, b2, b3, b4⟩ := HE.out
        rw [v1, v2, v3, a1, a2, a3, a4, b1, b2, b3, b4]; rfl
      clear P3 hw3 v1 v2 v3 v4 HB2 HP2 HP2' HE
      go_wp2_with fail
      refine (pcode_any w.heap.size x y z t _ HP3.out).mono ?_
      rintro e w4 ⟨ms, hl, hw, hv, rfl, b4⟩
      rw [HCV.out] at hv
      have HB4 : Hid (Below w.heap.size w w4) := HB3.out.trans (b4.mono HB3.out.size)
      match ms, hl with
      | [n0, n1, n2, n3], _ =>
      have HN : Hid (RowW (w4.alloc (.cells #[.int .u64 n0, .int .u64 n1, .int .u64 n2, .int .u64 n3] 100)) w4.heap.size 100 [n0, n1, n2, n3]) := heap_alloc_new w4 _
      have HB5 : Hid (Below w.heap.size w (w4.alloc (.cells #[.int .u64 n0, .int .u64 n1, .int .u64 n2, .int .u64 n3] 100))) := HB4.out.trans ((below_new3 _ _).mono HB4.out.size)
      have HW : Hid (Wrd [n0, n1, n2, n3] ∧ val 18446744073709551616 [n0, n1, n2, n3] = padV zs ys) := ⟨hw, hv⟩
      clear b4 HB3 HP3 hw hv HCV HB4
      simp only [List.map_cons, List.map_nil]
      go_wp2_with fail
      generalize w4.alloc (.cells #[.int .u64 n0, .int .u64 n1, .int .u64 n2, .int .u64 n3] 100) = w5 at *
      refine (text_any w4.heap.size [n0, n1, n2, n3] _ rfl HN.out HW.out.1).mono ?_
      rintro e w6 ⟨bs, hbl, hbb, hbv, rfl, O, b6⟩
      have HF : Hid (PadP w zs ys (.returned (.slice (some ⟨w5.heap.size, 0, none⟩) 32 32)) w6) := by
        show PadP _ _ _ _ _
        unfold PadP
        rw [paZ_eq ⟨hb, hb2⟩ hbb hbl (by rw [hbv]; exact HW.out.2)]
        have R := own_res O
        obtain ⟨a, c, e, r1, r2, r3⟩ := R
        exact ⟨_, rfl, ⟨a, c, e, r1, r2, fun ad h => Nat.le_trans HB5.out.size (r3 ad h)⟩, HB5.out.trans (b6.mono HB5.out.size)⟩
      clear hbl hbb hbv O b6 HN HW HB5
      go_wp2
      go_ret
      exact HF.out
end Go.Proofs.Ythghkfncpdnpoac
