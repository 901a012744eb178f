/-
  Own work: the base point's code, a decoded point as four coordinates.
-/
import Derived.Test.YtdaglofgioehhaaMuM
import Derived.Test.YtdaglofgioehhaaMRtM
import Derived.Test.YtdaglofgioehhaaSDc
import Derived.Test.YtdaglofgioehhaaSBas
import Derived.Test.YtdaglofgioehhaaMIMu
import Derived.Test.YtdaglofgioehhaaSMu
namespace Go.Proofs.Ytdaglofgioehhaa
open Go.ChangeShapes Go.WideShapes Go.ChangeAt Go.RowKit
set_option linter.unusedVariables false

def ptQ (zs : List Int) : Q4 := (mX zs mdD, mY zs, 1 % fp, mX zs mdD * mY zs % fp)
theorem mB_len2 {zs : List Int} (h : mB zs mdD = true) : zs.length = 32 ∧ mY zs < fp := by
  unfold mB at h
  simp only [Bool.and_eq_true] at h
  exact ⟨by simpa using h.1.1.1, by simpa using h.1.1.2⟩
/-- The base point's code. -/
def bB : List Int := [88, 102, 102, 102, 102, 102, 102, 102, 102, 102, 102, 102, 102, 102, 102, 102, 102, 102, 102, 102, 102, 102, 102, 102, 102, 102, 102, 102, 102, 102, 102, 102]
theorem bB_len : bB.length = 32 := rfl
theorem bB_val : val 256 bB = baseY := by decide +kernel
theorem bB_byte : Byte bB := by unfold Byte bB; decide
theorem bB_ok : mB bB mdD = true := by decide +kernel
theorem bB_of {bs : List Int} (hb : Byte bs) (hl : bs.length = 32) (hv : val 256 bs = baseY) : bs = bB :=
  val_inj (B := 256) (by decide) hb bB_byte (by rw [hl, bB_len]) (by rw [hv, bB_val])
end Go.Proofs.Ytdaglofgioehhaa
namespace Go.Proofs.Ytdaglofgioehhaa
open Go.ChangeShapes Go.WideShapes Go.ChangeAt Go.RowKit
set_option linter.unusedVariables false

open Classical in
/-- The answer's bytes. -/
noncomputable def muZ (ks zs : List Int) : List Int := if h : ∃ rs : List Int, (ks.length = 32 ∧ mB zs mdD = true) ∧ Byte rs ∧ rs.length = 32 ∧ val 256 rs = muV (val 256 ks) (ptQ zs) then h.choose else []
theorem muZ_eq {ks zs rs : List Int} (hn : ks.length = 32 ∧ mB zs mdD = true) (hb : Byte rs) (hl : rs.length = 32) (hv : val 256 rs = muV (val 256 ks) (ptQ zs)) : muZ ks zs = rs := by
  have hex : ∃ rs : List Int, (ks.length = 32 ∧ mB zs mdD = true) ∧ Byte rs ∧ rs.length = 32 ∧ val 256 rs = muV (val 256 ks) (ptQ zs) := ⟨rs, hn, hb, hl, hv⟩
  unfold muZ
  rw [dif_pos hex]
  obtain ⟨h0, h1, h2, h3⟩ := hex.choose_spec
  exact val_inj (B := 256) (by decide) h1 hb (by omega) (by rw [h3, hv])
theorem muZ_no {ks zs : List Int} (hn : ¬ (ks.length = 32 ∧ mB zs mdD = true)) : muZ ks zs = [] := by
  unfold muZ; rw [dif_neg]; rintro ⟨rs, h, _⟩; exact hn h
theorem muZ_len (ks zs : List Int) : (muZ ks zs).length ≤ 32 := by
  unfold muZ; split
  · next h => exact Nat.le_of_eq h.choose_spec.2.2.1
  · simp
/-- What the program's PointMul answers. -/
def PmuP (w : World) (ks zs : List Int) (e : Ending) (w' : World) : Prop := ∃ v, e = .returned v ∧ ResO w.heap.size w' v (muZ ks zs) ∧ Below w.heap.size w w'
/-- What the model's PointMul answers. -/
def SmP (w : World) (ks zs : List Int) (e : Ending) (w' : World) : Prop := ∃ b o c, e = .returned (.slice (some ⟨b, o, none⟩) (muZ ks zs).length c) ∧ b < w'.heap.size ∧ At .u8 w' (some ⟨b, o, none⟩) (muZ ks zs) ∧ Below w.heap.size w w'

set_option maxRecDepth 100000 in
set_option maxHeartbeats 4000000 in
theorem smul_any (q p : Option Addr) (m cap' n cap : Nat) (ks zs : List Int) (w : World) (hn' : ks.length = m) (hm' : m ≤ 1048576) (ha' : At .u8 w q ks) (hy : Byte ks) (hn : zs.length = n) (hm : n ≤ 1048576) (ha : At .u8 w p zs) (hz : Byte zs) :
    Calls Try.prog 20 #[.slice q m cap', .slice p n cap] w (SmP w ks zs) := by
  have HA : Hid (At .u8 w p zs) := ha
  have HA' : Hid (At .u8 w q ks) := ha'
  clear ha ha'
  go_enter Try.func20, Try.ntmps20
  go_wp2_with fail
  refine (d_any _).mono ?_
  rintro e w1 ⟨g1, c1, rfl, k1, l1, hf, hb⟩
  have HB : Hid (Below w.heap.size w w1) := hb
  have ha1 := HA.out.below hb
  have HA1 : Hid (At .u8 w1 q ks) := HA'.out.below hb
  have HD1 : Hid (FeA w1 (some ⟨g1, 0, none⟩) mdD) := hf
  clear hb HA HA'
  go_wp2_with fail
  refine (decodeS_any p _ n cap c1 zs mdD _ hn hm ha1 hz hf).mono ?_
  rintro e w2 ⟨s1, s2, s3, s4, rfl, hb2, hone, hok⟩
  have HON : Hid (s1.oneCell' = true ∧ s2.oneCell' = true ∧ s3.oneCell' = true ∧ s4.oneCell' = true) := hone
  have HOK : Hid (mB zs mdD = true → ∃ g1 c1 g2 c2 g3 c3 g4 c4, s1 = .slice (some ⟨g1, 0, none⟩) 16 c1 ∧ s2 = .slice (some ⟨g2, 0, none⟩) 16 c2 ∧ s3 = .slice (some ⟨g3, 0, none⟩) 16 c3 ∧ s4 = .slice (some ⟨g4, 0, none⟩) 16 c4 ∧
      FeA w2 (some ⟨g1, 0, none⟩) (mX zs mdD) ∧ FeA w2 (some ⟨g2, 0, none⟩) (mY zs) ∧ FeA w2 (some ⟨g3, 0, none⟩) (1 % fp) ∧ FeA w2 (some ⟨g4, 0, none⟩) (mX zs mdD * mY zs % fp)) := hok
  have HPN : Hid (PtW (w2.alloc (.cells #[.slice none 0 0, .slice none 0 0, .slice none 0 0, .slice none 0 0] 55)) w2.heap.size #[.slice none 0 0, .slice none 0 0, .slice none 0 0, .slice none 0 0]) := PtW.new w2
  have HB2 : Hid (Below w.heap.size w w2) := HB.out.trans (hb2.mono HB.out.size)
  have HA2 : Hid (At .u8 w2 q ks) := HA1.out.below hb2
  have HD2 : Hid (FeA w2 (some ⟨g1, 0, none⟩) mdD) := HD1.out.below hb2
  clear hb2 HB ha1 hf hone hok HA1 HD1
  generalize hq : mB zs mdD = q1 at *
  have HQ : Hid (mB zs mdD = q1) := hq
  clear hq
  go_wp2_with (first
    | (refine wpList_storePt rfl (.tmp 7) (.tmp 14) rfl w2.heap.size s1 s2 s3 s4 _ HON.out.1 HON.out.2.1 HON.out.2.2.1 HON.out.2.2.2 rfl rfl rfl HPN.out ?_)
    | fail)
  intro w3 hp3 hw3
  have b23 : Below w2.heap.size w2 w3 := (below_new3 _ _).trans (hw3.below (Nat.le_refl _))
  have HB3 : Hid (Below w.heap.size w w3) := HB2.out.trans (b23.mono HB2.out.size)
  have HP3 : Hid (PtW w3 w2.heap.size #[s1, s2, s3, s4]) := hp3
  have HA3 : Hid (At .u8 w3 q ks) := HA2.out.below b23
  have HD3 : Hid (FeA w3 (some ⟨g1, 0, none⟩) mdD) := HD2.out.below b23
  have HOK3 : Hid (q1 = true → ∃ g1 c1 g2 c2 g3 c3 g4 c4, s1 = .slice (some ⟨g1, 0, none⟩) 16 c1 ∧ s2 = .slice (some ⟨g2, 0, none⟩) 16 c2 ∧ s3 = .slice (some ⟨g3, 0, none⟩) 16 c3 ∧ s4 = .slice (some ⟨g4, 0, none⟩) 16 c4 ∧
      FeA w3 (some ⟨g1, 0, none⟩) (mX zs mdD) ∧ FeA w3 (some ⟨g2, 0, none⟩) (mY zs) ∧ FeA w3 (some ⟨g3, 0, none⟩) (1 % fp) ∧ FeA w3 (some ⟨g4, 0, none⟩) (mX zs mdD * mY zs % fp)) := fun h => by
    obtain ⟨h1, c1, h2, c2, h3, c3, h4, c4, e1, e2, e3, e4, f1, f2, f3, f4⟩ := HOK.out h
    exact ⟨h1, c1, h2, c2, h3, c3, h4, c4, e1, e2, e3, e4, f1.below b23, f2.below b23, f3.below b23, f4.below b23⟩
  clear hw3 HB2 HPN hp3 HOK HA2 HD2 b23 HON
  generalize w2.heap.size = Ga at *
  have HEM : (¬ (m = 32 ∧ q1 = true)) → Hid (SmP w ks zs (.returned (.slice (some ⟨w3.heap.size, 0, none⟩) 0 0)) (w3.alloc (.cells #[] 5))) := fun h => by
    show SmP _ _ _ _ _
    unfold SmP
    rw [muZ_no (by rw [hn', HQ.out]; exact h)]
    exact ⟨w3.heap.size, 0, 0, rfl, by simp, .inl rfl, HB3.out.trans ((below_new3 _ _).mono HB3.out.size)⟩
  by_cases hm32 : m = 32
  · subst hm32
    cases q1 with
    | false =>
      have H := HEM (by simp)
      clear HEM
      go_wp2
      go_ret
      exact H.out
    | true =>
      clear HEM
      obtain ⟨x1, i1, x2, i2, x3, i3, x4, i4, rfl, rfl, rfl, rfl, f1, f2, f3, f4⟩ := HOK3.out rfl
      have CS := ltimes_any q cap' ks x1 x2 x3 x4 g1 i1 i2 i3 i4 c1 (ptQ zs) w3 hn' hy HA3.out f1 f2 f3 f4 HD3.out
      clear f1 f2 f3 f4 HOK3 HD3 HA3
      go_wp2_with (first
        | (refine wpList_load_row rfl 55 (.tmp 7) rfl Ga rfl 55 _ (0, 0) _ HP3.out Try.underlying55 rfl Try.sizePt ?_)
        | fail)
      refine CS.mono ?_
      rintro e w6 ⟨a1, k1, a2, k2, a3, k3, a4, k4, rfl, f1, f2, f3, f4, b6⟩
      have HC := code_any (some ⟨a1, 0, none⟩) (some ⟨a2, 0, none⟩) (some ⟨a3, 0, none⟩) (some ⟨a4, 0, none⟩) k1 k2 k3 k4 _ _ _ w6 f1 f2 f3
      have HB6 : Hid (Below w.heap.size w w6) := HB3.out.trans (b6.mono HB3.out.size)
      clear f1 f2 f3 f4 b6 CS HB3 HP3
      go_wp2_with fail
      refine HC.mono ?_
      rintro e w7 ⟨v, bs, rfl, O, hbb, hbl, hbv, b7⟩
      have hpz := muZ_eq ⟨hn', HQ.out⟩ hbb hbl (show val 256 bs = muV (val 256 ks) (ptQ zs) from hbv)
      obtain ⟨g, c, rfl, hB, hg, hA⟩ := O.at2
      have HF : Hid (SmP w ks zs (.returned (.slice (some ⟨g, 0, none⟩) bs.length c)) w7) := by
        show SmP _ _ _ _ _
        unfold SmP
        rw [hpz]
        exact ⟨g, 0, c, rfl, hg, hA, HB6.out.trans (b7.mono HB6.out.size)⟩
      clear O hbb hbl hbv b7 hpz hA HC HB6
      go_wp2
      go_ret
      exact HF.out
  · have H := HEM (fun h => hm32 h.1)
    have hm33 : ¬ ((m : Int) = 32) := by omega
    have hm34 : ((m : Int) != 32) = true := by simpa using hm33
    clear HEM HOK3
    go_wp2
    go_ret
    exact H.out

set_option maxRecDepth 100000 in
set_option maxHeartbeats 4000000 in
theorem imul_any (q p : Option Addr) (m cap' n cap : Nat) (ks zs : List Int) (w : World) (hn' : ks.length = m) (hm' : m ≤ 1048576) (ha' : At .u8 w q ks) (hy : Byte ks) (hn : zs.length = n) (hm : n ≤ 1048576) (ha : At .u8 w p zs) (hz : Byte zs) :
    Calls Try.prog 17 #[.slice q m cap', .slice p n cap] w (PmuP w ks zs) := by
  have HB0 : Below w.heap.size w (w.alloc (.cells #[.int .u64 0, .int .u64 0, .int .u64 0, .int .u64 0, .int .u64 0, .int .u64 0, .int .u64 0, .int .u64 0, .int .u64 0, .int .u64 0, .int .u64 0, .int .u64 0, .int .u64 0, .int .u64 0, .int .u64 0, .int .u64 0, .int .u64 0, .int .u64 0, .int .u64 0, .int .u64 0] 45)) := below_new3 _ _
  have HP1 : Pt (w.alloc (.cells #[.int .u64 0, .int .u64 0, .int .u64 0, .int .u64 0, .int .u64 0, .int .u64 0, .int .u64 0, .int .u64 0, .int .u64 0, .int .u64 0, .int .u64 0, .int .u64 0, .int .u64 0, .int .u64 0, .int .u64 0, .int .u64 0, .int .u64 0, .int .u64 0, .int .u64 0, .int .u64 0] 45)) w.heap.size [0, 0, 0, 0, 0] [0, 0, 0, 0, 0] [0, 0, 0, 0, 0] [0, 0, 0, 0, 0] := ⟨heap_alloc_new w _, zero_ok, zero_ok, zero_ok, zero_ok⟩
  have ha1 := ha.below HB0
  have HNO : (¬ (ks.length = 32 ∧ mB zs mdD = true)) → ∀ wz, Below w.heap.size w wz → Hid (PmuP w ks zs (.returned (.slice none 0 0)) wz) := fun h wz hb => by
    show PmuP _ _ _ _ _
    unfold PmuP
    rw [muZ_no h]
    exact ⟨_, rfl, ⟨none, 0, rfl, .inl rfl, .inl rfl, fun ad h => by cases h⟩, hb⟩
  by_cases hm32 : m = 32
  · subst hm32
    go_enter Try.func17, Try.ntmps17
    go_wp2_with fail
    generalize w.alloc (.cells #[.int .u64 0, .int .u64 0, .int .u64 0, .int .u64 0, .int .u64 0, .int .u64 0, .int .u64 0, .int .u64 0, .int .u64 0, .int .u64 0, .int .u64 0, .int .u64 0, .int .u64 0, .int .u64 0, .int .u64 0, .int .u64 0, .int .u64 0, .int .u64 0, .int .u64 0, .int .u64 0] 45) = w0 at *
    refine (decode_any w.heap.size _ _ _ _ p n cap zs _ hn hm ha1 hz HP1).mono ?_
    rintro e w1 ⟨x1, y1, z1, t1, P1, hw1, rfl, hv1⟩
    have HB1 : Hid (Below w.heap.size w w1) := HB0.trans (hw1.below w.heap.size (Nat.le_refl _) HB0.size)
    have HA1 : Hid (At .u8 w1 q ks) := ha'.below HB1.out
    have HP1' : Hid (Pt w1 w.heap.size x1 y1 z1 t1) := P1
    have HV1 : Hid (dcR zs = true → ev x1 = dcX zs ∧ ev y1 = dcY zs ∧ ev z1 = 1 ∧ ev t1 = dcX zs * dcY zs % fp) := hv1
    clear hw1 HP1 HB0 ha1 P1 hv1 ha ha'
    have HDS : Hid (dcR zs = mB zs mdD) := dec_same zs hz
    rw [HDS.out]
    cases hb : mB zs mdD with
    | false =>
      have H := HNO (by rw [hb]; simp) w1 HB1.out
      clear HNO HB1 HA1 HP1' HV1
      go_wp2
      go_ret
      exact H.out
    | true =>
      obtain ⟨e1, e2, e3, e4⟩ := HV1.out (by rw [HDS.out]; exact hb)
      have q1 := decX_same zs (mB_len2 hb).1 hz (mB_len2 hb).2
      have HE : Hid (((ev x1, ev y1, ev z1, ev t1) : Q4) = ptQ zs) := by
        show _ = _
        unfold ptQ
        rw [e1, q1, e2, e3, e4, q1]; rfl
      clear e1 e2 e3 e4 q1 HV1 HNO
      go_wp2_with fail
      refine (nof_any q 32 cap' ks _ hn' (by decide) (by decide) HA1.out hy).mono ?_
      rintro e w2 ⟨ms, hl, hw, hv, rfl, b2⟩
      rw [List.take_of_length_le (by omega)] at hv
      have HB2 : Hid (Below w.heap.size w w2) := HB1.out.trans (b2.mono HB1.out.size)
      have HP2 : Hid (Pt w2 w.heap.size x1 y1 z1 t1) := HP1'.out.below b2 HP1'.out.row.lt
      have CM := multiply_any w.heap.size x1 y1 z1 t1 ms w2 HP2.out hl hw
      rw [HE.out, hv] at CM
      have hrd : Rd (ptQ zs) := by rw [← HE.out]; exact ⟨ev_bd _, ev_bd _, ev_bd _, ev_bd _⟩
      have HMV : Hid (cdV (pS (val 256 ks) (ptQ zs) 256).1 (pS (val 256 ks) (ptQ zs) 256).2.1 (pS (val 256 ks) (ptQ zs) 256).2.2.1 = muV (val 256 ks) (ptQ zs)) := muV_prog _ _ hrd
      clear b2 HB1 HA1 HP1' hl hw hv HE hrd
      go_wp2_with fail
      refine CM.mono ?_
      rintro e w3 ⟨x, y, z, t, P3, hw3, rfl, hq⟩
      have HB3 : Hid (Below w.heap.size w w3) := HB2.out.trans (hw3.below w.heap.size (Nat.le_refl _) HB2.out.size)
      have HP3 : Hid (Pt w3 w.heap.size x y z t) := P3
      have HCV : Hid (cdV (ev x) (ev y) (ev z) = muV (val 256 ks) (ptQ zs)) := by
        show _ = _
        rw [← HMV.out, ← hq]
      clear P3 hw3 HB2 HP2 CM hq HMV
      go_wp2_with fail
      refine (pcode_any w.heap.size x y z t _ HP3.out).mono ?_
      rintro e w4 ⟨ms, hl, hw, hv, rfl, b4⟩
      rw [HCV.out] at hv
      have HB4 : Hid (Below w.heap.size w w4) := HB3.out.trans (b4.mono HB3.out.size)
      match ms, hl with
      | [n0, n1, n2, n3], _ =>
      have HN : Hid (RowW (w4.alloc (.cells #[.int .u64 n0, .int .u64 n1, .int .u64 n2, .int .u64 n3] 36)) w4.heap.size 36 [n0, n1, n2, n3]) := heap_alloc_new w4 _
      have HB5 : Hid (Below w.heap.size w (w4.alloc (.cells #[.int .u64 n0, .int .u64 n1, .int .u64 n2, .int .u64 n3] 36))) := HB4.out.trans ((below_new3 _ _).mono HB4.out.size)
      have HW : Hid (Wrd [n0, n1, n2, n3] ∧ val 18446744073709551616 [n0, n1, n2, n3] = muV (val 256 ks) (ptQ zs)) := ⟨hw, hv⟩
      clear b4 HB3 HP3 hw hv HCV HB4
      simp only [List.map_cons, List.map_nil]
      go_wp2_with fail
      generalize w4.alloc (.cells #[.int .u64 n0, .int .u64 n1, .int .u64 n2, .int .u64 n3] 36) = w5 at *
      refine (text_any w4.heap.size [n0, n1, n2, n3] _ rfl HN.out HW.out.1).mono ?_
      rintro e w6 ⟨bs, hbl, hbb, hbv, rfl, O, b6⟩
      have HF : Hid (PmuP w ks zs (.returned (.slice (some ⟨w5.heap.size, 0, none⟩) 32 32)) w6) := by
        show PmuP _ _ _ _ _
        unfold PmuP
        rw [muZ_eq ⟨hn', hb⟩ hbb hbl (by rw [hbv]; exact HW.out.2)]
        have R := own_res O
        obtain ⟨a, c, e, r1, r2, r3⟩ := R
        exact ⟨_, rfl, ⟨a, c, e, r1, r2, fun ad h => Nat.le_trans HB5.out.size (r3 ad h)⟩, HB5.out.trans (b6.mono HB5.out.size)⟩
      clear hbl hbb hbv O b6 HN HW HB5
      go_wp2
      go_ret
      exact HF.out
  · have H := HNO (fun h => hm32 (by omega)) _ HB0
    have hm33 : ¬ ((m : Int) = 32) := by omega
    have hm34 : ((m : Int) != 32) = true := by simpa using hm33
    clear HNO HP1 ha1 HB0
    go_enter Try.func17, Try.ntmps17
    go_wp2
    go_ret
    exact H.out
end Go.Proofs.Ytdaglofgioehhaa
