/-
  Own work: lwAt, lwScalar of the laws.
-/
import Derived.Test.YtdaglofgioehhaaEsc
import Derived.Test.YtdaglofgioehhaaMBase
import Derived.Laws.BytesArg
import Derived.Test.YtdaglofgioehhaaMRtM
import Derived.Test.YtdaglofgioehhaaICd
import Derived.Test.YtdaglofgioehhaaMIMu
namespace Go.Proofs.Ytdaglofgioehhaa
open Go.ChangeShapes Go.WideShapes Go.ChangeAt Go.RowKit
set_option linter.unusedVariables false

set_option maxHeartbeats 1000000 in
theorem lwAt_any (a : Option Addr) (n cap k : Nat) (zs : List Int) (w : World) (hn : zs.length = n) (ha : At .u8 w a zs) (hz : Byte zs) (hk : k ≤ 100) :
    Calls Try.prog 25 #[.slice a n cap, .int .i64 k] w (fun e w' => ∃ y : Int, e = .returned (.int .i64 y) ∧ 0 ≤ y ∧ y ≤ 255 ∧ w' = w) := by
  by_cases h : k < n
  · have h' : (k : Int) < (n : Int) := by omega
    obtain ⟨b, off, rfl, hb, hc⟩ := ha.get (by omega)
    have c1 := hc k (by omega)
    obtain ⟨z0, z1⟩ := getD_byteE hz k
    clear hc ha hz
    generalize zs.getD k 0 = z at *
    go_enter Try.func25, Try.ntmps25
    go_wp2
    go_ret
    exact ⟨z, rfl, by omega, by omega, rfl⟩
  · have h' : ¬ (k : Int) < (n : Int) := by omega
    go_enter Try.func25, Try.ntmps25
    go_wp2
    go_ret
    exact ⟨_, rfl, by omega, by omega, rfl⟩
set_option maxHeartbeats 1000000 in
theorem lwSc_any (x : Int) (w : World) (hx0 : 0 ≤ x) (hx1 : x < 33554432) :
    Calls Try.prog 26 #[.int .i64 x] w (fun e w' => ∃ v zs, e = .returned v ∧ Own w' w.heap.size v zs ∧ Byte zs ∧ zs.length = 32 ∧ val 256 zs = x ∧ Below w.heap.size w w') := by
  go_enter Try.func26, Try.ntmps26
  go_wp2
  go_loopw [0, 3, 4] (fun s v i wr => ∃ (k : Nat) (y : Int) (zs : List Int), k ≤ 32 ∧ i = .int .i64 k ∧ s = .int .i64 y ∧ 0 ≤ y ∧ y < 33554432 ∧ zs.length = k ∧ Byte zs ∧ val 256 zs + 256 ^ k * y = x ∧ Own wr w.heap.size v zs ∧ Below w.heap.size w wr) (fun _ _ i _ => 32 - (intOf i).toNat)
  case atStart => exact ⟨0, x, [], by omega, rfl, rfl, hx0, hx1, rfl, (fun v hv => by cases hv), by simp [val], Own.empty _ _ (Nat.le_refl _), (Below.refl _ _).alloc (Nat.le_refl _) _⟩
  case round =>
    obtain ⟨k, y, zs, hk, rfl, rfl, hy0, hy1, hl, hz, hv, hown, hbel⟩ := hrel
    have hsz := hbel.size
    by_cases hlt : k < 32
    · have hlt' : (k : Int) < 32 := by omega
      go_wp2_with (at_builtin; refine wpList_app _ rfl _ _ rfl w.heap.size _ _ rfl (hown.alloc _) ⟨wr.heap.size, 0, none⟩ 1 1 [y % 256] rfl rfl ?c1 ?c2 ?c3 ?_)
      all_goals first | (intro j hj; obtain rfl : j = 0 := by omega
                         simp [Addr.add]; done) | skip
      case c2 => omega
      case c3 => first | omega | (rw [World.size_alloc]; omega)
      intro v' w1 hown' hbel' _
      have HO := hid_ofE (And.intro hown' ((hbel.alloc (by omega) _).trans hbel'))
      have HV : Hid (val 256 (zs ++ [y % 256]) + 256 ^ (k + 1) * (y / 256) = x) := by
        show _ = _
        rw [val_append, hl, Int.pow_succ, ← hv]
        have e : y = y % 256 + 256 * (y / 256) := by omega
        generalize y % 256 = r at *
        generalize y / 256 = d at *
        subst e
        simp only [val]
        generalize (256 : Int) ^ k = p
        grind
      clear hown hown' hbel hbel' hv
      go_wp2
      go_roundw
      case rel => exact ⟨k + 1, y / 256, zs ++ [y % 256], by omega, by go_num, rfl, by omega, by omega, by simp; omega, byte_app1 hz (by omega), HV.out, HO.out.1, HO.out.2⟩
      case measure => simp [intOf]; omega
    · have hk32 : k = 32 := by omega
      subst hk32
      have hy : y = 0 := by
        have v0 := val_nonneg (B := 256) (by decide) hz
        have hp : (256 : Int) ^ 32 = 115792089237316195423570985008687907853269984665640564039457584007913129639936 := by decide
        rw [hp] at hv
        omega
      subst hy
      have HF := hid_ofE (And.intro hown (And.intro hbel (show val 256 zs = x by rw [← hv]; omega)))
      clear hown hbel hv
      go_wp2
      go_ret
      exact ⟨_, zs, rfl, HF.out.1, hz, hl, HF.out.2.2, HF.out.2.1⟩
end Go.Proofs.Ytdaglofgioehhaa
namespace Go.Proofs.Ytdaglofgioehhaa
open Go.ChangeShapes Go.WideShapes Go.ChangeAt Go.RowKit
set_option linter.unusedVariables false

theorem strR_inj {xs ys : List Int} (hx : Byte xs) (hy : Byte ys) : ((strOfNums xs).toList == (strOfNums ys).toList) = decide (xs = ys) := by
  rw [Bool.eq_iff_iff, decide_eq_true_eq, beq_iff_eq, ByteArray.toList_eq, ByteArray.toList_eq, strOfNums_data, strOfNums_data]
  constructor
  · intro h
    have hl : xs.length = ys.length := by simpa using congrArg List.length h
    apply List.ext_getElem hl
    intro i h1 h2
    have e : (xs.map fun n => UInt8.ofNat n.toNat)[i]? = (ys.map fun n => UInt8.ofNat n.toNat)[i]? := by rw [h]
    simp [h1, h2] at e
    have e' := congrArg UInt8.toNat e
    have bx := hx xs[i] (List.getElem_mem h1)
    have by' := hy ys[i] (List.getElem_mem h2)
    simp only [UInt8.toNat_ofNat'] at e'
    omega
  · rintro rfl; rfl


theorem convR_any (a : Option Addr) (n cap : Nat) (xs : List Int) (w : World) (hn : xs.length = n) (ha : At .u8 w a xs) :
    (convert 22 9 (.slice a n cap)).run Try.prog w = .ok (.string (strOfNums xs)) w := by
  by_cases h0 : xs = []
  · subst h0
    obtain rfl : n = 0 := by simpa using hn.symm
    cases a with
    | none => exact run_convert_bytes_nil w 22 5 Try.underlying22 Try.underlying5 0 cap 9 Try.underlying9
    | some ad =>
      rw [run_convert_bytes_string w 22 9 5 _ 0 cap Try.underlying22 Try.underlying5 Try.underlying9]
      exact run_bytesToString w ad 0 cap [] (by simp [loadCells, loadCellsFrom])
  · rcases ha with h | ⟨b, off, rfl, hb, hc⟩
    · exact absurd h h0
    · exact run_convert_bytes_arg w 22 5 Try.underlying22 Try.underlying5 b off n cap xs hn (fun i hi => hc i (by omega)) 9 Try.underlying9

set_option maxHeartbeats 400000 in
theorem lwR_any (a a' : Option Addr) (n n' cap cap' : Nat) (xs ys : List Int) (w : World) (hn : xs.length = n) (hn' : ys.length = n') (ha : At .u8 w a xs) (ha' : At .u8 w a' ys) (bx : Byte xs) (by' : Byte ys) :
    Calls Try.prog 16 #[.slice a n cap, .slice a' n' cap'] w fun e w' => e = .returned (.bool (decide (xs = ys))) ∧ w' = w := by
  have c1 := convR_any a n cap xs w hn ha
  have c2 := convR_any a' n' cap' ys w hn' ha'
  have hi := strR_inj bx by'
  clear ha ha'
  go_enter Try.func16, Try.ntmps16
  go_wp2
  go_ret
  exact ⟨rfl, rfl⟩
end Go.Proofs.Ytdaglofgioehhaa
namespace Go.Proofs.Ytdaglofgioehhaa
open Go.ChangeShapes Go.WideShapes Go.ChangeAt Go.RowKit
set_option linter.unusedVariables false

set_option maxHeartbeats 1000000 in
theorem spk_any (p : Option Addr) (n cap : Nat) (zs : List Int) (w : World) (hn : zs.length = n) (hm : n ≤ 1048576) (ha : At .u8 w p zs) (hz : Byte zs) :
    Calls Try.prog 22 #[.slice p n cap] w fun e w' => e = .returned (.bool (mB zs mdD)) ∧ Below w.heap.size w w' := by
  have HA : Hid (At .u8 w p zs) := ha
  clear ha
  go_enter Try.func22, Try.ntmps22
  go_wp2_with fail
  refine (d_any _).mono ?_
  rintro e w1 ⟨g1, c1, rfl, k1, l1, hf, hb⟩
  have HB : Hid (Below w.heap.size w w1) := hb
  have ha1 := HA.out.below hb
  clear hb HA
  go_wp2_with fail
  refine (decodeS_any p _ n cap c1 zs mdD _ hn hm ha1 hz hf).mono ?_
  rintro e w2 ⟨s1, s2, s3, s4, rfl, hb2, hone, _⟩
  have HON : Hid (s1.oneCell' = true ∧ s2.oneCell' = true ∧ s3.oneCell' = true ∧ s4.oneCell' = true) := hone
  have HPN : Hid (PtW (w2.alloc (.cells #[.slice none 0 0, .slice none 0 0, .slice none 0 0, .slice none 0 0] 55)) w2.heap.size #[.slice none 0 0, .slice none 0 0, .slice none 0 0, .slice none 0 0]) := PtW.new w2
  have HB2 : Hid (Below w.heap.size w w2) := HB.out.trans (hb2.mono HB.out.size)
  clear hb2 HB ha1 hf hone
  generalize hq : mB zs mdD = q at *
  have HQ : Hid (mB zs mdD = q) := hq
  clear hq
  go_wp2_with (first
    | (refine wpList_storePt rfl (.tmp 4) (.tmp 10) rfl w2.heap.size s1 s2 s3 s4 _ HON.out.1 HON.out.2.1 HON.out.2.2.1 HON.out.2.2.2 rfl rfl rfl HPN.out ?_)
    | fail)
  intro w3 _ hw3
  have HB3 : Hid (Below w.heap.size w w3) := HB2.out.trans (((below_new3 _ _).trans (hw3.below (Nat.le_refl _))).mono HB2.out.size)
  clear hw3 HB2 HPN
  go_wp2
  go_ret
  exact ⟨by rw [HQ.out]; rfl, HB3.out⟩

theorem pt_new (w : World) : Pt (w.alloc (.cells #[.int .u64 0, .int .u64 0, .int .u64 0, .int .u64 0, .int .u64 0, .int .u64 0, .int .u64 0, .int .u64 0, .int .u64 0, .int .u64 0, .int .u64 0, .int .u64 0, .int .u64 0, .int .u64 0, .int .u64 0, .int .u64 0, .int .u64 0, .int .u64 0, .int .u64 0, .int .u64 0] 45)) w.heap.size [0, 0, 0, 0, 0] [0, 0, 0, 0, 0] [0, 0, 0, 0, 0] [0, 0, 0, 0, 0] :=
  ⟨heap_alloc_new w _, zero_ok, zero_ok, zero_ok, zero_ok⟩
set_option maxHeartbeats 1000000 in
theorem ipk_any (p : Option Addr) (n cap : Nat) (zs : List Int) (w : World) (hn : zs.length = n) (hm : n ≤ 1048576) (ha : At .u8 w p zs) (hz : Byte zs) :
    Calls Try.prog 23 #[.slice p n cap] w fun e w' => e = .returned (.bool (mB zs mdD)) ∧ Below w.heap.size w w' := by
  have HB0 := below_new3 w (.cells #[.int .u64 0, .int .u64 0, .int .u64 0, .int .u64 0, .int .u64 0, .int .u64 0, .int .u64 0, .int .u64 0, .int .u64 0, .int .u64 0, .int .u64 0, .int .u64 0, .int .u64 0, .int .u64 0, .int .u64 0, .int .u64 0, .int .u64 0, .int .u64 0, .int .u64 0, .int .u64 0] 45)
  have HPT := pt_new w
  have ha1 := ha.below HB0
  go_enter Try.func23, Try.ntmps23
  go_wp2_with fail
  generalize w.alloc (.cells #[.int .u64 0, .int .u64 0, .int .u64 0, .int .u64 0, .int .u64 0, .int .u64 0, .int .u64 0, .int .u64 0, .int .u64 0, .int .u64 0, .int .u64 0, .int .u64 0, .int .u64 0, .int .u64 0, .int .u64 0, .int .u64 0, .int .u64 0, .int .u64 0, .int .u64 0, .int .u64 0] 45) = w0 at *
  refine (decode_any w.heap.size _ _ _ _ p n cap zs _ hn hm ha1 hz HPT).mono ?_
  rintro e w1 ⟨x, y, z, t, _, hw, rfl, _⟩
  have HB1 : Hid (Below w.heap.size w w1) := HB0.trans (hw.below w.heap.size (Nat.le_refl _) HB0.size)
  rw [dec_same zs hz]
  clear hw HPT HB0 ha1
  generalize hq : mB zs mdD = q at *
  have HQ : Hid (mB zs mdD = q) := hq
  clear hq
  go_wp2
  go_ret
  exact ⟨by rw [HQ.out]; rfl, HB1.out⟩
end Go.Proofs.Ytdaglofgioehhaa
namespace Go.Proofs.Ytdaglofgioehhaa
open Go.ChangeShapes Go.WideShapes Go.ChangeAt Go.RowKit
set_option linter.unusedVariables false

/-- The code of the sum of two points. -/
def sdV (X1 Y1 Z1 T1 X2 Y2 Z2 T2 : Int) : Int :=
  cdV ((smB X1 Y1 X2 Y2 - smA X1 Y1 X2 Y2) % fp * ((smG Z1 Z2 - smC mdD T1 T2) % fp) % fp) ((smG Z1 Z2 + smC mdD T1 T2) % fp * ((smB X1 Y1 X2 Y2 + smA X1 Y1 X2 Y2) % fp) % fp) ((smG Z1 Z2 - smC mdD T1 T2) % fp * ((smG Z1 Z2 + smC mdD T1 T2) % fp) % fp)
def padV (zs ys : List Int) : Int := sdV (mX zs mdD) (mY zs) (1 % fp) (mX zs mdD * mY zs % fp) (mX ys mdD) (mY ys) (1 % fp) (mX ys mdD * mY ys % fp)
open Classical in
/-- The answer's bytes. -/
noncomputable def paZ (zs ys : List Int) : List Int := if h : ∃ rs : List Int, (mB zs mdD = true ∧ mB ys mdD = true) ∧ Byte rs ∧ rs.length = 32 ∧ val 256 rs = padV zs ys then h.choose else []
theorem paZ_eq {zs ys rs : List Int} (hn : mB zs mdD = true ∧ mB ys mdD = true) (hb : Byte rs) (hl : rs.length = 32) (hv : val 256 rs = padV zs ys) : paZ zs ys = rs := by
  have hex : ∃ rs : List Int, (mB zs mdD = true ∧ mB ys mdD = true) ∧ Byte rs ∧ rs.length = 32 ∧ val 256 rs = padV zs ys := ⟨rs, hn, hb, hl, hv⟩
  unfold paZ
  rw [dif_pos hex]
  obtain ⟨h0, h1, h2, h3⟩ := hex.choose_spec
  exact val_inj (B := 256) (by decide) h1 hb (by omega) (by rw [h3, hv])
theorem paZ_no {zs ys : List Int} (hn : ¬ (mB zs mdD = true ∧ mB ys mdD = true)) : paZ zs ys = [] := by
  unfold paZ; rw [dif_neg]; rintro ⟨rs, h, _⟩; exact hn h
theorem paZ_len (zs ys : List Int) : (paZ zs ys).length ≤ 32 := by
  unfold paZ; split
  · next h => exact Nat.le_of_eq h.choose_spec.2.2.1
  · simp
/-- What a PointAdd answers. -/
def PadP (w : World) (zs ys : List Int) (e : Ending) (w' : World) : Prop := ∃ v, e = .returned v ∧ ResO w.heap.size w' v (paZ zs ys) ∧ Below w.heap.size w w'

/-- What the model's PointAdd answers. -/
def SpP (w : World) (zs ys : List Int) (e : Ending) (w' : World) : Prop := ∃ b o c, e = .returned (.slice (some ⟨b, o, none⟩) (paZ zs ys).length c) ∧ b < w'.heap.size ∧ At .u8 w' (some ⟨b, o, none⟩) (paZ zs ys) ∧ Below w.heap.size w w'
theorem PtW.wr {w w' : World} {g V : Nat} {cs : Array Value} (h : PtW w g cs) (hw : Wr V w w') (hne : g ≠ V) : PtW w' g cs := by unfold PtW; rw [hw.block g hne]; exact h
end Go.Proofs.Ytdaglofgioehhaa
