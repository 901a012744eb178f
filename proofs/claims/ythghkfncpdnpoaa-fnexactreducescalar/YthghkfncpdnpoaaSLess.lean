/-
  Own work: the model's difference of two numbers of bytes.
-/
import Derived.Test.YthghkfncpdnpoaaVal
import Derived.Test.YthghkfncpdnpoaaOwnB
namespace Go.Proofs.Ythghkfncpdnpoaa
open Go.ChangeShapes Go.WideShapes Go.ChangeAt Go.RowKit
set_option linter.unusedVariables false

def lB : List Int := [0xed, 0xd3, 0xf5, 0x5c, 0x1a, 0x63, 0x12, 0x58, 0xd6, 0x9c, 0xf7, 0xa2, 0xde, 0xf9, 0xde, 0x14, 0, 0, 0, 0, 0, 0, 0, 0, 0, 0, 0, 0, 0, 0, 0, 0x10]
def bigL : Int := 7237005577332262213973186563042994240857116359379907606001950938285454250989
theorem lB_val : val 256 lB = bigL := by decide
theorem lB_byte : Byte lB := by unfold Byte lB; decide

theorem Own.lit (w : World) (B : Nat) (zs : List Int) (hB : B ≤ w.heap.size) (hl : zs.length ≤ 1024) : Own (w.alloc (.cells (zs.map (Value.int .u8)).toArray 5)) B (.slice (some ⟨w.heap.size, 0, none⟩) zs.length zs.length) zs :=
  ⟨by
    have := World.ownsRow_lit w (e := 5) (size := 1) (base := B) (zs.map (Value.int .u8)).toArray zs.length hB (by unfold maxLen; omega) (by simp)
    exact this, _, _, rfl⟩

set_option maxHeartbeats 400000 in
theorem l4L_any (w : World) :
    Calls Try.prog 25 #[] w fun e w' => ∃ v, e = .returned v ∧ Own w' w.heap.size v lB ∧ Below w.heap.size w w' := by
  have HO := Own.lit w w.heap.size lB (Nat.le_refl _) (by decide)
  go_enter Try.func25, Try.ntmps25
  go_wp2
  go_ret
  exact ⟨_, rfl, HO, (Below.refl _ _).alloc (Nat.le_refl _) _⟩

/-- What a difference leaves: the digits, and whether the first is not below the second. -/
def LessPost (w : World) (xs ys : List Int) (e : Ending) (w' : World) : Prop :=
  ∃ v zs, e = .returned (.tuple #[v, .bool (decide (val 256 ys ≤ val 256 xs))]) ∧ Own w' w.heap.size v zs ∧ Byte zs ∧ zs.length = xs.length ∧ (val 256 ys ≤ val 256 xs → val 256 zs = val 256 xs - val 256 ys) ∧ Below w.heap.size w w'

theorem less_step (p q z P x y b x' b' : Int) (h : p - q = z - b * P) (hx : x' - b' * 256 = x - y - b) : (p + x * P) - (q + y * P) = (z + x' * P) - b' * (P * 256) := by
  have : (x' - b' * 256) * P = (x - y - b) * P := by rw [hx]
  grind
theorem less_end (p q z P b : Int) (h : p - q = z - b * P) (hz : 0 ≤ z) (hz' : z < P) (hb : b = 0 ∨ b = 1) : (b == 0) = decide (q ≤ p) ∧ (q ≤ p → z = p - q) := by
  rcases hb with rfl | rfl
  · have : q ≤ p := by omega
    simp [this]; omega
  · have : ¬ q ≤ p := by omega
    simp [this]

set_option maxHeartbeats 400000 in
theorem less_any (a a' : Option Addr) (n cap cap' : Nat) (xs ys : List Int) (w : World) (hn : xs.length = n) (hn' : ys.length = n) (hm : n ≤ 1048576) (ha : At .u8 w a xs) (ha' : At .u8 w a' ys) (hx : Byte xs) (hy : Byte ys) :
    Calls Try.prog 24 #[.slice a n cap, .slice a' n cap'] w (LessPost w xs ys) := by
  go_enter Try.func24, Try.ntmps24
  go_wp2
  go_loopw [6, 7, 8] (fun v c i wr => ∃ (k : Nat) (zs : List Int) (b : Int), k ≤ n ∧ i = .int .i64 k ∧ c = .int .i64 b ∧ (b = 0 ∨ b = 1) ∧ zs.length = k ∧ Byte zs ∧ val 256 (xs.take k) - val 256 (ys.take k) = val 256 zs - b * 256 ^ k ∧ Own wr w.heap.size v zs ∧ Below w.heap.size w wr) (fun _ _ i _ => n - (intOf i).toNat)
  case atStart => exact ⟨0, [], 0, Nat.zero_le _, rfl, rfl, .inl rfl, rfl, by simp [Byte], by simp [val], Own.empty _ _ (Nat.le_refl _), (Below.refl _ _).alloc (Nat.le_refl _) _⟩
  case round =>
    obtain ⟨k, zs, b, hk, rfl, rfl, hb, hzl, hzb, hv, hown, hbel⟩ := hrel
    by_cases hlt : k < n
    · have hsz := hbel.size
      have vx := val_take 256 xs k (by omega)
      have vy := val_take 256 ys k (by omega)
      obtain ⟨b0, off, rfl, hb0, hc⟩ := (ha.below hbel).get (by omega)
      obtain ⟨b1, off', rfl, hb1, hc'⟩ := (ha'.below hbel).get (by omega)
      have c0 := hc k (by omega)
      have c1 := hc' k (by omega)
      have hx0 := hx.get k
      have hy0 := hy.get k
      obtain ⟨x', b', hb', hx0', hx1', hx2⟩ : ∃ x' b' : Int, (b' = 0 ∨ b' = 1) ∧ 0 ≤ x' ∧ x' < 256 ∧ x' - b' * 256 = xs.getD k 0 - ys.getD k 0 - b := by
        by_cases h : xs.getD k 0 - ys.getD k 0 - b < 0
        · exact ⟨xs.getD k 0 - ys.getD k 0 - b + 256, 1, .inr rfl, by omega, by omega, by omega⟩
        · exact ⟨xs.getD k 0 - ys.getD k 0 - b, 0, .inl rfl, by omega, by omega, by omega⟩
      have hstep := less_step _ _ _ _ _ _ _ _ _ hv hx2
      rw [← vx, ← vy, show (256 : Int) ^ k * 256 = 256 ^ (k + 1) from (Int.pow_succ _ _).symm, ← hzl, ← val_snoc, hzl] at hstep
      have HS : Hid _ := hstep
      have HBy : Hid (Byte (zs ++ [x'])) := Dig.snoc (B := 256) hzb hx0' hx1'
      have HZL : Hid (zs.length = k) := hzl
      clear hstep hv vx vy hc hc' ha ha' hx hy hzb hzl
      generalize xs.getD k 0 = x at *
      generalize ys.getD k 0 = y at *
      obtain ⟨hx0, hx1⟩ := hx0
      obtain ⟨hy0, hy1⟩ := hy0
      have hlt' : (k : Int) < (n : Int) := by omega
      go_wp2
      go_quiet (fail)
      have O2 : Own (wr.drewN nq) w.heap.size u6 zs := hown
      have B2 : Below w.heap.size w (wr.drewN nq) := ⟨hbel.os, hbel.tape, hbel.output, hbel.size, hbel.block⟩
      have Z2 : w.heap.size ≤ (wr.drewN nq).heap.size := hsz
      clear hown hbel hsz c0 c1 hb0 hb1
      generalize wr.drewN nq = w2 at *
      have ht0 : -257 < x - y - b := by omega
      have ht1 : x - y - b < 256 := by omega
      generalize x - y - b = t at *
      by_cases hneg : t < 0
      · obtain rfl : b' = 1 := by omega
        obtain rfl : x' = t + 256 := by omega
        clear hx2 hb hb'
        go_wp2_with (at_builtin; refine wpList_app _ rfl _ _ rfl w.heap.size _ _ rfl (O2.alloc _) ⟨w2.heap.size, 0, none⟩ 1 1 [t + 256] rfl rfl ?c1 ?c2 ?c3 ?_)
        all_goals first | (intro j hj; obtain rfl : j = 0 := by omega
                           simp [Addr.add]; done) | skip
        case c2 => rw [HZL.out]; omega
        case c3 => first | omega | (rw [World.size_alloc]; omega)
        intro v' w3 hown' hbel' _
        have HO : Hid (Own w3 w.heap.size v' (zs ++ [t + 256])) := hown'
        have HB : Hid (Below w.heap.size w w3) := (B2.alloc (by omega) _).trans hbel'
        clear O2 hown' B2 hbel'
        go_wp2
        go_roundw
        case rel => exact ⟨k + 1, zs ++ [t + 256], 1, by omega, by go_num, rfl, .inr rfl, by rw [List.length_append, HZL.out]; rfl, HBy.out, HS.out, HO.out, HB.out⟩
        case measure => simp [intOf]; omega
      · obtain rfl : b' = 0 := by omega
        obtain rfl : x' = t := by omega
        have hneg' : decide (x' < 0) = false := by simpa using hneg
        clear hx2 hb hb' hneg'
        go_wp2_with (at_builtin; (refine wpList_app _ rfl _ _ rfl w.heap.size _ _ rfl (O2.alloc _) ⟨w2.heap.size, 0, none⟩ 1 1 [x'] rfl rfl ?d1 ?d2 ?d3 ?_))
        all_goals first | (intro j hj; obtain rfl : j = 0 := by omega
                           simp [Addr.add]; done) | skip
        case d2 => rw [HZL.out]; omega
        case d3 => first | omega | (rw [World.size_alloc]; omega)
        intro v' w3 hown' hbel' _
        have HO : Hid (Own w3 w.heap.size v' (zs ++ [x'])) := hown'
        have HB : Hid (Below w.heap.size w w3) := (B2.alloc (by omega) _).trans hbel'
        clear O2 hown' B2 hbel'
        go_wp2
        go_roundw
        case rel => exact ⟨k + 1, zs ++ [x'], 0, by omega, by go_num, rfl, .inl rfl, by rw [List.length_append, HZL.out]; rfl, HBy.out, HS.out, HO.out, HB.out⟩
        case measure => simp [intOf]; omega
    · rw [List.take_of_length_le (by omega), List.take_of_length_le (by omega)] at hv
      have z0 : 0 ≤ val 256 zs := val_nonneg (by decide) hzb
      have z1 : val 256 zs < 256 ^ k := by rw [← hzl]; exact val_lt (by decide) hzb
      obtain ⟨e1, e2⟩ := less_end _ _ _ _ _ hv z0 z1 hb
      have H1 : Hid ((b == 0) = decide (val 256 ys ≤ val 256 xs)) := e1
      have H2 : Hid (val 256 ys ≤ val 256 xs → val 256 zs = val 256 xs - val 256 ys) := e2
      have H3 : Hid (Own wr w.heap.size u6 zs) := hown
      have HZL : Hid (zs.length = xs.length) := by rw [hzl]; show k = xs.length; omega
      clear e1 e2 z0 z1 hv hown hzl
      go_wp2
      refine bodyPost_ret (v := .tuple #[u6, .bool (b == 0)]) (by simp [results, Try.results24, go_sem]) rfl ⟨u6, zs, by rw [H1.out], H3.out, hzb, HZL.out, H2.out, hbel⟩
end Go.Proofs.Ythghkfncpdnpoaa
