/-
  Own work: the model's rest modulo L, and its test of a scalar.
-/
import Derived.Test.YthghkfncpdnpoaaSLess
namespace Go.Proofs.Ythghkfncpdnpoaa
open Go.ChangeShapes Go.WideShapes Go.ChangeAt Go.RowKit
set_option linter.unusedVariables false

/-- The value of the bits from j on, modulo L. -/
def restAt (V : Int) (j : Nat) : Int := V / 2 ^ j % bigL
theorem restAt_bd (V : Int) (j : Nat) : 0 ≤ restAt V j ∧ restAt V j < bigL := by
  unfold restAt bigL; omega
theorem restAt_zero (V : Int) : restAt V 0 = V % bigL := by simp [restAt]
def bitAt (V : Int) (j : Nat) : Int := V / 2 ^ j % 2
theorem bitAt_bd (V : Int) (j : Nat) : bitAt V j = 0 ∨ bitAt V j = 1 := by unfold bitAt; omega
theorem restAt_step (V : Int) (j : Nat) : restAt V j = if bigL ≤ 2 * restAt V (j + 1) + bitAt V j then 2 * restAt V (j + 1) + bitAt V j - bigL else 2 * restAt V (j + 1) + bitAt V j := by
  unfold restAt bitAt bigL
  have e : V / 2 ^ (j + 1) = V / 2 ^ j / 2 := by rw [Int.pow_succ, Int.ediv_ediv_of_nonneg (Int.pow_nonneg (by decide))]
  rw [e]
  generalize V / 2 ^ j = q
  split <;> omega
theorem restAt_top (V : Int) (j : Nat) (h0 : 0 ≤ V) (h : V < 2 ^ j) : restAt V j = 0 := by
  unfold restAt; rw [Int.ediv_eq_zero_of_lt h0 h]; rfl
theorem pow256 (n : Nat) : (256 : Int) ^ n = 2 ^ (8 * n) := by rw [show (256 : Int) = 2 ^ 8 from rfl, ← Int.pow_mul]
theorem bitAt_byte (zs : List Int) (j : Nat) (hz : Byte zs) : bitAt (val 256 zs) j = zs.getD (j / 8) 0 / 2 ^ (j % 8) % 2 := by
  induction zs generalizing j with
  | nil => simp [val, bitAt]
  | cons z zs ih =>
    obtain ⟨h0, h1⟩ := Dig.head (B := 256) hz
    by_cases hj : j < 8
    · have e1 : j / 8 = 0 := by omega
      have e2 : j % 8 = j := by omega
      rw [e1, e2]
      simp only [val, bitAt, List.getD_cons_zero]
      have : j = 0 ∨ j = 1 ∨ j = 2 ∨ j = 3 ∨ j = 4 ∨ j = 5 ∨ j = 6 ∨ j = 7 := by omega
      rcases this with rfl | rfl | rfl | rfl | rfl | rfl | rfl | rfl <;> simp only [Int.pow_succ, Int.pow_zero] <;> omega
    · obtain ⟨i, rfl⟩ : ∃ i, j = i + 8 := ⟨j - 8, by omega⟩
      have e1 : (i + 8) / 8 = i / 8 + 1 := by omega
      have e2 : (i + 8) % 8 = i % 8 := by omega
      rw [e1, e2, List.getD_cons_succ, ← ih i (Dig.tail (B := 256) hz)]
      simp only [val, bitAt]
      have e3 : (2 : Int) ^ (i + 8) = 256 * 2 ^ i := by rw [Int.pow_add, Int.mul_comm]; rfl
      rw [e3, ← Int.ediv_ediv_of_nonneg (by decide)]
      have e4 : (z + 256 * val 256 zs) / 256 = val 256 zs := by omega
      rw [e4]

theorem twice_step (p s P d c b t : Int) (h : s + c * P = 2 * p + b) : (s + (2 * d + c) % 256 * P) + (2 * d + c) / 256 * (P * 256) = 2 * (p + d * P) + b := by
  have := val_carry 256 P (2 * d) s (2 * p + b) c (2 * d * P) h rfl
  grind

theorem Own.grow2 {w w' : World} {B : Nat} {v : Value} {zs : List Int} (h : Own w B v zs) (hb : Below w.heap.size w w') : Own w' B v zs := by
  refine ⟨⟨h.1.1, ?_⟩, h.2⟩
  rcases h.1.2 with h' | ⟨g, c, cur, h1, h2, h3, h4⟩
  · exact .inl h'
  · exact .inr ⟨g, c, cur, h1, h2, by rw [hb.block g (Array.getElem?_eq_some_iff.1 h3).1]; exact h3, h4⟩
theorem Own.lower2 {w : World} {B B' : Nat} {v : Value} {zs : List Int} (h : Own w B' v zs) (hB : B ≤ B') : Own w B v zs := by
  obtain ⟨⟨h1, h2⟩, h3⟩ := h
  refine ⟨⟨h1, ?_⟩, h3⟩
  rcases h2 with h | ⟨g, c, cur, h4, h5, h6⟩
  · exact .inl h
  · exact .inr ⟨g, c, cur, h4, by omega, h6⟩
theorem Own.at_ {w : World} {B : Nat} {v : Value} {zs : List Int} (h : Own w B v zs) : ∃ g c, v = .slice (some ⟨g, 0, none⟩) zs.length c ∧ B ≤ g ∧ g < w.heap.size ∧ At .u8 w (some ⟨g, 0, none⟩) zs := by
  obtain ⟨g, c, rfl, hb, hg, hc⟩ := h.base
  exact ⟨g, c, rfl, hb, hg, .inr ⟨g, 0, rfl, hg, fun i hi => by rw [Nat.zero_add, h.1.cellAt i (by omega)]; simp [hi]⟩⟩
theorem shr_bit {x b : Int} {r : Nat} (h0 : 0 ≤ x) (h1 : x < 256) (h : b = x / 2 ^ r % 2) : (wrap64 (x / 2 ^ r)).tmod 2 = b := by
  have hp : (0 : Int) < 2 ^ r := Int.pow_pos (by decide)
  have a0 : 0 ≤ x / 2 ^ r := Int.ediv_nonneg h0 (by omega)
  have a1 : x / 2 ^ r ≤ x := Int.ediv_le_self _ h0
  generalize x / 2 ^ r = y at *
  have : wrap64 y = y := by unfold wrap64; omega
  rw [this, Int.tmod_eq_emod_of_nonneg a0, h]
theorem red_end {V m z : Int} {j : Nat} (hm : m = 2 * restAt V (j + 1) + bitAt V j) (h : bigL ≤ m → z = m - bigL) : (bigL ≤ m → z = restAt V j) ∧ (¬ bigL ≤ m → m = restAt V j) := by
  have := restAt_step V j
  rw [← hm] at this
  refine ⟨fun hh => ?_, fun hh => ?_⟩
  · rw [this, if_pos hh, h hh]
  · rw [this, if_neg hh]

set_option maxHeartbeats 1000000 in
theorem sred_any (a : Option Addr) (n cap : Nat) (zs : List Int) (w : World) (hn : zs.length = n) (hm : n ≤ 64) (ha : At .u8 w a zs) (hz : Byte zs) :
    Calls Try.prog 17 #[.slice a n cap] w fun e w' => ∃ v rs, e = .returned v ∧ Own w' w.heap.size v rs ∧ Byte rs ∧ rs.length = 32 ∧ val 256 rs = val 256 zs % bigL ∧ Below w.heap.size w w' := by
  have hm' : ¬ ((64 : Int) < (n : Int)) := by omega
  go_enter Try.func17, Try.ntmps17
  go_wp2
  go_loopw [3, 4] (fun v i wr => ∃ k : Nat, k ≤ 32 ∧ i = .int .i64 k ∧ Own wr w.heap.size v (List.replicate k 0) ∧ Below w.heap.size w wr) (fun _ i _ => 32 - (intOf i).toNat)
  case atStart => exact ⟨0, Nat.zero_le _, rfl, Own.empty _ _ (Nat.le_refl _), (Below.refl _ _).alloc (Nat.le_refl _) _⟩
  case round =>
    obtain ⟨k, hk, rfl, hown, hbel⟩ := hrel
    by_cases hlt : k < 32
    · have hsz := hbel.size
      go_wp2_with (at_builtin; refine wpList_app _ rfl _ _ rfl w.heap.size _ _ rfl (hown.alloc _) ⟨wr.heap.size, 0, none⟩ 1 1 [0] rfl rfl ?c1 ?c2 ?c3 ?_)
      all_goals first | (intro j hj; obtain rfl : j = 0 := by omega
                         simp [Addr.add]; done) | skip
      case c2 => simp; omega
      case c3 => first | omega | (rw [World.size_alloc]; omega)
      intro v' w1 hown' hbel' _
      have HO : Hid (Own w1 w.heap.size v' (List.replicate (k + 1) 0)) := by rw [List.replicate_succ']; exact hown'
      have HB : Hid (Below w.heap.size w w1) := (hbel.alloc (by omega) _).trans hbel'
      clear hown hown' hbel hbel'
      go_wp2
      go_roundw
      case rel => exact ⟨k + 1, by omega, by go_num, HO.out, HB.out⟩
      case measure => simp [intOf]; omega
    · have hkn : k = 32 := by omega
      subst hkn
      rw [show ((32 : Nat) : Int) = 32 from rfl]
      have HO : Hid (Own wr w.heap.size u3 (List.replicate 32 0)) := hown
      have hV0 : 0 ≤ val 256 zs := val_nonneg (by decide) hz
      have hV1 : val 256 zs < 2 ^ (8 * n) := by rw [← pow256, ← hn]; exact val_lt (by decide) hz
      have HT : Hid (restAt (val 256 zs) (8 * n) = 0) := restAt_top _ _ hV0 hV1
      clear hown hV0 hV1
      go_wp2
      go_loopw [3, 5] (fun v i wr => ∃ (j : Nat) (rs : List Int), j ≤ 8 * n ∧ i = .int .i64 ((j : Int) - 1) ∧ rs.length = 32 ∧ Byte rs ∧ val 256 rs = restAt (val 256 zs) j ∧ Own wr w.heap.size v rs ∧ Below w.heap.size w wr) (fun _ i _ => (intOf i + 1).toNat)
      case atStart =>
        refine ⟨8 * n, _, Nat.le_refl _, by go_num, ?_, ?_, ?_, HO.out, hbel⟩
        · simp
        · intro z hz; rw [List.mem_replicate] at hz; omega
        · rw [HT.out]; decide
      case round =>
        clear HT HO hbel
        obtain ⟨j, rs, hj, rfl, hrl, hrb, hrv, hown, hbel⟩ := hrel
        by_cases hj0 : 0 < j
        · obtain ⟨j, rfl⟩ : ∃ i, j = i + 1 := ⟨j - 1, by omega⟩
          have hsz := hbel.size
          have ei : ((j + 1 : Nat) : Int) - 1 = (j : Int) := by omega
          rw [ei]
          clear ei
          obtain ⟨b0, off, rfl, hb0, hc⟩ := (ha.below hbel).get (by omega)
          have c0 := hc (j / 8) (by omega)
          have hb := bitAt_byte zs j hz
          have hx := hz.get (j / 8)
          generalize zs.getD (j / 8) 0 = x at *
          obtain ⟨hx0, hx1⟩ := hx
          go_wp2
          rw [shr_bit hx0 hx1 hb]
          generalize wrap64 (x / 2 ^ (j % 8)) = y41
          generalize x / 2 ^ (j % 8) = y40
          have hbb := bitAt_bd (val 256 zs) j
          have HR : Hid (2 * restAt (val 256 zs) (j + 1) + bitAt (val 256 zs) j < 256 ^ 32) := by
            have := (restAt_bd (val 256 zs) (j + 1)).2
            show 2 * restAt (val 256 zs) (j + 1) + bitAt (val 256 zs) j < 256 ^ 32
            unfold bigL at this; omega
          have HBB : Hid (bitAt (val 256 zs) j = 0 ∨ bitAt (val 256 zs) j = 1) := hbb
          have HRV : Hid (val 256 rs = restAt (val 256 zs) (j + 1)) := hrv
          obtain ⟨g3, c3, rfl, hg3, hg3', A3⟩ := hown.at_
          rw [hrl]
          clear hb hbb hc c0 hrv hown
          generalize hbj : bitAt (val 256 zs) j = bj at *
          have HBJ : Hid (bitAt (val 256 zs) j = bj) := hbj
          clear hbj
          obtain ⟨w5, hw5⟩ : ∃ x, x = wr := ⟨_, rfl⟩
          subst hw5
          go_loopw [6, 7, 8] (fun c v i wq => ∃ (k : Nat) (ts : List Int) (b : Int), k ≤ 32 ∧ i = .int .i64 k ∧ c = .int .i64 b ∧ (0 ≤ b ∧ b ≤ 1) ∧ ts.length = k ∧ Byte ts ∧ val 256 ts + b * 256 ^ k = 2 * val 256 (rs.take k) + bj ∧ Own wq w5.heap.size v ts ∧ Below w5.heap.size w5 wq) (fun _ _ i _ => 32 - (intOf i).toNat)
          case atStart => exact ⟨0, [], bj, Nat.zero_le _, rfl, rfl, by rcases HBB.out with h | h <;> omega, rfl, by simp [Byte], by simp [val], Own.empty _ _ (Nat.le_refl _), (Below.refl _ _).alloc (Nat.le_refl _) _⟩
          case round =>
            obtain ⟨k, ts, b, hk, rfl, rfl, ⟨hb0', hb1'⟩, htl, htb, hv, hot, hbt⟩ := hrel
            by_cases hlt : k < 32
            · have hst := hbt.size
              have vr := val_take 256 rs k (by omega)
              obtain ⟨b3, o3, he3, hb3, hc3⟩ := A3.get (by omega)
              cases he3
              have c1 : wr.cell? ⟨g3, 0 + k, none⟩ = some (.int .u8 (rs.getD k 0)) := by rw [hbt.cell (p := ⟨g3, 0 + k, none⟩) hb3]; exact hc3 k (by omega)
              rw [Nat.zero_add] at c1
              clear hc3
              have hd := hrb.get k
              have hstep := twice_step _ _ _ (rs.getD k 0) _ _ 0 hv
              rw [← vr, show (256 : Int) ^ k * 256 = 256 ^ (k + 1) from (Int.pow_succ _ _).symm, ← htl, ← val_snoc, htl] at hstep
              generalize rs.getD k 0 = d at *
              obtain ⟨hd0, hd1⟩ := hd
              have hq0 : 0 ≤ (2 * d + b) / 256 := by omega
              have hq1 : (2 * d + b) / 256 ≤ 1 := by omega
              have hr0 : 0 ≤ (2 * d + b) % 256 := by omega
              have hr1 : (2 * d + b) % 256 < 256 := by omega
              have HBy : Hid (Byte (ts ++ [(2 * d + b) % 256])) := Dig.snoc (B := 256) htb hr0 hr1
              have HS : Hid (val 256 (ts ++ [(2 * d + b) % 256]) + (2 * d + b) / 256 * 256 ^ (k + 1) = 2 * val 256 (rs.take (k + 1)) + bj) := hstep
              have HTL : Hid (ts.length = k) := htl
              clear hstep hv vr htb htl A3
              have hcov : (2 * d + b).tmod 256 = (2 * d + b) % 256 := Int.tmod_eq_emod_of_nonneg (by omega)
              have hcod : (2 * d + b).tdiv 256 = (2 * d + b) / 256 := Int.tdiv_eq_ediv_of_nonneg (by omega)
              go_wp2_with (at_builtin; refine wpList_app _ rfl _ _ rfl w5.heap.size _ _ rfl (hot.alloc _) ⟨wr.heap.size, 0, none⟩ 1 1 [(2 * d + b) % 256] rfl rfl ?d1 ?d2 ?d3 ?_)
              all_goals first | (intro j hj; obtain rfl : j = 0 := by omega
                                 simp [Addr.add]; done) | skip
              case d2 => rw [HTL.out]; omega
              case d3 => first | omega | (rw [World.size_alloc]; omega)
              intro v' w3 hown' hbel' _
              have HO : Hid (Own w3 w5.heap.size v' (ts ++ [(2 * d + b) % 256])) := hown'
              have HB : Hid (Below w5.heap.size w5 w3) := (hbt.alloc (by omega) _).trans hbel'
              clear hot hown' hbt hbel'
              go_wp2
              go_roundw
              case rel => exact ⟨k + 1, ts ++ [(2 * d + b) % 256], (2 * d + b) / 256, by omega, by go_num, rfl, ⟨hq0, hq1⟩, by rw [List.length_append, HTL.out]; rfl, HBy.out, HS.out, HO.out, HB.out⟩
              case measure => simp [intOf]; omega
            · have hkn : k = 32 := by omega
              subst hkn
              rw [List.take_of_length_le (by omega), HRV.out] at hv
              have t0 : 0 ≤ val 256 ts := val_nonneg (by decide) htb
              have hb00 : b = 0 := by
                have := HR.out
                have : (0 : Int) < 256 ^ 32 := by decide
                rcases (show b = 0 ∨ b = 1 by omega) with h | h
                · exact h
                · exfalso; subst h; omega
              subst hb00
              have HV : Hid (val 256 ts = 2 * restAt (val 256 zs) (j + 1) + bj) := by show val 256 ts = _; omega
              obtain ⟨g4, c4, rfl, hg4, hg4', A4⟩ := hot.at_
              rw [htl] at hot ⊢
              have hst := hbt.size
              clear hv t0
              go_wp2_with fail
              refine (l4L_any _).mono ?_
              rintro e w6 ⟨v6, rfl, O6, B6⟩
              obtain ⟨g6, c6, rfl, hg6, hg6', A6⟩ := O6.at_
              have A46 := A4.below B6
              have O46 : Own w6 w5.heap.size (.slice (some ⟨g4, 0, none⟩) 32 c4) ts := hot.grow2 B6
              have HO46 : Hid (Own w6 w5.heap.size (.slice (some ⟨g4, 0, none⟩) 32 c4) ts) := O46
              clear O46 O6 hot A4
              go_wp2_with fail
              refine (less_any _ _ 32 _ _ ts lB _ htl rfl (by decide) A46 A6 htb lB_byte).mono ?_
              rintro e w7 ⟨v7, ds, rfl, O7, hdb, hdl, hdv, B7⟩
              rw [lB_val] at hdv ⊢
              obtain ⟨q1, q2⟩ := red_end (V := val 256 zs) (j := j) (show val 256 ts = _ by rw [HBJ.out]; exact HV.out) hdv
              have s6 := B6.size
              have s7 := B7.size
              have B57 : Below w5.heap.size w5 w7 := hbt.trans ((B6.trans (B7.mono B6.size)).mono hst)
              have HB7 : Hid (Below w.heap.size w w7) := hbel.trans (B57.mono hsz)
              have HOT : Hid (Own w7 w.heap.size (.slice (some ⟨g4, 0, none⟩) 32 c4) ts) := (HO46.out.grow2 B7).lower2 hsz
              have HOD : Hid (Own w7 w.heap.size v7 ds) := O7.lower2 (by omega)
              clear HO46 O7 B57 B6 B7 hbt hbel A46 A6
              by_cases hL : bigL ≤ val 256 ts
              · have hL' : decide (bigL ≤ val 256 ts) = true := by simpa using hL
                rw [hL']
                have HQ : Hid (val 256 ds = restAt (val 256 zs) j) := q1 hL
                have HDL : Hid (ds.length = 32) := by rw [hdl]; exact htl
                clear q1 q2 hdv hL' hL hdl
                go_wp2
                go_roundw
                case rel => exact ⟨j, ds, by omega, rfl, HDL.out, hdb, HQ.out, HOD.out, HB7.out⟩
                case measure => first | (simp [intOf]; done) | (simp [intOf]; omega)
              · have hL' : decide (bigL ≤ val 256 ts) = false := by simpa using hL
                rw [hL']
                have HQ : Hid (val 256 ts = restAt (val 256 zs) j) := q2 hL
                have HDL : Hid (ts.length = 32) := htl
                clear q1 q2 hdv hL' hL hdl htl
                go_wp2
                go_roundw
                case rel => exact ⟨j, ts, by omega, rfl, HDL.out, htb, HQ.out, HOT.out, HB7.out⟩
                case measure => first | (simp [intOf]; done) | (simp [intOf]; omega)
        · obtain rfl : j = 0 := by omega
          have HV : Hid (val 256 rs = val 256 zs % bigL) := by rw [← restAt_zero]; exact hrv
          have HO : Hid (Own wr w.heap.size u3 rs) := hown
          have HL : Hid (rs.length = 32) := hrl
          clear hrv hown hrl
          go_wp2
          go_ret
          exact ⟨_, rs, rfl, HO.out, hrb, HL.out, HV.out, hbel⟩

set_option maxHeartbeats 400000 in
theorem sred_no (a : Option Addr) (n cap : Nat) (w : World) (hm : 64 < n) :
    Calls Try.prog 17 #[.slice a n cap] w fun e w' => ∃ v, e = .returned v ∧ Own w' w.heap.size v [] ∧ Below w.heap.size w w' := by
  have hm' : (64 : Int) < (n : Int) := by omega
  go_enter Try.func17, Try.ntmps17
  go_wp2
  go_ret
  exact ⟨_, rfl, Own.empty _ _ (Nat.le_refl _), (Below.refl _ _).alloc (Nat.le_refl _) _⟩

set_option maxHeartbeats 400000 in
theorem sok_any (a : Option Addr) (n cap : Nat) (zs : List Int) (w : World) (hn : zs.length = n) (ha : At .u8 w a zs) (hz : Byte zs) :
    Calls Try.prog 12 #[.slice a n cap] w fun e w' => e = .returned (.bool (decide (n = 32 ∧ val 256 zs < bigL))) ∧ Below w.heap.size w w' := by
  by_cases h : n = 32
  · subst h
    go_enter Try.func12, Try.ntmps12
    go_wp2_with fail
    refine (l4L_any _).mono ?_
    rintro e w6 ⟨v6, rfl, O6, B6⟩
    obtain ⟨g6, c6, rfl, hg6, hg6', A6⟩ := O6.at_
    have A1 := ha.below B6
    clear O6
    go_wp2_with fail
    refine (less_any _ _ 32 _ _ zs lB _ hn rfl (by decide) A1 A6 hz lB_byte).mono ?_
    rintro e w7 ⟨v7, ds, rfl, O7, hdb, hdl, hdv, B7⟩
    rw [lB_val] at *
    have B : Below w.heap.size w w7 := B6.trans (B7.mono B6.size)
    have HB : Hid (Below w.heap.size w w7) := B
    have e : (!decide (bigL ≤ val 256 zs)) = decide (32 = 32 ∧ val 256 zs < bigL) := by
      by_cases h : bigL ≤ val 256 zs
      · have : ¬ val 256 zs < bigL := by omega
        simp [h, this]
      · have : val 256 zs < bigL := by omega
        simp [h, this]
    generalize decide (bigL ≤ val 256 zs) = q at *
    have HE : Hid ((!q) = decide (32 = 32 ∧ val 256 zs < bigL)) := e
    clear e
    clear B O7 A1 A6 hdv B6 B7 ha
    go_wp2
    go_ret
    refine ⟨?_, HB.out⟩
    show Ending.returned (.bool (!q)) = _
    rw [HE.out]
  · have e : decide (n = 32 ∧ val 256 zs < bigL) = false := by simp [h]
    rw [e]
    have h' : ((n : Int) != 32) = true := by simp; omega
    go_enter Try.func12, Try.ntmps12
    go_wp2
    go_ret
    exact ⟨rfl, Below.refl _ _⟩
end Go.Proofs.Ythghkfncpdnpoaa
