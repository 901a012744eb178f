/-
  Own work: the model's pieces of text: four bytes of a number, zeros, one behind the other.
-/
import Derived.Test.YtmnoelfabldpfaaMVal
import Derived.Test.YtmnoelfabldpfaaSnA
import Derived.Test.YtmnoelfabldpfaaMSvW
import Derived.Test.YtmnoelfabldpfaaMEqB
namespace Go.Proofs.Ytmnoelfabldpfaa
open Go.ChangeShapes Go.WideShapes Go.ChangeAt Go.RowKit
set_option linter.unusedVariables false

def four (x : Int) : List Int := [x % 256, x / 256 % 256, x / 65536 % 256, x / 16777216]

set_option maxHeartbeats 400000 in
theorem four_any (x : Int) (w : World) (hx : U32 x) :
    Calls Try.prog 30 #[.int .u32 x] w fun e w' => e = .returned (.slice (some ⟨w.heap.size, 0, none⟩) 4 4) ∧
      w' = w.alloc (.cells #[.int .u8 (x % 256), .int .u8 (x / 256 % 256), .int .u8 (x / 65536 % 256), .int .u8 (x / 16777216)] 5) := by
  obtain ⟨h0, h1⟩ := hx
  go_enter Try.func30, Try.ntmps30
  go_wp2
  go_ret
  exact ⟨rfl, rfl⟩

set_option maxHeartbeats 400000 in
theorem zeros_any (n : Int) (w : World) (h0 : 0 ≤ n) (h1 : n ≤ 1048576) :
    Calls Try.prog 34 #[.int .i64 n] w fun e w' => ∃ v, e = .returned v ∧ Own w' w.heap.size v (List.replicate n.toNat 0) ∧ Below w.heap.size w w' := by
  obtain ⟨n, rfl⟩ := Int.eq_ofNat_of_zero_le h0
  go_enter Try.func34, Try.ntmps34
  go_wp2
  go_loopw [3, 4] (fun v i wr => ∃ k : Nat, k ≤ n ∧ i = .int .i64 k ∧ Own wr w.heap.size v (List.replicate k 0) ∧ Below w.heap.size w wr) (fun _ i _ => n - (intOf i).toNat)
  case atStart => exact ⟨0, Nat.zero_le _, rfl, Own.empty _ _ (Nat.le_refl _), (Below.refl _ _).alloc (Nat.le_refl _) _⟩
  case round =>
    obtain ⟨k, hk, rfl, hown, hbel⟩ := hrel
    by_cases hlt : k < n
    · have hsz := hbel.size
      go_wp2_with (at_builtin; refine wpList_app _ rfl _ _ rfl w.heap.size _ _ rfl (hown.alloc _) ⟨wr.heap.size, 0, none⟩ 1 1 [0] rfl rfl ?c1 ?c2 ?c3 ?_)
      case c1 => intro j hj; obtain rfl : j = 0 := by omega
                 simp [Addr.add]
      case c2 => simp; omega
      case c3 => simp; omega
      intro v' w1 hown' hbel' _
      have HO : Hid (Own w1 w.heap.size v' (List.replicate (k + 1) 0)) := by rw [List.replicate_succ']; exact hown'
      have HB : Hid (Below w.heap.size w w1) := (hbel.alloc (by omega) _).trans hbel'
      clear hown hown' hbel hbel'
      go_wp2
      go_roundw
      case rel => exact ⟨k + 1, by omega, by go_num, HO.out, HB.out⟩
      case measure => simp [intOf]; omega
    · have hkn : k = n := by omega
      subst hkn
      have HO : Hid _ := hown
      clear hown
      go_wp2
      go_ret
      exact ⟨_, rfl, HO.out, hbel⟩

theorem flat_snoc (zss : List (List Int)) (k : Nat) (h : k < zss.length) : (zss.take (k + 1)).flatten = (zss.take k).flatten ++ zss.getD k [] := by
  rw [List.take_succ_eq_append_getElem h, List.flatten_append]
  simp [h]
theorem flat_le (zss : List (List Int)) (k : Nat) : (zss.take k).flatten.length ≤ zss.flatten.length := by
  conv => rhs; rw [← List.take_append_drop k zss]
  rw [List.flatten_append, List.length_append]; omega

set_option maxHeartbeats 400000 in
theorem cat_any (p m cap : Nat) (vs : List Value) (zss : List (List Int)) (w : World) (hm : zss.length = m) (hp : p < w.heap.size) (hc : ∀ i, i < m → w.cell? ⟨p, i, none⟩ = some (vs.getD i undef))
    (hz : ∀ i, i < m → Part w (vs.getD i undef) (zss.getD i [])) (ht : zss.flatten.length ≤ 1048576) (hm' : m ≤ 1048576) :
    Calls Try.prog 31 #[.slice (some ⟨p, 0, none⟩) m cap] w fun e w' => ∃ v, e = .returned v ∧ Own w' w.heap.size v zss.flatten ∧ Below w.heap.size w w' := by
  go_enter Try.func31, Try.ntmps31
  go_wp2
  go_loopw [3, 4] (fun v i wr => ∃ k : Nat, k ≤ m ∧ i = .int .i64 k ∧ Own wr w.heap.size v (zss.take k).flatten ∧ Below w.heap.size w wr) (fun _ i _ => m - (intOf i).toNat)
  case atStart => exact ⟨0, Nat.zero_le _, rfl, Own.empty _ _ (Nat.le_refl _), (Below.refl _ _).alloc (Nat.le_refl _) _⟩
  case round =>
    obtain ⟨k, hk, rfl, hown, hbel⟩ := hrel
    by_cases hlt : k < m
    · have hsz := hbel.size
      obtain ⟨b, o, c, hv, hb, hcell⟩ := hz k hlt
      have hck : wr.cell? ⟨p, k, none⟩ = some (.slice (some ⟨b, o, none⟩) (zss.getD k []).length c) := by rw [hbel.cell (p := ⟨p, k, none⟩) hp, hc k hlt, hv]
      have hnews : ∀ j, j < (zss.getD k []).length → wr.cell? ((⟨b, o, none⟩ : Addr).add j) = some (.int .u8 ((zss.getD k []).getD j 0)) := by
        intro j hj; rw [Addr.add_lit, hbel.cell (p := ⟨b, o + j, none⟩) hb]; exact hcell j hj
      have hfl := flat_snoc zss k (by omega)
      have hle := flat_le zss (k + 1)
      have hle2 : (zss.take k).flatten.length + (zss.getD k []).length ≤ 1048576 := by rw [hfl, List.length_append] at hle; omega
      have HF : Hid _ := hfl
      clear hfl hle hv hcell hc hz
      generalize zss.getD k [] = z at *
      generalize (zss.take k).flatten = y at *
      generalize hzl : z.length = zl at *
      have HL : Hid _ := hzl
      clear hzl
      have HN : Hid _ := hnews
      clear hnews
      go_wp2_with (at_builtin; refine wpList_app _ rfl _ _ rfl w.heap.size _ _ rfl hown ⟨b, o, none⟩ _ _ z rfl HL.out HN.out ?c2 ?c3 ?_)
      case c2 => omega
      case c3 => omega
      intro v' w1 hown' hbel' _
      have HO : Hid (Own w1 w.heap.size v' (zss.take (k + 1)).flatten) := by rw [HF.out]; exact hown'
      have HB : Hid (Below w.heap.size w w1) := hbel.trans hbel'
      clear hown hown' hbel hbel'
      go_wp2
      go_roundw
      case rel => exact ⟨k + 1, by omega, by go_num, HO.out, HB.out⟩
      case measure => simp [intOf]; omega
    · have hkn : zss.take k = zss := List.take_of_length_le (by omega)
      rw [hkn] at hown
      have HO : Hid _ := hown
      clear hown hkn
      go_wp2
      go_ret
      exact ⟨_, rfl, HO.out, hbel⟩
end Go.Proofs.Ytmnoelfabldpfaa
namespace Go.Proofs.Ytmnoelfabldpfaa
open Go.ChangeShapes Go.WideShapes Go.ChangeAt Go.RowKit
set_option linter.unusedVariables false

set_option maxRecDepth 100000 in
set_option maxHeartbeats 2000000 in
theorem gsn_any (gn tl : Int) (aD aU : Option Addr) (nD cD nU cU : Nat) (D U : List Int) (w : World) (hD : D.length = nD) (hU : U.length = nU) (mD : nD ≤ 1048576) (mU : nU ≤ 1048576) (haD : At .i64 w aD D) (haU : At .i64 w aU U) :
    Calls Try.prog 29 #[.agg #[.int .u32 gn, .int .u32 tl, .slice aD nD cD, .slice aU nU cU]] w fun e w' => e = .returned (.bool (snB gn tl D U)) ∧ Below w.heap.size w w' := by
  have b0 : Below w.heap.size w (w.alloc (.cells #[.int .u32 gn, .int .u32 tl, .slice aD nD cD, .slice aU nU cU] 26)) := (Below.refl _ _).alloc (Nat.le_refl _) _
  have HB : Hid (∀ q, Below w.heap.size w ((w.alloc (.cells #[.int .u32 gn, .int .u32 tl, .slice aD nD cD, .slice aU nU cU] 26)).drewN q)) := fun q => below_dq b0 q
  have HB0 : Hid (Below w.heap.size w (w.alloc (.cells #[.int .u32 gn, .int .u32 tl, .slice aD nD cD, .slice aU nU cU] 26))) := b0
  have HA : Hid (∀ wz, Below w.heap.size w wz → At .i64 wz aD D ∧ At .i64 wz aU U) := fun wz b => ⟨haD.below b, haU.below b⟩
  have HL : Hid (D.length = nD ∧ U.length = nU) := ⟨hD, hU⟩
  clear haD haU hD hU b0
  by_cases h1 : gn ≤ 4000000000
  · by_cases h2 : 1 ≤ tl
    · have h2' : tl ≥ 1 := h2
      by_cases h3 : tl ≤ 4000000000
      · by_cases h4 : SerP D
        · have HS1 : Hid (serB D = true) := serB_yes h4
          by_cases h5 : nD ≤ 16
          · have h5' : (nD : Int) ≤ 16 := by omega
            have HE : Hid (snB gn tl D U = serB U) := by
              show _ = _
              by_cases h6 : SerP U
              · rw [serB_yes h6, snB_yes ⟨h1, h2, h3, h4, by rw [HL.out.1]; exact h5, h6⟩]
              · rw [serB_no h6, snB_no (fun q => h6 q.2.2.2.2.2)]
            clear h4
            go_enter Try.func29, Try.ntmps29
            go_wp2_with fail
            refine (serials_any _ _ _ D _ HL.out.1 mD (HA.out _ HB0.out).1).mono ?_
            rintro e w1 ⟨rfl, q1, rfl⟩
            rw [HS1.out]
            go_wp2_with fail
            refine (serials_any _ _ _ U _ HL.out.2 mU (HA.out _ (HB.out q1)).2).mono ?_
            rintro e w2 ⟨rfl, q2, rfl⟩
            rw [dN]
            have HF := HB.out (q1 + q2)
            have HFF : Hid _ := HF
            clear HF HB HB0 HA
            generalize hq : serB U = q at *
            have HQ : Hid (serB U = q) := hq
            clear hq
            go_wp2
            go_ret
            exact ⟨by rw [HE.out]; rfl, HFF.out⟩
          · have h5' : ¬ ((nD : Int) ≤ 16) := by omega
            have HE : Hid (snB gn tl D U = false) := snB_no (fun q => h5 (by rw [← HL.out.1]; exact q.2.2.2.2.1))
            clear h4
            go_enter Try.func29, Try.ntmps29
            go_wp2_with fail
            refine (serials_any _ _ _ D _ HL.out.1 mD (HA.out _ HB0.out).1).mono ?_
            rintro e w1 ⟨rfl, q1, rfl⟩
            rw [HS1.out]
            have HFF := HB.out q1
            have HF : Hid _ := HFF
            clear HFF HB HB0 HA
            go_wp2
            go_ret
            exact ⟨by rw [HE.out]; rfl, HF.out⟩
        · have HS1 : Hid (serB D = false) := serB_no h4
          have HE : Hid (snB gn tl D U = false) := snB_no (fun q => h4 q.2.2.2.1)
          clear h4
          go_enter Try.func29, Try.ntmps29
          go_wp2_with fail
          refine (serials_any _ _ _ D _ HL.out.1 mD (HA.out _ HB0.out).1).mono ?_
          rintro e w1 ⟨rfl, q1, rfl⟩
          rw [HS1.out]
          have HFF := HB.out q1
          have HF : Hid _ := HFF
          clear HFF HB HB0 HA
          go_wp2
          go_ret
          exact ⟨by rw [HE.out]; rfl, HF.out⟩
      · have HE : Hid (snB gn tl D U = false) := snB_no (fun q => h3 q.2.2.1)
        clear HB HA
        go_enter Try.func29, Try.ntmps29
        go_wp2
        go_ret
        exact ⟨by rw [HE.out]; rfl, HB0.out⟩
    · have HE : Hid (snB gn tl D U = false) := snB_no (fun q => h2 q.2.1)
      have h2' : ¬ (tl ≥ 1) := h2
      clear HB HA
      go_enter Try.func29, Try.ntmps29
      go_wp2
      go_ret
      exact ⟨by rw [HE.out]; rfl, HB0.out⟩
  · have HE : Hid (snB gn tl D U = false) := snB_no (fun q => h1 q.1)
    clear HB HA
    go_enter Try.func29, Try.ntmps29
    go_wp2
    go_ret
    exact ⟨by rw [HE.out]; rfl, HB0.out⟩
set_option maxHeartbeats 400000 in
theorem two_any (x : Int) (w : World) (h0 : 0 ≤ x) (h1 : x < 256) :
    Calls Try.prog 49 #[.int .i64 x] w fun e w' => e = .returned (.slice (some ⟨w.heap.size, 0, none⟩) 2 2) ∧ w' = w.alloc (.cells #[.int .u8 x, .int .u8 0] 5) := by
  have e1 : x.tmod 256 = x := by rw [Int.tmod_eq_emod_of_nonneg h0]; exact Int.emod_eq_of_lt h0 h1
  have e2 : x.tdiv 256 = 0 := by rw [Int.tdiv_eq_ediv_of_nonneg h0]; exact Int.ediv_eq_zero_of_lt h0 h1
  have e3 : x % 256 = x := Int.emod_eq_of_lt h0 h1
  have e4 : x / 256 = 0 := Int.ediv_eq_zero_of_lt h0 h1
  go_enter Try.func49, Try.ntmps49
  go_wp2
  go_ret
  exact ⟨rfl, rfl⟩
/-- Two bytes for the place i of a list of serials. -/
def den2 (xs : List Int) (i : Nat) : List Int := if i < xs.length then [xs.getD i 0, 0] else [0, 0]
def denL (xs : List Int) (f k : Nat) : List Int := ((List.range k).map (fun j => den2 xs (f + j))).flatten
theorem denL_succ (xs : List Int) (f k : Nat) : denL xs f (k + 1) = denL xs f k ++ den2 xs (f + k) := by
  unfold denL; rw [List.range_succ, List.map_append, List.flatten_append]; simp
theorem den2_len (xs : List Int) (i : Nat) : (den2 xs i).length = 2 := by unfold den2; split <;> rfl
theorem denL_len (xs : List Int) (f k : Nat) : (denL xs f k).length = 2 * k := by
  induction k with
  | zero => rfl
  | succ k ih => rw [denL_succ, List.length_append, ih, den2_len]; omega
set_option maxRecDepth 100000 in
set_option maxHeartbeats 2000000 in
theorem den_any (a : Option Addr) (n cap : Nat) (xs : List Int) (f m : Nat) (w : World) (hn : xs.length = n) (hm : n ≤ 1048576) (ha : At .i64 w a xs) (hx : ∀ z ∈ xs, 0 ≤ z ∧ z < 256) (hf : f + m ≤ 1048576) :
    Calls Try.prog 33 #[.slice a n cap, .int .i64 f, .int .i64 ((f : Int) + m)] w fun e w' => ∃ v, e = .returned v ∧ Own w' w.heap.size v (denL xs f m) ∧ Below w.heap.size w w' := by
  have HA : Hid (At .i64 w a xs) := ha
  have HN : Hid (xs.length = n) := hn
  have HX : Hid (∀ z ∈ xs, 0 ≤ z ∧ z < 256) := hx
  have H0 : Hid (Own (w.alloc (.cells #[] 5)) w.heap.size (.slice (some ⟨w.heap.size, 0, none⟩) 0 0) (denL xs f 0) ∧ Below w.heap.size w (w.alloc (.cells #[] 5))) := ⟨Own.empty _ _ (Nat.le_refl _), (Below.refl _ _).alloc (Nat.le_refl _) _⟩
  clear ha hn hx
  go_enter Try.func33, Try.ntmps33
  go_wp2_with fail
  go_loopw [7, 8] (fun v i wr => ∃ (j : Nat) (l : Value), j ≤ m ∧ i = .int .i64 ((f : Int) + j) ∧ l = v ∧ Own wr w.heap.size l (denL xs f j) ∧ Below w.heap.size w wr) (fun _ i _ => f + m - (intOf i).toNat)
  case atStart => exact ⟨0, _, Nat.zero_le _, by simp, rfl, H0.out.1, H0.out.2⟩
  case round =>
    clear H0
    obtain ⟨j, l, hj, rfl, rfl, hown, hbel⟩ := hrel
    by_cases hlt : j < m
    · have hlt' : (f : Int) + j < (f : Int) + m := by omega
      have hsz := hbel.size
      have HOW : Hid (Own wr w.heap.size l (denL xs f j)) := hown
      have HBE : Hid (Below w.heap.size w wr) := hbel
      have HSU : Hid (denL xs f (j + 1) = denL xs f j ++ den2 xs (f + j)) := denL_succ xs f j
      have HLE : Hid ((denL xs f j).length + 2 ≤ 1099511627776) := by show _ ≤ _; rw [denL_len]; omega
      by_cases hin : f + j < n
      · have hin' : (f : Int) + j < (n : Int) := by omega
        obtain ⟨b, off, ea, hb, hc⟩ := (HA.out.below hbel).get (by have := HN.out; omega)
        have hck := hc (f + j) (by have := HN.out; omega)
        have htn : ((f : Int) + j).toNat = f + j := by omega
        have hr := HX.out (xs.getD (f + j) 0) (getD_mem (by have := HN.out; omega))
        have HD2 : Hid (den2 xs (f + j) = [xs.getD (f + j) 0, 0]) := by show _ = _; unfold den2; rw [if_pos (by have := HN.out; omega)]
        subst ea
        clear hc hb hown hbel
        generalize xs.getD (f + j) 0 = z at *
        have HOA : Hid (Own (wr.alloc (.cells #[.int .u8 z, .int .u8 0] 5)) w.heap.size l (denL xs f j)) := HOW.out.alloc _
        have HSZ : Hid (w.heap.size ≤ (wr.alloc (.cells #[.int .u8 z, .int .u8 0] 5)).heap.size) := by show _ ≤ _; simp; omega
        have HNW : Hid (∀ i, i < 2 → (wr.alloc (.cells #[.int .u8 z, .int .u8 0] 5)).cell? ((⟨wr.heap.size, 0, none⟩ : Addr).add i) = some (.int .u8 ([z, 0].getD i 0))) := by
          intro i hi
          rw [Addr.add_lit, Nat.zero_add, cell_of_row _ _ _ _ _ _ (heap_alloc_new wr _)]
          have : i = 0 ∨ i = 1 := by omega
          rcases this with rfl | rfl <;> rfl
        go_wp2_with fail
        refine (two_any z wr hr.1 hr.2).mono ?_
        rintro e w2 ⟨rfl, rfl⟩
        go_wp2_with (first
          | (at_builtin; refine wpList_app _ rfl (.tmp 20) (.tmp 25) rfl w.heap.size _ _ rfl HOA.out ⟨wr.heap.size, 0, none⟩ 2 2 [z, 0] rfl rfl HNW.out HLE.out HSZ.out ?_)
          | fail)
        intro v' w3 hown' hbel' _
        have HO2 : Hid (Own w3 w.heap.size v' (denL xs f (j + 1))) := by show Own _ _ _ _; rw [HSU.out, HD2.out]; exact hown'
        have HB2 : Hid (Below w.heap.size w w3) := (HBE.out.alloc hsz _).trans hbel'
        clear hown' hbel' HOW HBE HOA HNW HSZ HLE HD2 HSU hck
        go_wp2
        go_roundw
        case rel => exact ⟨j + 1, _, by omega, by go_num, rfl, HO2.out, HB2.out⟩
        case measure => simp [intOf]; omega
      · have hin' : ¬ ((f : Int) + j < (n : Int)) := by omega
        have HD2 : Hid (den2 xs (f + j) = [0, 0]) := by show _ = _; unfold den2; rw [if_neg (by have := HN.out; omega)]
        clear hown hbel
        have HOA : Hid (Own (wr.alloc (.cells #[.int .u8 0, .int .u8 0] 5)) w.heap.size l (denL xs f j)) := HOW.out.alloc _
        have HSZ : Hid (w.heap.size ≤ (wr.alloc (.cells #[.int .u8 0, .int .u8 0] 5)).heap.size) := by show _ ≤ _; simp; omega
        have HNW : Hid (∀ i, i < 2 → (wr.alloc (.cells #[.int .u8 0, .int .u8 0] 5)).cell? ((⟨wr.heap.size, 0, none⟩ : Addr).add i) = some (.int .u8 ([0, 0].getD i 0))) := by
          intro i hi
          rw [Addr.add_lit, Nat.zero_add, cell_of_row _ _ _ _ _ _ (heap_alloc_new wr _)]
          have : i = 0 ∨ i = 1 := by omega
          rcases this with rfl | rfl <;> rfl
        go_wp2_with (first
          | (at_builtin; refine wpList_app _ rfl (.tmp 27) (.tmp 28) rfl w.heap.size _ _ rfl HOA.out ⟨wr.heap.size, 0, none⟩ 2 2 [0, 0] rfl rfl HNW.out HLE.out HSZ.out ?_)
          | fail)
        intro v' w3 hown' hbel' _
        have HO2 : Hid (Own w3 w.heap.size v' (denL xs f (j + 1))) := by show Own _ _ _ _; rw [HSU.out, HD2.out]; exact hown'
        have HB2 : Hid (Below w.heap.size w w3) := (HBE.out.alloc hsz _).trans hbel'
        clear hown' hbel' HOW HBE HOA HNW HSZ HLE HD2 HSU
        go_wp2
        go_roundw
        case rel => exact ⟨j + 1, _, by omega, by go_num, rfl, HO2.out, HB2.out⟩
        case measure => simp [intOf]; omega
    · have hjm : j = m := by omega
      subst hjm
      have hlt' : ¬ ((f : Int) + j < (f : Int) + j) := by omega
      have HO2 : Hid (Own wr w.heap.size l (denL xs f j)) := hown
      clear hown
      go_wp2
      go_ret
      exact ⟨_, rfl, HO2.out, hbel⟩
end Go.Proofs.Ytmnoelfabldpfaa
