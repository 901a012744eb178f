/-
  Own work: the used serials as bits, by the model.
-/
import Derived.Test.YtmnoelfabldpfaaSnS
import Derived.Test.YtmnoelfabldpfaaMWrd
import Derived.Test.YtmnoelfabldpfaaMEqB
import Derived.Lib.AppendZerosOnto
namespace Go.Proofs.Ytmnoelfabldpfaa
open Go.ChangeShapes Go.WideShapes Go.ChangeAt Go.RowKit
set_option linter.unusedVariables false

/-- The upper n bits of byte k of a set of serials. -/
noncomputable def bv (xs : List Int) (k : Nat) : Nat → Int
  | 0 => 0
  | n + 1 => 2 * bv xs k n + (if memB (8 * (k : Int) + (7 - (n : Int))) xs = true then 1 else 0)
theorem bv_bd (xs : List Int) (k n : Nat) : 0 ≤ bv xs k n ∧ bv xs k n < 2 ^ n := by
  induction n with
  | zero => exact ⟨Int.le_refl _, by simp [bv]⟩
  | succ n ih =>
    simp only [bv, Int.pow_succ]
    split <;> omega
noncomputable def bitsL (xs : List Int) (k : Nat) : List Int := (List.range k).map (fun i => bv xs i 8)
theorem bitsL_succ (xs : List Int) (k : Nat) : bitsL xs (k + 1) = bitsL xs k ++ [bv xs k 8] := by unfold bitsL; rw [List.range_succ, List.map_append]; rfl
theorem bitsL_len (xs : List Int) (k : Nat) : (bitsL xs k).length = k := by simp [bitsL]
set_option maxRecDepth 100000 in
set_option maxHeartbeats 2000000 in
theorem bits_any (a : Option Addr) (n cap : Nat) (xs : List Int) (w : World) (hn : xs.length = n) (hm : n ≤ 1048576) (ha : At .i64 w a xs) :
    Calls Try.prog 32 #[.slice a n cap] w fun e w' => ∃ v, e = .returned v ∧ Own w' w.heap.size v (bitsL xs 32) ∧ Below w.heap.size w w' := by
  have HA : Hid (At .i64 w a xs) := ha
  have HN : Hid (xs.length = n) := hn
  have H0 : Hid (Own (w.alloc (.cells #[] 5)) w.heap.size (.slice (some ⟨w.heap.size, 0, none⟩) 0 0) (bitsL xs 0) ∧ Below w.heap.size w (w.alloc (.cells #[] 5))) := ⟨Own.empty _ _ (Nat.le_refl _), (Below.refl _ _).alloc (Nat.le_refl _) _⟩
  have HBV : Hid (∀ k m, bv xs k (m + 1) = 2 * bv xs k m + (if memB (8 * (k : Int) + (7 - (m : Int))) xs = true then 1 else 0)) := fun _ _ => rfl
  clear ha hn
  go_enter Try.func32, Try.ntmps32
  go_wp2_with fail
  go_loopw [3, 4] (fun v i wr => ∃ (k : Nat) (l : Value), k ≤ 32 ∧ i = .int .i64 k ∧ l = v ∧ Own wr w.heap.size l (bitsL xs k) ∧ Below w.heap.size w wr) (fun _ i _ => 32 - (intOf i).toNat)
  case atStart => exact ⟨0, _, Nat.zero_le _, rfl, rfl, H0.out.1, H0.out.2⟩
  case round =>
    clear H0
    obtain ⟨k, l, hk, rfl, rfl, hown, hbel⟩ := hrel
    by_cases hlt : k < 32
    · have hlt' : (k : Int) < 32 := by omega
      have HOW : Hid (Own wr w.heap.size l (bitsL xs k)) := hown
      have HBE : Hid (Below w.heap.size w wr) := hbel
      have hsz := hbel.size
      clear hown hbel
      go_wp2_with fail
      go_loop [5, 6] (fun q i => ∃ m : Nat, m ≤ 8 ∧ i = .int .i64 (7 - (m : Int)) ∧ q = .int .i64 (bv xs k m)) (fun _ i => (intOf i + 1).toNat)
      case atStart => exact ⟨0, by omega, rfl, rfl⟩
      case round =>
        obtain ⟨m, hm8, rfl, rfl⟩ := hrel
        have hbd := bv_bd xs k m
        have hp : (2 : Int) ^ m ≤ 256 := by
          have : (2 : Nat) ^ m ≤ 2 ^ 8 := Nat.pow_le_pow_right (by decide) hm8
          exact_mod_cast this
        by_cases h8 : m < 8
        · have h8' : (7 : Int) - m ≥ 0 := by omega
          have HS := HBV.out k m
          have HSS : Hid _ := HS
          clear HS
          generalize bv xs k m = y at *
          have hy0 : 0 ≤ y := hbd.1
          have hy1 : y < 256 := by omega
          clear hbd hp
          go_wp2_with fail
          refine (holds_any _ _ _ xs _ _ HN.out hm (HA.out.below HBE.out)).mono ?_
          rintro e w2 ⟨rfl, rfl⟩
          by_cases hmem : memB (8 * (k : Int) + (7 - (m : Int))) xs = true
          · have HE : Hid (bv xs k (m + 1) = 2 * y + 1) := by show _ = _; rw [HSS.out, if_pos hmem]
            rw [hmem]
            clear hmem HSS
            go_wp2
            go_round
            case rel => exact ⟨m + 1, by omega, by go_num, by rw [HE.out]⟩
            case measure => simp [intOf]; omega
          · have HE : Hid (bv xs k (m + 1) = 2 * y) := by show _ = _; rw [HSS.out, if_neg hmem]; omega
            rw [Bool.not_eq_true] at hmem
            rw [hmem]
            clear hmem HSS
            go_wp2
            go_round
            case rel => exact ⟨m + 1, by omega, by go_num, by rw [HE.out]⟩
            case measure => simp [intOf]; omega
        · have hme : m = 8 := by omega
          subst hme
          have h8' : ¬ ((7 : Int) - (8 : Nat) ≥ 0) := by omega
          have HSU : Hid (bitsL xs (k + 1) = bitsL xs k ++ [bv xs k 8]) := bitsL_succ xs k
          have HLE : Hid ((bitsL xs k).length + 1 ≤ 1099511627776) := by show _ ≤ _; rw [bitsL_len]; omega
          generalize bv xs k 8 = y at *
          have hy0 : 0 ≤ y := hbd.1
          have hy1 : y < 256 := by have := hbd.2; omega
          have hym : y % 256 = y := Int.emod_eq_of_lt hy0 hy1
          clear hbd hp
          have HOA : Hid (Own (wr.alloc (.cells #[.int .u8 y] 5)) w.heap.size l (bitsL xs k)) := HOW.out.alloc _
          have HSZ : Hid (w.heap.size ≤ (wr.alloc (.cells #[.int .u8 y] 5)).heap.size) := by show _ ≤ _; simp; omega
          have HNW : Hid (∀ i, i < 1 → (wr.alloc (.cells #[.int .u8 y] 5)).cell? ((⟨wr.heap.size, 0, none⟩ : Addr).add i) = some (.int .u8 ([y].getD i 0))) := by
            intro i hi
            obtain rfl : i = 0 := by omega
            rw [Addr.add_lit, Nat.zero_add, cell_of_row _ _ _ _ _ _ (heap_alloc_new wr _)]; rfl
          go_wp2_with (first
            | (at_builtin; refine wpList_app _ rfl (.tmp 26) (.tmp 29) rfl w.heap.size _ _ rfl HOA.out ⟨wr.heap.size, 0, none⟩ 1 1 [y] rfl rfl HNW.out HLE.out HSZ.out ?_)
            | fail)
          intro v' w3 hown' hbel' _
          have HO2 : Hid (Own w3 w.heap.size v' (bitsL xs (k + 1))) := by show Own _ _ _ _; rw [HSU.out]; exact hown'
          have HB2 : Hid (Below w.heap.size w w3) := (HBE.out.alloc hsz _).trans hbel'
          clear hown' hbel' HOW HBE HOA HNW HSZ HLE HSU
          go_wp2
          go_roundw
          case rel => exact ⟨k + 1, _, by omega, by go_num, rfl, HO2.out, HB2.out⟩
          case measure => simp [intOf]; omega
    · have hke : k = 32 := by omega
      subst hke
      have HO2 : Hid (Own wr w.heap.size l (bitsL xs 32)) := hown
      clear hown
      go_wp2
      go_ret
      exact ⟨_, rfl, HO2.out, hbel⟩
end Go.Proofs.Ytmnoelfabldpfaa
namespace Go.Proofs.Ytmnoelfabldpfaa
open Go.ChangeShapes Go.WideShapes Go.ChangeAt Go.RowKit
set_option linter.unusedVariables false

/-- Block g is a row of C bytes. -/
def RowC (w : World) (g C : Nat) : Prop := ∃ cur : Array Value, w.heap[g]? = some (.cells cur 5 (0, 0)) ∧ cur.size = C
theorem wpList_appZ (w : World) {ops : Array Oper} {rest : List Oper} {o : Oper} {a : Act} {Q : Exit → Act → World → Prop} (hg : o.guard = none) (s x : Operand)
    (hop : o.op = Op.call { callee := Callee.builtin Builtin.append, args := #[s, x], argTypes := #[22, 3] }) (hs : a.eval s = .slice none 0 0) (n : Nat) (hx : a.eval x = .int .i64 n) (hn : 0 < n) (hb : n ≤ 1048576)
    (hK : ∀ C w', n ≤ C → C ≤ maxLen → RowC w' w.heap.size C → Below w.heap.size w w' → wpList Try.prog ops Q rest (a.put o.dst (.slice (some ⟨w.heap.size, 0, none⟩) n C)) w') :
    wpList Try.prog ops Q (o :: rest) a w := by
  obtain ⟨i0, hi, hz0, hz1, hz2⟩ := info_parts Try.infoU8'
  have hfit : Builtin.nextslicecap (0 + n) 0 * i0.bytes ≤ 281474976710656 := by rw [Nat.zero_add, nextslicecap_zero (by omega), hz2]; omega
  have hr := Go.Lib.run_append_grow_zeros (P := Try.prog) w 22 3 o.type 5 i0 (.int .u8 0) .i64 .i64 Try.underlying22 Try.underlying3 hi hz0 none 0 0 [] (by rfl) n hn (by omega) (by omega) (by omega) (by rw [hz2]; omega) hfit
  have hge := grownCap_ge w (0 + n) 0 5
  have hle := grownCap_le_maxLen w (0 + n) 0 5 (by unfold maxLen; omega)
  rw [Nat.zero_add] at hr hge hle
  generalize grownCap w n 0 5 = C at hr hge hle
  refine wpList_plain hg fun K hK' => ?_
  have hk := hK' _ _ (hK C _ hge hle ⟨_, heap_alloc_new w.drew (.cells ((([] : List Value).toArray ++ Builtin.zeroCells (Value.int .u8 0).cells n) ++ Builtin.zeroCells (Value.int .u8 0).cells (C - n)) 5), by simp [Builtin.zeroCells, Value.cells]; omega⟩ ((Below.refl _ _).drew.alloc (Nat.le_refl _) _))
  unfold Oper.wp execOp
  simp only [hop, resolve, invoke, builtin, Sem.run_bind, Sem.run_pure, Result.andThen_ok, List.map_toArray, List.map_cons, List.map_nil, hs, hx, hr]
  exact hk
set_option maxRecDepth 100000 in
set_option maxHeartbeats 1000000 in
theorem grow_any (n : Nat) (w : World) (hn : 0 < n) (hb : n ≤ 1048576) :
    Calls Try.prog 65 #[.slice none 0 0, .int .i64 n] w fun e w' => ∃ v, e = .returned v ∧ Own w' w.heap.size v [] ∧ Below w.heap.size w w' := by
  have h0 : ¬ ((n : Int) < 0) := by omega
  have h1 : (n : Int) > 0 := by omega
  go_enter Try.func65, Try.ntmps65
  go_wp2_with (first
    | (refine wpList_appZ _ rfl (.tmp 20) (.tmp 21) rfl rfl n rfl hn hb ?_)
    | fail)
  intro C w1 hC hm hrow hb1
  have HF : Hid (Own w1 w.heap.size (.slice (some ⟨w.heap.size, 0, none⟩) 0 C) []) := by
    obtain ⟨cur, h1, h2⟩ := hrow
    exact ⟨⟨by simp, .inr ⟨w.heap.size, C, cur, rfl, Nat.le_refl _, h1, by simp, hm, by rw [h2, Nat.mul_one], by simp⟩⟩, _, _, rfl⟩
  have HB : Hid (Below w.heap.size w w1) := hb1
  have hC' : (0 : Int) ≤ C := by omega
  have hm' : C ≤ 9223372036854775807 := by unfold maxLen at hm; omega
  clear hrow hb1 hm
  go_wp2
  go_ret
  exact ⟨_, rfl, HF.out, HB.out⟩
/-- How many bytes the first k texts have. -/
def tot (zss : List (List Int)) (k : Nat) : Nat := (zss.take k).flatten.length
theorem tot_succ (zss : List (List Int)) (k : Nat) (h : k < zss.length) : tot zss (k + 1) = tot zss k + (zss.getD k []).length := by
  unfold tot; rw [flat_snoc zss k h, List.length_append]
set_option maxRecDepth 100000 in
set_option maxHeartbeats 2000000 in
theorem conc_any (p m cap : Nat) (vs : List Value) (zss : List (List Int)) (w : World) (hm : zss.length = m) (hp : p < w.heap.size) (hc : ∀ i, i < m → w.cell? ⟨p, i, none⟩ = some (vs.getD i undef))
    (hz : ∀ i, i < m → Part w (vs.getD i undef) (zss.getD i [])) (ht : zss.flatten.length ≤ 1048576) (h0 : 0 < zss.flatten.length) (hm' : m ≤ 1048576) :
    Calls Try.prog 56 #[.slice (some ⟨p, 0, none⟩) m cap] w fun e w' => ∃ v, e = .returned v ∧ Own w' w.heap.size v zss.flatten ∧ Below w.heap.size w w' := by
  have HM : Hid (zss.length = m) := hm
  have HC : Hid (∀ i, i < m → w.cell? ⟨p, i, none⟩ = some (vs.getD i undef)) := hc
  have HZ : Hid (∀ i, i < m → Part w (vs.getD i undef) (zss.getD i [])) := hz
  have HT : Hid (zss.flatten.length ≤ 1048576 ∧ 0 < zss.flatten.length) := ⟨ht, h0⟩
  have HTA : Hid (tot zss m = zss.flatten.length) := by show _ = _; unfold tot; rw [List.take_of_length_le (by omega)]
  clear hc hz ht h0 hm
  go_enter Try.func56, Try.ntmps56
  go_wp2_with fail
  go_loop [3, 11] (fun q i => ∃ k : Nat, k ≤ m ∧ i = .int .i64 k ∧ q = .int .i64 (tot zss k)) (fun _ i => m - (intOf i).toNat)
  case atStart => exact ⟨0, Nat.zero_le _, rfl, rfl⟩
  case round =>
    obtain ⟨k, hk, rfl, rfl⟩ := hrel
    by_cases hlt : k < m
    · have hlt' : (k : Int) < m := by omega
      obtain ⟨b, o, c, hv, hb, hcell⟩ := HZ.out k hlt
      have hck : w.cell? ⟨p, k, none⟩ = some (.slice (some ⟨b, o, none⟩) (zss.getD k []).length c) := by rw [HC.out k hlt, hv]
      have HS : Hid (tot zss (k + 1) = tot zss k + (zss.getD k []).length) := tot_succ zss k (by have := HM.out; omega)
      have hle : tot zss (k + 1) ≤ 1048576 := Nat.le_trans (flat_le zss (k + 1)) HT.out.1
      rw [HS.out] at hle
      clear hcell hv hb
      generalize (zss.getD k []).length = z at *
      generalize tot zss k = y at *
      have hn0 : ¬ ((y : Int) + z < 0) := by omega
      go_wp2
      go_round
      case rel => exact ⟨k + 1, by omega, by go_num, by rw [HS.out]; go_num⟩
      case measure => simp [intOf]; omega
    · have hke : k = m := by omega
      subst hke
      obtain ⟨N, hN⟩ : ∃ N, tot zss k = N := ⟨_, rfl⟩
      have CG := grow_any N w (by rw [← hN, HTA.out]; exact HT.out.2) (by rw [← hN, HTA.out]; exact HT.out.1)
      have hNb : N ≤ 1048576 := by rw [← hN, HTA.out]; exact HT.out.1
      rw [hN]
      clear hN HTA
      have hlt' : ¬ ((k : Int) < k) := by omega
      go_wp2_with fail
      refine CG.mono ?_
      rintro e w1 ⟨v1, rfl, ho1, hb1⟩
      have HO1 : Hid (Own w1 w.heap.size v1 []) := ho1
      have HB1 : Hid (Below w.heap.size w w1) := hb1
      clear ho1 hb1 hlt' CG
      go_wp2_with fail
      go_loopw [6, 27] (fun v i wr => ∃ (j : Nat) (l : Value), j ≤ k ∧ i = .int .i64 j ∧ l = v ∧ Own wr w.heap.size l (zss.take j).flatten ∧ Below w.heap.size w wr) (fun _ i _ => k - (intOf i).toNat)
      case atStart => exact ⟨0, _, Nat.zero_le _, rfl, rfl, HO1.out, HB1.out⟩
      case round =>
        clear HO1 HB1
        obtain ⟨j, l, hj, rfl, rfl, hown, hbel⟩ := hrel
        by_cases hlt : j < k
        · have hsz := hbel.size
          obtain ⟨b, o, c, hv, hb, hcell⟩ := HZ.out j hlt
          have hck : wr.cell? ⟨p, j, none⟩ = some (.slice (some ⟨b, o, none⟩) (zss.getD j []).length c) := by rw [hbel.cell (p := ⟨p, j, none⟩) hp, HC.out j hlt, hv]
          have HNW : Hid (∀ i, i < (zss.getD j []).length → wr.cell? ((⟨b, o, none⟩ : Addr).add i) = some (.int .u8 ((zss.getD j []).getD i 0))) := by
            intro i hi; rw [Addr.add_lit, hbel.cell (p := ⟨b, o + i, none⟩) hb]; exact hcell i hi
          have hfl := flat_snoc zss j (by have := HM.out; omega)
          have hle := flat_le zss (j + 1)
          have HL : Hid ((zss.take j).flatten.length + (zss.getD j []).length ≤ 1099511627776) := by show _ ≤ _; rw [hfl, List.length_append] at hle; have := HT.out.1; omega
          have HFL : Hid ((zss.take (j + 1)).flatten = (zss.take j).flatten ++ zss.getD j []) := hfl
          have HOW : Hid (Own wr w.heap.size l (zss.take j).flatten) := hown
          have HBE : Hid (Below w.heap.size w wr) := hbel
          clear hcell hv hb hfl hle hown hbel
          go_wp2_with (first
            | (at_builtin; refine wpList_app _ rfl (.tmp 31) (.tmp 32) rfl w.heap.size _ _ rfl HOW.out ⟨b, o, none⟩ _ c (zss.getD j []) rfl rfl HNW.out HL.out hsz ?_)
            | fail)
          intro v' w2 hown' hbel' _
          have HO2 : Hid (Own w2 w.heap.size v' (zss.take (j + 1)).flatten) := by show Own _ _ _ _; rw [HFL.out]; exact hown'
          have HB2 : Hid (Below w.heap.size w w2) := HBE.out.trans hbel'
          clear hown' hbel' HOW HBE HNW
          go_wp2
          go_roundw
          case rel => exact ⟨j + 1, _, by omega, by go_num, rfl, HO2.out, HB2.out⟩
          case measure => simp [intOf]; omega
        · have hje : j = k := by omega
          have hlt' : ¬ ((j : Int) < k) := by omega
          have HO2 : Hid (Own wr w.heap.size l zss.flatten) := by
            have : zss.take j = zss := List.take_of_length_le (by have := HM.out; omega)
            rw [this] at hown; exact hown
          clear hown
          go_wp2
          go_ret
          exact ⟨_, rfl, HO2.out, hbel⟩
end Go.Proofs.Ytmnoelfabldpfaa
