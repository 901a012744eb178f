/-
  Own work: the model's small elements and products.
-/
import Derived.Test.YthghkfncpdnpoacSCar
namespace Go.Proofs.Ythghkfncpdnpoac
open Go.ChangeShapes Go.WideShapes Go.ChangeAt Go.RowKit
set_option linter.unusedVariables false

theorem dN_dN (w : World) (m n : Nat) : (w.drewN m).drewN n = w.drewN (m + n) := by
  simp [World.drewN, Nat.add_assoc]

/-- The slot's slice reads as an element of the value x. -/
def FeA (w : World) (a : Option Addr) (x : Int) : Prop := ∃ zs, At .i64 w a zs ∧ R zs ∧ fv zs = x
/-- An answer that is an element of the value x. -/
def FeP (w : World) (x : Int) (e : Ending) (w' : World) : Prop :=
  ∃ g c, e = .returned (.slice (some ⟨g, 0, none⟩) 16 c) ∧ w.heap.size ≤ g ∧ g < w'.heap.size ∧ FeA w' (some ⟨g, 0, none⟩) x ∧ Below w.heap.size w w'
theorem FeA.below {w w' : World} {a : Option Addr} {x : Int} (h : FeA w a x) (hb : Below w.heap.size w w') : FeA w' a x := by
  obtain ⟨zs, h1, h2⟩ := h
  exact ⟨zs, h1.below hb, h2⟩
theorem FeA.bd {w : World} {a : Option Addr} {x : Int} (h : FeA w a x) : 0 ≤ x ∧ x < fp := by
  obtain ⟨zs, h1, h2, rfl⟩ := h
  unfold fv fp; omega
theorem FeR.fe {w : World} {zs : List Int} {x : Int} {e : Ending} {w' : World} (h : FeR w zs e w') (hR : R zs) (hv : fv zs = x) : FeP w x e w' := by
  obtain ⟨g, c, he, ho, hb⟩ := h
  obtain ⟨hA, h1, h2⟩ := ho.atS
  exact ⟨g, c, he, h1, h2, ⟨zs, hA, hR, hv⟩, hb⟩

set_option maxHeartbeats 400000 in
theorem small_any (x : Int) (w : World) (h0 : -1048576 ≤ x) (h1 : x ≤ 1048576) : Calls Try.prog 90 #[.int .i64 x] w (FeP w (x % fp)) := by
  obtain ⟨t1, t2, t3⟩ := two_R (xs := smallL x) rfl (smallL_bd (M := 1048576) ⟨h0, h1⟩) (by decide) (by decide)
  have HT : Hid (R (carryL (carryL (smallL x))) ∧ fv (carryL (carryL (smallL x))) = x % fp) := ⟨t1, by rw [t2]; unfold fv; rw [smallL_val]⟩
  have HB2 : Hid (Bd 20401160191 (carryL (smallL x))) := t3
  have HS : Hid (OwnI (w.alloc (.cells #[.int .i64 x] 2)) w.heap.size (.slice (some ⟨w.heap.size, 0, none⟩) 1 1) (x :: List.replicate 0 0)) := OwnK.lit w _ [x] (Nat.le_refl _) (by simp)
  clear t1 t2 t3
  go_enter Try.func90, Try.ntmps90
  go_wp2
  go_loopw [3, 4] (fun v i wr => ∃ k : Nat, k ≤ 15 ∧ i = .int .i64 ((k : Int) + 1) ∧ OwnI wr w.heap.size v (x :: List.replicate k 0) ∧ Below w.heap.size w wr) (fun _ i _ => 16 - (intOf i).toNat)
  case atStart => exact ⟨0, by decide, rfl, HS.out, (Below.refl _ _).alloc (Nat.le_refl _) _⟩
  case round =>
    clear HS
    obtain ⟨k, hk, rfl, hown, hbel⟩ := hrel
    by_cases hlt : k < 15
    · have hsz := hbel.size
      have hlt' : (k : Int) + 1 < 16 := by omega
      go_wp2_with (at_builtin; refine wpList_appK _ ktI rfl _ _ rfl w.heap.size _ _ rfl (hown.alloc _) ⟨wr.heap.size, 0, none⟩ 1 1 [0] rfl rfl ?c1 ?c2 ?c3 ?_)
      all_goals first | (intro j hj; obtain rfl : j = 0 := by omega
                         simp [Addr.add]; done) | skip
      case c2 => simp; omega
      case c3 => first | omega | (rw [World.size_alloc]; omega)
      intro v' w1 hown' hbel' _
      have HO : Hid (OwnI w1 w.heap.size v' (x :: List.replicate (k + 1) 0)) := by rw [List.replicate_succ']; exact hown'
      have HB : Hid (Below w.heap.size w w1) := (hbel.alloc (by omega) _).trans hbel'
      clear hown hown' hbel hbel'
      go_wp2
      go_roundw
      case rel => exact ⟨k + 1, by omega, by go_num, HO.out, HB.out⟩
      case measure => simp [intOf]; omega
    · have hk15 : k = 15 := by omega
      have ho : OwnI wr w.heap.size u3 (smallL x) := by rw [hk15] at hown; exact hown
      obtain ⟨g, c, rfl, hg, hg', hA⟩ := ho.at_
      have hl : (smallL x).length = 16 := rfl
      rw [hl]
      clear ho hown
      have hlt' : ¬ (k : Int) + 1 < 16 := by omega
      go_wp2_with fail
      refine (carry_any _ c (smallL x) _ rfl hA 1048576 17 (smallL_bd ⟨h0, h1⟩) (by decide) (by decide) (by decide) (by decide)).mono ?_
      rintro e w1 ⟨g1, c1, rfl, o1, b1⟩
      obtain ⟨hA1, _, _⟩ := o1.atS
      have s1 := b1.size
      have hB1 : Below w.heap.size w w1 := hbel.trans (b1.mono hbel.size)
      clear hA o1 b1 hbel hk15
      go_wp2_with fail
      refine (carry_any _ c1 (carryL (smallL x)) _ (carryL_len _) hA1 20401160191 311304 HB2.out (by decide) (by decide) (by decide) (by decide)).mono ?_
      rintro e w2 h2
      have HP : Hid (FeP w (x % fp) e w2) := by
        obtain ⟨g2, c2, rfl, p1, p2, p3, p4⟩ := h2.fe HT.out.1 HT.out.2
        exact ⟨g2, c2, rfl, by have := hB1.size; omega, p2, p3, hB1.trans (p4.mono hB1.size)⟩
      obtain ⟨g2, c2, rfl, _⟩ := h2
      clear hA1 hB1
      go_wp2
      go_ret
      exact HP.out

set_option maxHeartbeats 1000000 in
theorem fmul_any (a a' : Option Addr) (cap cap' : Nat) (x y : Int) (w : World) (ha : FeA w a x) (ha' : FeA w a' y) :
    Calls Try.prog 93 #[.slice a 16 cap, .slice a' 16 cap'] w (FeP w (x * y % fp)) := by
  obtain ⟨xs, hA, hR, rfl⟩ := ha
  obtain ⟨ys, hA', hR', rfl⟩ := ha'
  obtain ⟨b0, off, rfl, hb0, hc⟩ := hA.get (by have := hR.1; omega)
  obtain ⟨b1, off', rfl, hb1, hc'⟩ := hA'.get (by have := hR'.1; omega)
  obtain ⟨t1, t2, t3⟩ := two_R (mulL_len xs ys) (mulL_bd hR hR') (by decide) (by decide)
  have HT : Hid (R (carryL (carryL (mulL xs ys))) ∧ fv (carryL (carryL (mulL xs ys))) = fv xs * fv ys % fp) := ⟨t1, by rw [t2, fv_mulL _ _ hR.1 hR'.1]⟩
  have HB2 : Hid (Bd 20401160191 (carryL (mulL xs ys))) := t3
  have HB1 : Hid (Bd 17592186044416 (mulL xs ys)) := mulL_bd hR hR'
  have HC : Hid (∀ i, i < 16 → w.cell? ⟨b0, off + i, none⟩ = some (.int .i64 (xs.getD i 0))) := fun i hi => hc i (by have := hR.1; omega)
  have HC' : Hid (∀ i, i < 16 → w.cell? ⟨b1, off' + i, none⟩ = some (.int .i64 (ys.getD i 0))) := fun i hi => hc' i (by have := hR'.1; omega)
  have HS : Hid (∀ s n : Nat, n ≤ 16 → -69063840000 ≤ cs xs ys s n ∧ cs xs ys s n ≤ 69063840000) := fun s n hn => by
    have := cs_bd hR.2 hR'.2 (by decide) s n; omega
  have HR : Hid (R xs ∧ R ys) := ⟨hR, hR'⟩
  clear t1 t2 t3 hc hc' hA hA' hR hR'
  go_enter Try.func93, Try.ntmps93
  go_wp2
  go_loopw [5, 6] (fun v i wr => ∃ k : Nat, k ≤ 16 ∧ i = .int .i64 k ∧ OwnI wr w.heap.size v ((mulL xs ys).take k) ∧ Below w.heap.size w wr) (fun _ i _ => 16 - (intOf i).toNat)
  case atStart => exact ⟨0, by decide, rfl, OwnK.empty _ _ (Nat.le_refl _), (Below.refl _ _).alloc (Nat.le_refl _) _⟩
  case round =>
    obtain ⟨k, hk, rfl, hown, hbel⟩ := hrel
    by_cases hlt : k < 16
    · have hlt' : (k : Int) < 16 := by omega
      have HO : Hid (OwnI wr w.heap.size u5 ((mulL xs ys).take k)) := hown
      have HBE : Hid (Below w.heap.size w wr) := hbel
      clear hown hbel
      obtain ⟨w5, hw5⟩ : ∃ x, x = wr := ⟨_, rfl⟩
      subst hw5
      go_wp2
      go_loopw [7, 9] (fun l i wq => ∃ (n q : Nat), n ≤ k + 1 ∧ i = .int .i64 n ∧ l = .int .i64 (cs xs ys k n) ∧ wq = w5.drewN q) (fun _ i _ => 17 - (intOf i).toNat)
      case atStart => exact ⟨0, 0, Nat.zero_le _, rfl, rfl, rfl⟩
      case round =>
        obtain ⟨n, q, hn, rfl, rfl, rfl⟩ := hrel
        by_cases hnk : n ≤ k
        · have hnk' : (n : Int) ≤ (k : Int) := by omega
          have hx := (HR.out.1).2 n
          have hy := (HR.out.2).2 (k - n)
          have c0 : w5.cell? ⟨b0, off + n, none⟩ = some (.int .i64 (xs.getD n 0)) := by
            rw [HBE.out.cell (p := ⟨b0, off + n, none⟩) hb0]; exact HC.out n (by omega)
          have c1 : w5.cell? ⟨b1, off' + (k - n), none⟩ = some (.int .i64 (ys.getD (k - n) 0)) := by
            rw [HBE.out.cell (p := ⟨b1, off' + (k - n), none⟩) hb1]; exact HC'.out (k - n) (by omega)
          have hsn := HS.out k n (by omega)
          have hsn1 := HS.out k (n + 1) (by omega)
          have hcs : cs xs ys k (n + 1) = cs xs ys k n + xs.getD n 0 * ys.getD (k - n) 0 := rfl
          obtain ⟨pr, hpr⟩ : ∃ pr, pr = xs.getD n 0 * ys.getD (k - n) 0 := ⟨_, rfl⟩
          rw [← hpr] at hcs
          have hw1 : wrap64 (xs.getD n 0 * ys.getD (k - n) 0) = pr := by rw [← hpr]; unfold wrap64; omega
          have hsub : ((k : Int) - (n : Int)) = ((k - n : Nat) : Int) := by omega
          have hkn16 : ((k - n : Nat) : Int) < 16 := by omega
          have hn16 : (n : Int) < 16 := by omega
          rw [hcs] at hsn1
          have HCS : Hid (cs xs ys k (n + 1) = cs xs ys k n + pr) := hcs
          clear hcs hpr hlt'
          generalize xs.getD n 0 = x at *
          generalize ys.getD (k - n) 0 = y at *
          generalize cs xs ys k n = S at *
          obtain ⟨s0, s1⟩ := hsn
          obtain ⟨s2, s3⟩ := hsn1
          obtain ⟨x0, x1⟩ := hx
          obtain ⟨y0, y1⟩ := hy
          go_wp2
          go_quiet (fail)
          rw [dN_dN]
          clear c0 c1 hw1 hsub hkn16 x0 x1 y0 y1
          go_wp2
          go_roundw
          case rel => exact ⟨n + 1, q + nq, by omega, by go_num, by rw [HCS.out], rfl⟩
          case measure => simp [intOf]; omega
        · have hnk' : ¬ (n : Int) ≤ (k : Int) := by omega
          obtain rfl : n = k + 1 := by omega
          have HL : Hid (cs xs ys k (k + 1) = loS xs ys k) := rfl
          rw [HL.out]
          have HLB : Hid (-69063840000 ≤ loS xs ys k ∧ loS xs ys k ≤ 69063840000) := HS.out k (k + 1) (by omega)
          generalize hlo : loS xs ys k = lo at *
          have HLO : Hid (loS xs ys k = lo) := hlo
          clear hlo HL
          have O5 : OwnI (w5.drewN q) w.heap.size u5 ((mulL xs ys).take k) := HO.out
          have B5 : Below w.heap.size w (w5.drewN q) := ⟨HBE.out.os, HBE.out.tape, HBE.out.output, HBE.out.size, HBE.out.block⟩
          have HO6 : Hid (OwnI (w5.drewN q) w.heap.size u5 ((mulL xs ys).take k)) := O5
          have HBE6 : Hid (Below w.heap.size w (w5.drewN q)) := B5
          clear HO HBE O5 B5
          generalize w5.drewN q = w6 at *
          have hk1 : ((k + 1 : Nat) : Int) = (k : Int) + 1 := by omega
          rw [hk1]
          clear hk1
          go_wp2
          go_loopw [8, 10] (fun l i wq => ∃ (n q : Nat), k + 1 ≤ n ∧ n ≤ 16 ∧ i = .int .i64 n ∧ l = .int .i64 (cs xs ys (16 + k) n) ∧ wq = w6.drewN q) (fun _ i _ => 16 - (intOf i).toNat)
          case atStart => exact ⟨k + 1, 0, Nat.le_refl _, by omega, by go_num, by rw [cs_zero_from HR.out.2.1 k (k + 1) (Nat.le_refl _)], rfl⟩
          case round =>
            obtain ⟨n, q, hnl, hnh, rfl, rfl, rfl⟩ := hrel
            by_cases hn16 : n < 16
            · have hx := (HR.out.1).2 n
              have hy := (HR.out.2).2 (16 + k - n)
              have c0 : w6.cell? ⟨b0, off + n, none⟩ = some (.int .i64 (xs.getD n 0)) := by
                rw [HBE6.out.cell (p := ⟨b0, off + n, none⟩) hb0]; exact HC.out n (by omega)
              have c1 : w6.cell? ⟨b1, off' + (16 + k - n), none⟩ = some (.int .i64 (ys.getD (16 + k - n) 0)) := by
                rw [HBE6.out.cell (p := ⟨b1, off' + (16 + k - n), none⟩) hb1]; exact HC'.out (16 + k - n) (by omega)
              have hsn := HS.out (16 + k) n (by omega)
              have hsn1 := HS.out (16 + k) (n + 1) (by omega)
              have hcs : cs xs ys (16 + k) (n + 1) = cs xs ys (16 + k) n + xs.getD n 0 * ys.getD (16 + k - n) 0 := rfl
              obtain ⟨pr, hpr⟩ : ∃ pr, pr = xs.getD n 0 * ys.getD (16 + k - n) 0 := ⟨_, rfl⟩
              rw [← hpr] at hcs
              have hw1 : wrap64 (xs.getD n 0 * ys.getD (16 + k - n) 0) = pr := by rw [← hpr]; unfold wrap64; omega
              have hsub : (16 + (k : Int) - (n : Int)) = ((16 + k - n : Nat) : Int) := by omega
              have hkn16 : ((16 + k - n : Nat) : Int) < 16 := by omega
              have hn16' : (n : Int) < 16 := by omega
              rw [hcs] at hsn1
              have HCS : Hid (cs xs ys (16 + k) (n + 1) = cs xs ys (16 + k) n + pr) := hcs
              clear hcs hpr hlt'
              generalize xs.getD n 0 = x at *
              generalize ys.getD (16 + k - n) 0 = y at *
              generalize cs xs ys (16 + k) n = S at *
              obtain ⟨s0, s1⟩ := hsn
              obtain ⟨s2, s3⟩ := hsn1
              obtain ⟨x0, x1⟩ := hx
              obtain ⟨y0, y1⟩ := hy
              go_wp2
              go_quiet (fail)
              rw [dN_dN]
              clear c0 c1 hw1 hsub hkn16 x0 x1 y0 y1
              go_wp2
              go_roundw
              case rel => exact ⟨n + 1, q + nq, by omega, by omega, by go_num, by rw [HCS.out], rfl⟩
              case measure => simp [intOf]; omega
            · obtain rfl : n = 16 := by omega
              rw [← hiS_eq HR.out.1.1 k, show ((16 : Nat) : Int) = 16 from rfl]
              have HHB : Hid (-69063840000 ≤ hiS xs ys k ∧ hiS xs ys k ≤ 69063840000) := by
                rw [hiS_eq HR.out.1.1 k]; exact HS.out (16 + k) 16 (by omega)
              have HTK : Hid ((mulL xs ys).take (k + 1) = (mulL xs ys).take k ++ [lo + 38 * hiS xs ys k]) := by
                show _ = _
                have e : (mulL xs ys).getD k 0 = lo + 38 * hiS xs ys k := by rw [← HLO.out]; exact rget _ k hlt
                rw [← e, List.take_succ_eq_append_getElem (by rw [mulL_len]; exact hlt), List.getD_eq_getElem?_getD, List.getElem?_eq_getElem (by rw [mulL_len]; exact hlt)]; rfl
              have HTL : Hid (((mulL xs ys).take k).length = k) := by show _ = _; rw [List.length_take, mulL_len]; omega
              have O7 : OwnI (w6.drewN q) w.heap.size u5 ((mulL xs ys).take k) := HO6.out
              have B7 : Below w.heap.size w (w6.drewN q) := ⟨HBE6.out.os, HBE6.out.tape, HBE6.out.output, HBE6.out.size, HBE6.out.block⟩
              clear HO6 HBE6
              generalize w6.drewN q = w7 at *
              generalize hiS xs ys k = hi at *
              obtain ⟨l0, l1⟩ := HLB.out
              obtain ⟨h0, h1⟩ := HHB.out
              have hsz := B7.size
              go_wp2_with (at_builtin; refine wpList_appK _ ktI rfl _ _ rfl w.heap.size _ _ rfl (O7.alloc _) ⟨w7.heap.size, 0, none⟩ 1 1 [lo + 38 * hi] rfl rfl ?c1 ?c2 ?c3 ?_)
              all_goals first | (intro j hj; obtain rfl : j = 0 := by omega
                                 simp [Addr.add]; done) | skip
              case c2 => rw [HTL.out]; omega
              case c3 => first | omega | (rw [World.size_alloc]; omega)
              intro v' w8 hown' hbel' _
              have HO8 : Hid (OwnI w8 w.heap.size v' ((mulL xs ys).take (k + 1))) := by rw [HTK.out]; exact hown'
              have HB8 : Hid (Below w.heap.size w w8) := (B7.alloc (by omega) _).trans hbel'
              clear hown' hbel' O7 B7
              go_wp2
              go_roundw
              case rel => exact ⟨k + 1, by omega, by go_num, HO8.out, HB8.out⟩
              case measure => simp [intOf]; omega
    · have hk16 : k = 16 := by omega
      have ho : OwnI wr w.heap.size u5 (mulL xs ys) := by rw [hk16, List.take_of_length_le (by rw [mulL_len]; decide)] at hown; exact hown
      obtain ⟨g, c, rfl, hg, hg', hA⟩ := ho.at_
      rw [mulL_len]
      clear ho hown
      have hlt' : ¬ (k : Int) < 16 := by omega
      go_wp2_with fail
      refine (carry_any _ c (mulL xs ys) _ (mulL_len _ _) hA 17592186044416 536870912 HB1.out (by decide) (by decide) (by decide) (by decide)).mono ?_
      rintro e w1 ⟨g1, c1, rfl, o1, b1'⟩
      obtain ⟨hA1, _, _⟩ := o1.atS
      have hB1 : Below w.heap.size w w1 := hbel.trans (b1'.mono hbel.size)
      clear hA o1 b1' hbel hk16
      go_wp2_with fail
      refine (carry_any _ c1 (carryL (mulL xs ys)) _ (carryL_len _) hA1 20401160191 311304 HB2.out (by decide) (by decide) (by decide) (by decide)).mono ?_
      rintro e w2 h2
      have HP : Hid (FeP w (fv xs * fv ys % fp) e w2) := by
        obtain ⟨g2, c2, rfl, p1, p2, p3, p4⟩ := h2.fe HT.out.1 HT.out.2
        exact ⟨g2, c2, rfl, by have := hB1.size; omega, p2, p3, hB1.trans (p4.mono hB1.size)⟩
      obtain ⟨g2, c2, rfl, _⟩ := h2
      clear hA1 hB1
      go_wp2
      go_ret
      exact HP.out
end Go.Proofs.Ythghkfncpdnpoac
