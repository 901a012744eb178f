/-
  Own work: the model's least form.
-/
import Derived.Test.YthghkfncpdnpoacSFe
import Derived.Test.YthghkfncpdnpoacFe3
namespace Go.Proofs.Ythghkfncpdnpoac
open Go.ChangeShapes Go.WideShapes Go.ChangeAt Go.RowKit
set_option linter.unusedVariables false

set_option maxHeartbeats 400000 in
theorem l4P_any (i : Nat) (w : World) (hi : i < 16) : Calls Try.prog 122 #[.int .i64 i] w fun e w' => e = .returned (.int .i64 (pD.getD i 0)) ∧ w' = w := by
  rw [pD_get i hi]
  by_cases h0 : i = 0
  · subst h0
    go_enter Try.func122, Try.ntmps122
    go_wp2
    go_ret
    exact ⟨rfl, rfl⟩
  · rw [if_neg h0]
    have h0' : ((i : Int) == 0) = false := by simp; omega
    by_cases h15 : i = 15
    · subst h15
      go_enter Try.func122, Try.ntmps122
      go_wp2
      go_ret
      exact ⟨rfl, rfl⟩
    · rw [if_neg h15]
      have h15' : ((i : Int) == 15) = false := by simp; omega
      go_enter Try.func122, Try.ntmps122
      go_wp2
      go_ret
      exact ⟨rfl, rfl⟩

/-- Sixteen digits of the number x. -/
def LsA (w : World) (a : Option Addr) (x : Int) : Prop := ∃ zs, At .i64 w a zs ∧ zs.length = 16 ∧ (∀ i, 0 ≤ zs.getD i 0 ∧ zs.getD i 0 < 65536) ∧ val 65536 zs = x
def LsP (w : World) (x : Int) (e : Ending) (w' : World) : Prop :=
  ∃ g c, e = .returned (.slice (some ⟨g, 0, none⟩) 16 c) ∧ w.heap.size ≤ g ∧ g < w'.heap.size ∧ LsA w' (some ⟨g, 0, none⟩) x ∧ Below w.heap.size w w'
theorem LsA.below {w w' : World} {a : Option Addr} {x : Int} (h : LsA w a x) (hb : Below w.heap.size w w') : LsA w' a x := by
  obtain ⟨zs, h1, h2⟩ := h
  exact ⟨zs, h1.below hb, h2⟩
structure LsS (w : World) (x : Int) (v : Value) (wr : World) : Prop where
  ls : ∃ g c, v = .slice (some ⟨g, 0, none⟩) 16 c ∧ w.heap.size ≤ g ∧ g < wr.heap.size ∧ LsA wr (some ⟨g, 0, none⟩) x
  below : Below w.heap.size w wr
/-- One less p, if it is there. -/
def less1 (x : Int) : Int := if fp ≤ x then x - fp else x
def lessN (x : Int) : Nat → Int
  | 0 => x
  | k + 1 => less1 (lessN x k)
theorem lessN_two {x : Int} (h0 : 0 ≤ x) (h1 : x < 65536 ^ 16) : lessN x 2 = x % fp := by
  have e : (65536 : Int) ^ 16 = 2 * fp + 38 := by decide
  rw [e] at h1
  have e2 : lessN x 2 = less1 (less1 x) := rfl
  rw [e2]
  unfold less1
  unfold fp at *
  split <;> (try split) <;> omega

set_option maxHeartbeats 1000000 in
theorem least_any (a : Option Addr) (cap : Nat) (x : Int) (w : World) (ha : FeA w a x) : Calls Try.prog 87 #[.slice a 16 cap] w (LsP w x) := by
  obtain ⟨xs, hA, hR, hx⟩ := ha
  have hd := least_dig hR
  have h1b : Bd 65700 xs := hR.2
  have h2b : Bd 65611 (carryL xs) := by
    have hc := cy_bd (C := 2) hR.2 (by decide) (by decide) 16
    exact (carry_bd (by decide) hc).1
  have h3b : Bd 65535 (carryL (carryL xs)) := fun i => by have := hd i; omega
  have hid := carry_id (carryL_len _) hd
  have hfv : val 65536 (carryL (carryL xs)) % fp = x := by
    rw [← hx]
    have := fv_carry (carryL xs) (carryL_len _)
    rw [fv_carry xs hR.1] at this
    exact this
  have hv0 : 0 ≤ val 65536 (carryL (carryL xs)) := val_nonneg (by decide) (dig_of_get hd)
  have hv1 : val 65536 (carryL (carryL xs)) < 65536 ^ 16 := by
    have := val_lt (B := 65536) (by decide) (dig_of_get hd)
    rwa [carryL_len] at this
  have hfin := lessN_two hv0 hv1
  rw [hfv] at hfin
  have HD : Hid (∀ i, 0 ≤ (carryL (carryL xs)).getD i 0 ∧ (carryL (carryL xs)).getD i 0 < 65536) := hd
  have HFIN : Hid (lessN (val 65536 (carryL (carryL xs))) 2 = x) := hfin
  have HR : Hid (xs.length = 16) := hR.1
  clear hfv hv0 hv1 hfin hR hx hd
  go_enter Try.func87, Try.ntmps87
  go_wp2_with fail
  refine (carry_any _ cap xs _ HR.out hA 65700 2 h1b (by decide) (by decide) (by decide) (by decide)).mono ?_
  rintro e w1 ⟨g1, c1, rfl, o1, b1⟩
  obtain ⟨hA1, _, _⟩ := o1.atS
  clear o1 hA
  go_wp2_with fail
  refine (carry_any _ c1 (carryL xs) _ (carryL_len _) hA1 65611 2 h2b (by decide) (by decide) (by decide) (by decide)).mono ?_
  rintro e w2 ⟨g2, c2, rfl, o2, b2⟩
  obtain ⟨hA2, _, _⟩ := o2.atS
  have B2 : Below w.heap.size w w2 := b1.trans (b2.mono b1.size)
  clear o2 hA1 b1 b2 h1b h2b
  generalize hys : carryL (carryL xs) = ys at *
  have HYL : Hid (ys.length = 16) := by rw [← hys]; exact carryL_len _
  clear hys
  go_wp2_with fail
  refine (carry_any _ c2 ys _ HYL.out hA2 65535 1 h3b (by decide) (by decide) (by decide) (by decide)).mono ?_
  rintro e w3 ⟨g3, c3, rfl, o3, b3⟩
  rw [hid] at o3
  obtain ⟨hA3, _, _⟩ := o3.atS
  have B3 : Below w.heap.size w w3 := B2.trans (b3.mono B2.size)
  clear o3 hA2 b3 B2
  go_wp2_with fail
  refine (carry_any _ c3 ys _ HYL.out hA3 65535 1 h3b (by decide) (by decide) (by decide) (by decide)).mono ?_
  rintro e w4 ⟨g4, c4, rfl, o4, b4⟩
  rw [hid] at o4
  obtain ⟨hA4, hg4, hg4'⟩ := o4.atS
  have B4 : Below w.heap.size w w4 := B3.trans (b4.mono B3.size)
  have HS : Hid (LsS w (lessN (val 65536 ys) 0) (.slice (some ⟨g4, 0, none⟩) 16 c4) w4) := ⟨⟨g4, c4, rfl, by have := B3.size; omega, hg4', ⟨ys, hA4, HYL.out, HD.out, rfl⟩⟩, B4⟩
  clear o4 hA3 hA4 b4 B3 B4 h3b hid HD HYL
  generalize val 65536 ys = V at *
  go_wp2
  go_loopw [3, 4] (fun v i wr => ∃ m : Nat, m ≤ 2 ∧ i = .int .i64 m ∧ LsS w (lessN V m) v wr) (fun _ i _ => 2 - (intOf i).toNat)
  case atStart => exact ⟨0, by decide, rfl, HS.out⟩
  case round =>
    clear HS
    obtain ⟨m, hm, rfl, ⟨⟨g, c, rfl, hg, hg', ⟨zs, hzA, hzl, hzd, hzv⟩⟩, hbel⟩⟩ := hrel
    by_cases hm2 : m < 2
    · have hm2' : (m : Int) < 2 := by omega
      have HN : Hid (lessN V (m + 1) = less1 (lessN V m)) := rfl
      have HZ : Hid (At .i64 wr (some ⟨g, 0, none⟩) zs ∧ zs.length = 16 ∧ (∀ i, 0 ≤ zs.getD i 0 ∧ zs.getD i 0 < 65536) ∧ val 65536 zs = lessN V m) := ⟨hzA, hzl, hzd, hzv⟩
      have HB : Hid (Below w.heap.size w wr) := hbel
      clear hzA hzl hzd hzv hbel
      generalize lessN V m = U at *
      obtain ⟨w5, hw5⟩ : ∃ x, x = wr := ⟨_, rfl⟩
      subst hw5
      go_wp2
      go_loopw [5, 6, 7] (fun v b i wq => ∃ (k : Nat) (ds : List Int) (bb : Int), k ≤ 16 ∧ i = .int .i64 k ∧ b = .int .i64 bb ∧ (bb = 0 ∨ bb = 1) ∧ ds.length = k ∧ (∀ i, 0 ≤ ds.getD i 0 ∧ ds.getD i 0 < 65536) ∧ val 65536 (zs.take k) - val 65536 (pD.take k) = val 65536 ds - bb * 65536 ^ k ∧ OwnI wq w5.heap.size v ds ∧ Below w5.heap.size w5 wq) (fun _ _ i _ => 16 - (intOf i).toNat)
      case atStart => exact ⟨0, [], 0, by decide, rfl, rfl, .inl rfl, rfl, fun i => by simp, by simp [val], OwnK.empty _ _ (Nat.le_refl _), (Below.refl _ _).alloc (Nat.le_refl _) _⟩
      case round =>
        obtain ⟨k, ds, bb, hk, rfl, rfl, hbb, hdl, hdd, hdv, hown, hbq⟩ := hrel
        by_cases hk16 : k < 16
        · have hk16' : (k : Int) < 16 := by omega
          have hsz := hbq.size
          have c0 : wr.cell? ⟨g, k, none⟩ = some (.int .i64 (zs.getD k 0)) := by
            obtain ⟨_, _, e, _, hc⟩ := HZ.out.1.get (by have := HZ.out.2.1; omega)
            cases e
            rw [hbq.cell (p := ⟨g, k, none⟩) hg']
            have := hc k (by have := HZ.out.2.1; omega)
            rwa [Nat.zero_add] at this
          have hx := HZ.out.2.2.1 k
          have hy := pD_dig k
          have vx := val_take 65536 zs k (by have := HZ.out.2.1; omega)
          have vy := val_take 65536 pD k (by simpa [pD] using hk16)
          obtain ⟨x', b', hb', hx0', hx1', hx2⟩ : ∃ x' b' : Int, (b' = 0 ∨ b' = 1) ∧ 0 ≤ x' ∧ x' < 65536 ∧ x' - b' * 65536 = zs.getD k 0 - pD.getD k 0 - bb := by
            by_cases h : zs.getD k 0 - pD.getD k 0 - bb < 0
            · exact ⟨zs.getD k 0 - pD.getD k 0 - bb + 65536, 1, .inr rfl, by omega, by omega, by omega⟩
            · exact ⟨zs.getD k 0 - pD.getD k 0 - bb, 0, .inl rfl, by omega, by omega, by omega⟩
          have hstep := sub_step16 _ _ _ _ _ _ _ _ _ _ hdv hx2
          rw [← vx, ← vy, ← Int.pow_succ, ← hdl, ← val_snoc, hdl] at hstep
          have HST : Hid (val 65536 (zs.take (k + 1)) - val 65536 (pD.take (k + 1)) = val 65536 (ds ++ [x']) - b' * 65536 ^ (k + 1)) := hstep
          have HDD : Hid (∀ i, 0 ≤ (ds ++ [x']).getD i 0 ∧ (ds ++ [x']).getD i 0 < 65536) := by
            intro i
            rcases Nat.lt_trichotomy i ds.length with h | h | h
            · rw [List.getD_eq_getElem?_getD, List.getElem?_append_left h, ← List.getD_eq_getElem?_getD]; exact hdd i
            · subst h; rw [List.getD_eq_getElem?_getD, List.getElem?_append_right (Nat.le_refl _)]; simp; omega
            · rw [getD_past (by simp; omega)]; omega
          have HDL : Hid (ds.length = k) := hdl
          have LP := l4P_any k
          clear hstep hdv vx vy hdd hdl
          generalize zs.getD k 0 = x at *
          generalize pD.getD k 0 = y at *
          obtain ⟨hx0, hx1⟩ := hx
          obtain ⟨hy0, hy1⟩ := hy
          go_wp2
          go_quiet (first | (go_at_call 122; refine Calls.quiet_of_same (LP _ hk16)))
          have O2 : OwnI (wr.drewN nq) w5.heap.size u5 ds := hown
          have B2 : Below w5.heap.size w5 (wr.drewN nq) := ⟨hbq.os, hbq.tape, hbq.output, hbq.size, hbq.block⟩
          have Z2 : w5.heap.size ≤ (wr.drewN nq).heap.size := hsz
          clear hown hbq hsz c0 LP
          generalize wr.drewN nq = w6 at *
          have ht0 : -65538 < x - y - bb := by omega
          have ht1 : x - y - bb < 65536 := by omega
          generalize x - y - bb = t at *
          by_cases hneg : t < 0
          · obtain rfl : b' = 1 := by omega
            obtain rfl : x' = t + 65536 := by omega
            clear hx2 hbb hb'
            go_wp2_with (at_builtin; refine wpList_appK _ ktI rfl _ _ rfl w5.heap.size _ _ rfl (O2.alloc _) ⟨w6.heap.size, 0, none⟩ 1 1 [t + 65536] rfl rfl ?c1 ?c2 ?c3 ?_)
            all_goals first | (intro j hj; obtain rfl : j = 0 := by omega
                               simp [Addr.add]; done) | skip
            case c2 => rw [HDL.out]; omega
            case c3 => first | omega | (rw [World.size_alloc]; omega)
            intro v' w7 hown' hbel' _
            have HO : Hid (OwnI w7 w5.heap.size v' (ds ++ [t + 65536])) := hown'
            have HB7 : Hid (Below w5.heap.size w5 w7) := (B2.alloc (by omega) _).trans hbel'
            clear O2 hown' B2 hbel'
            go_wp2
            go_roundw
            case rel => exact ⟨k + 1, ds ++ [t + 65536], 1, by omega, by go_num, rfl, .inr rfl, by rw [List.length_append, HDL.out]; rfl, HDD.out, HST.out, HO.out, HB7.out⟩
            case measure => simp [intOf]; omega
          · obtain rfl : b' = 0 := by omega
            obtain rfl : x' = t := by omega
            clear hx2 hbb hb'
            go_wp2_with (at_builtin; refine wpList_appK _ ktI rfl _ _ rfl w5.heap.size _ _ rfl (O2.alloc _) ⟨w6.heap.size, 0, none⟩ 1 1 [x'] rfl rfl ?d1 ?d2 ?d3 ?_)
            all_goals first | (intro j hj; obtain rfl : j = 0 := by omega
                               simp [Addr.add]; done) | skip
            case d2 => rw [HDL.out]; omega
            case d3 => first | omega | (rw [World.size_alloc]; omega)
            intro v' w7 hown' hbel' _
            have HO : Hid (OwnI w7 w5.heap.size v' (ds ++ [x'])) := hown'
            have HB7 : Hid (Below w5.heap.size w5 w7) := (B2.alloc (by omega) _).trans hbel'
            clear O2 hown' B2 hbel'
            go_wp2
            go_roundw
            case rel => exact ⟨k + 1, ds ++ [x'], 0, by omega, by go_num, rfl, .inl rfl, by rw [List.length_append, HDL.out]; rfl, HDD.out, HST.out, HO.out, HB7.out⟩
            case measure => simp [intOf]; omega
        · have hk16e : k = 16 := by omega
          rw [hk16e, List.take_of_length_le (by have := HZ.out.2.1; omega), List.take_of_length_le (by simp [pD]), pD_val, HZ.out.2.2.2] at hdv
          have z0 : 0 ≤ val 65536 ds := val_nonneg (by decide) (dig_of_get hdd)
          have z1 : val 65536 ds < 65536 ^ 16 := by
            have := val_lt (B := 65536) (by decide) (dig_of_get hdd)
            rwa [hdl, hk16e] at this
          have hk16' : ¬ (k : Int) < 16 := by omega
          have hUl : U < 65536 ^ 16 := by
            have := val_lt (B := 65536) (by decide) (dig_of_get HZ.out.2.2.1)
            rwa [HZ.out.2.1, HZ.out.2.2.2] at this
          obtain ⟨gd, cd, rfl, hgd, hgd', hdA⟩ := hown.at_
          have hdl16 : ds.length = 16 := by omega
          rw [hdl16]
          have hs5 := HB.out.size
          have HB8 : Hid (Below w.heap.size w wr) := HB.out.trans (hbq.mono hs5)
          rcases hbb with rfl | rfl
          · have HP : Hid (LsS w (lessN V (m + 1)) (.slice (some ⟨gd, 0, none⟩) 16 cd) wr) := by
              refine ⟨⟨gd, cd, rfl, by omega, hgd', ⟨ds, hdA, hdl16, hdd, ?_⟩⟩, HB8.out⟩
              rw [HN.out]; unfold less1; rw [if_pos (by omega)]; omega
            clear hdv z0 z1 hUl hdA hdd hown hbq hdl hdl16 HN HZ hk16e
            go_wp2
            go_roundw
            case rel => exact ⟨m + 1, by omega, by go_num, HP.out⟩
            case measure => simp [intOf]; omega
          · have HP : Hid (LsS w (lessN V (m + 1)) (.slice (some ⟨g, 0, none⟩) 16 c) wr) := by
              obtain ⟨q1, q2, q3, q4⟩ := HZ.out
              refine ⟨⟨g, c, rfl, hg, by have := hbq.size; omega, ⟨zs, q1.below hbq, q2, q3, ?_⟩⟩, HB8.out⟩
              rw [HN.out, q4]; unfold less1; rw [if_neg (by omega)]
            clear hdv z0 z1 hUl hdA hdd hown hbq hdl hdl16 HN HZ hk16e
            go_wp2
            go_roundw
            case rel => exact ⟨m + 1, by omega, by go_num, HP.out⟩
            case measure => simp [intOf]; omega
    · have hme : m = 2 := by omega
      have HP : Hid (LsP w x (.returned (.slice (some ⟨g, 0, none⟩) 16 c)) wr) := ⟨g, c, rfl, hg, hg', ⟨zs, hzA, hzl, hzd, by rw [hzv, hme]; exact HFIN.out⟩, hbel⟩
      clear hzA hzl hzd hzv hbel hme
      go_wp2
      go_ret
      exact HP.out
end Go.Proofs.Ythghkfncpdnpoac
