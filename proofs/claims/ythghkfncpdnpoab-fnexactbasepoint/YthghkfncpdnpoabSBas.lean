/-
  Own work: the model's base point.
-/
import Derived.Test.YthghkfncpdnpoabSPow
import Derived.Test.YthghkfncpdnpoabSLst
import Derived.Test.YthghkfncpdnpoabByP
namespace Go.Proofs.Ythghkfncpdnpoab
open Go.ChangeShapes Go.WideShapes Go.ChangeAt Go.RowKit
set_option linter.unusedVariables false

def baseY : Int := 46316835694926478169428394003475163141307993866256225615783033603165251855960
theorem base_evalN : 4 * pwN 5 11 5 254 255 % fpN = 46316835694926478169428394003475163141307993866256225615783033603165251855960 := by decide +kernel
theorem base_eval : (4 % fp) * pwF (5 % fp) 11 5 254 255 % fp = baseY := by
  have e : (5 % fp : Int) = ((5 : Nat) : Int) := by decide
  have e4 : (4 % fp : Int) = ((4 : Nat) : Int) := by decide
  rw [e, e4, pwF_N, fp_fpN, ← Int.natCast_mul, ← Int.natCast_emod, base_evalN]; rfl

theorem pair_val (bs : List Int) (d : Int) (k : Nat) (h : bs.length = 2 * k) : val 256 (bs ++ [d % 256, d / 256]) = val 256 bs + d * 65536 ^ k := by
  rw [val_append, h]
  have e : (256 : Int) ^ (2 * k) = 65536 ^ k := by rw [Int.pow_mul, show (256 : Int) ^ 2 = 65536 from by decide]
  rw [e]
  simp only [val]
  have : d % 256 + 256 * (d / 256) = d := Int.emod_add_mul_ediv _ _
  have e2 : d % 256 + 256 * (d / 256 + 256 * 0) = d := by omega
  rw [e2, Int.mul_comm]

/-- The bytes of the digits so far. -/
structure BYS (w w5 : World) (zs : List Int) (k : Nat) (v : Value) (wr : World) : Prop where
  st : ∃ bs : List Int, Own wr w5.heap.size v bs ∧ bs.length = 2 * k ∧ Byte bs ∧ val 256 bs = val 65536 (zs.take k)
  below : Below w5.heap.size w5 wr

def CodeP (w : World) (x : Int) (e : Ending) (w' : World) : Prop :=
  ∃ v bs, e = .returned v ∧ Own w' w.heap.size v bs ∧ Byte bs ∧ bs.length = 32 ∧ val 256 bs = x ∧ Below w.heap.size w w'
theorem Own.lower3 {w : World} {B B' : Nat} {v : Value} {zs : List Int} (h : Own w B' v zs) (hB : B ≤ B') : Own w B v zs := by
  obtain ⟨⟨h1, h2⟩, h3⟩ := h
  refine ⟨⟨h1, ?_⟩, h3⟩
  rcases h2 with h | ⟨g, c, cur, h4, h5, h6⟩
  · exact .inl h
  · exact .inr ⟨g, c, cur, h4, by omega, h6⟩

set_option maxHeartbeats 1000000 in
theorem sbas_any (w : World) : Calls Try.prog 9 #[] w (CodeP w baseY) := by
  go_enter Try.func9, Try.ntmps9
  go_wp2_with fail
  refine (small_any 4 _ (by decide) (by decide)).mono ?_
  rintro e w1 ⟨g1, c1, rfl, hg1, hg1', hf1, hb1⟩
  have HF1 : Hid (FeA w1 (some ⟨g1, 0, none⟩) (4 % fp)) := hf1
  clear hf1
  go_wp2_with fail
  refine (small_any 5 _ (by decide) (by decide)).mono ?_
  rintro e w2 ⟨g2, c2, rfl, hg2, hg2', hf2, hb2⟩
  have HF2 : Hid (FeA w2 (some ⟨g2, 0, none⟩) (5 % fp)) := hf2
  clear hf2
  go_wp2_with fail
  refine (pow0_any _ c2 (5 % fp) _ HF2.out).mono ?_
  rintro e w3 ⟨g3, c3, rfl, hg3, hg3', hf3, hb3⟩
  have HF3 : Hid (FeA w3 (some ⟨g3, 0, none⟩) (pwF (5 % fp) 11 5 254 255)) := hf3
  have HF13 : Hid (FeA w3 (some ⟨g1, 0, none⟩) (4 % fp)) := (HF1.out.below hb2).below hb3
  clear hf3 HF1 HF2
  go_wp2_with fail
  refine (fmul_any _ _ c1 c3 (4 % fp) (pwF (5 % fp) 11 5 254 255) _ HF13.out HF3.out).mono ?_
  rintro e w4 ⟨g4, c4, rfl, hg4, hg4', hf4, hb4⟩
  rw [base_eval] at hf4
  have HF4 : Hid (FeA w4 (some ⟨g4, 0, none⟩) baseY) := hf4
  clear hf4 HF3 HF13
  go_wp2_with fail
  refine (least_any _ c4 baseY _ HF4.out).mono ?_
  rintro e w5 ⟨gy, cyy, rfl, hgy, hgy', ⟨zs, hzA, hzl, hzd, hzv⟩, hb5⟩
  have HB5 : Hid (Below w.heap.size w w5) := hb1.trans ((hb2.trans ((hb3.trans ((hb4.trans (hb5.mono hb4.size)).mono hb3.size)).mono hb2.size)).mono hb1.size)
  have HYC : Hid (∀ i, i < 16 → w5.cell? ⟨gy, i, none⟩ = some (.int .i64 (zs.getD i 0))) := fun i hi => by
    obtain ⟨_, _, e, _, hc⟩ := hzA.get (by omega)
    cases e
    have := hc i (by omega)
    rwa [Nat.zero_add] at this
  have HZL : Hid (zs.length = 16) := hzl
  have HZD : Hid (∀ i, 0 ≤ zs.getD i 0 ∧ zs.getD i 0 < 65536) := hzd
  have HZV : Hid (val 65536 zs = baseY) := hzv
  have HS : Hid (BYS w w5 zs 0 (.slice (some ⟨w5.heap.size, 0, none⟩) 0 0) (w5.alloc (.cells #[] 5))) := ⟨⟨[], Own.empty _ _ (Nat.le_refl _), rfl, by simp [Byte], by simp [val]⟩, below_new3 _ _⟩
  clear HF4 hb1 hb2 hb3 hb4 hb5 hzA hzl hzd hzv
  go_wp2
  go_loopw [2, 3] (fun v i wr => ∃ k : Nat, k ≤ 16 ∧ i = .int .i64 k ∧ BYS w w5 zs k v wr) (fun _ i _ => 16 - (intOf i).toNat)
  case atStart => exact ⟨0, by decide, rfl, HS.out⟩
  case round =>
    clear HS
    obtain ⟨k, hk, rfl, ⟨bs, hO, hbl, hbb, hbv⟩, hbel⟩ := hrel
    by_cases hlt : k < 16
    · have hlt' : (k : Int) < 16 := by omega
      have hd := HZD.out k
      have vt := val_take 65536 zs k (by have := HZL.out; omega)
      have c0 : wr.cell? ⟨gy, k, none⟩ = some (.int .i64 (zs.getD k 0)) := by
        rw [hbel.cell (p := ⟨gy, k, none⟩) hgy']; exact HYC.out k hlt
      generalize hdd : zs.getD k 0 = d at *
      clear hdd
      have HGN : Hid (¬ some gy = u2.ownBlock) := by
        obtain ⟨g, c, rfl, hg, _, _⟩ := hO.base
        intro h; simp [Value.ownBlock] at h; omega
      have HBL : Hid (bs.length ≤ 32) := by show _ ≤ _; omega
      have HN : Hid (val 256 (bs ++ [d % 256, d / 256]) = val 65536 (zs.take (k + 1)) ∧ (bs ++ [d % 256, d / 256]).length = 2 * (k + 1) ∧ Byte (bs ++ [d % 256, d / 256])) := by
        refine ⟨by rw [pair_val bs d k hbl, hbv, vt], by simp [hbl]; omega, ?_⟩
        intro z hz
        simp at hz
        rcases hz with h | h | h
        · exact hbb z h
        · omega
        · omega
      have HO : Hid (Own wr w5.heap.size u2 bs) := hO
      have HBE : Hid (Below w5.heap.size w5 wr) := hbel
      have hwr := hbel.size
      obtain ⟨hd0, hd1⟩ := hd
      clear hO hbel vt hbv hbb hbl HYC HZV HZD
      go_wp2_with fail
      have hm1 : d.tmod 256 = d % 256 := Int.tmod_eq_emod_of_nonneg hd0
      have hm2 : d.tdiv 256 = d / 256 := Int.tdiv_eq_ediv_of_nonneg hd0
      have hm3 : IntKind.u8.wrap (d / 256) = d / 256 := by rw [IntKind.wrap_u8]; omega
      have hm4 : IntKind.u8.wrap (d % 256) = d % 256 := by rw [IntKind.wrap_u8]; omega
      have hm5 : IntKind.i64.wrap (d / 256) = d / 256 := by rw [IntKind.wrap_i64]; omega
      refine wp_region_any (by kernel_rfl) ?_
      refine wpAny_slotsK 15 (fun i w w' => i ≠ 14 → Below w.heap.size w w') (frame := (fun (c0 c1 c2 c3 c4 c5 c6 c7 c8 c9 c10 c11 c12 c13 c29 : Value) => fun (t : Nat → Value) => ({ tmps := List.toArray (c0 :: c1 :: c2 :: c3 :: c4 :: c5 :: c6 :: c7 :: c8 :: c9 :: c10 :: c11 :: c12 :: c13 :: t 0 :: t 1 :: t 2 :: t 3 :: t 4 :: t 5 :: t 6 :: t 7 :: t 8 :: t 9 :: t 10 :: t 11 :: t 12 :: t 13 :: t 14 :: c29 :: []), defers := [] } : Act)) _ _ _ _ _ _ _ _ _ _ _ _ _ _ _)
        (Ext := fun L w' => (L 14 = false → Below wr.heap.size wr w') ∧ Below w5.heap.size w5 w' ∧ (∀ i, i < 16 → w'.cell? ⟨gy, i, none⟩ = wr.cell? ⟨gy, i, none⟩) ∧ wr.heap.size ≤ w'.heap.size)
        (Good := GBy w5.heap.size u2 gy cyy k d bs) (by rfl) (by kernel_rfl) (GBy_stab _ _ _ _ _ _ _) (by kernel_rfl) (by kernel_rfl) ?hop ?hend _ _ ((fun (x0 x1 x2 x3 x4 x5 x6 x7 x8 x9 x10 x11 x12 x13 x14 : Value) => fun (i : Nat) => if i = 0 then x0 else if i = 1 then x1 else if i = 2 then x2 else if i = 3 then x3 else if i = 4 then x4 else if i = 5 then x5 else if i = 6 then x6 else if i = 7 then x7 else if i = 8 then x8 else if i = 9 then x9 else if i = 10 then x10 else if i = 11 then x11 else if i = 12 then x12 else if i = 13 then x13 else if i = 14 then x14 else undef) _ _ _ _ _ _ _ _ _ _ _ _ _ _ _) _ (by simp) (by simp) ?ext ?start (by simp)
      case start => intro i hi h; exact absurd h (by rw [Array.getD_eq_getD_getElem?, Array.getElem?_replicate]; split <;> simp)
      case ext => exact ⟨fun _ => (Below.refl _ _).drew, ⟨HBE.out.os, HBE.out.tape, HBE.out.output, HBE.out.size, HBE.out.block⟩, fun _ _ => rfl, Nat.le_refl _⟩
      case hop =>
        intro i o L t w' hil ho hLi hx hdep K hK
        obtain ⟨hx14, hxB, hxY, hxS⟩ := hx
        have cY : w'.cell? ⟨gy, k, none⟩ = some (.int .i64 d) := by rw [hxY k (by omega)]; exact c0
        have RX : Hid (∀ j, j ≠ 14 → ∀ ww, Below w'.heap.size w' ww → ((updK L j 14 = false → Below wr.heap.size wr ww) ∧ Below w5.heap.size w5 ww ∧ (∀ i, i < 16 → ww.cell? ⟨gy, i, none⟩ = wr.cell? ⟨gy, i, none⟩) ∧ wr.heap.size ≤ ww.heap.size)) := fun j hj ww hb =>
          ⟨fun hL => (hx14 (by simpa [updK, Ne.symm hj] using hL)).trans (hb.mono hxS), hxB.trans (hb.mono hxB.size), fun i hi => by rw [hb.cell (p := ⟨gy, i, none⟩) (by show gy < w'.heap.size; omega)]; exact hxY i hi, by have := hb.size; omega⟩
        have RR : Hid (∀ j, j ≠ 14 → ((updK L j 14 = false → Below wr.heap.size wr w') ∧ Below w5.heap.size w5 w' ∧ (∀ i, i < 16 → w'.cell? ⟨gy, i, none⟩ = wr.cell? ⟨gy, i, none⟩) ∧ wr.heap.size ≤ w'.heap.size)) := fun j hj => RX.out j hj w' (Below.refl _ _)
        have RM : Hid (∀ j : Nat, j ≠ 14 → Below w'.heap.size w' w') := fun _ _ => Below.refl _ _
        have H14 : Hid (L 14 = false → Below wr.heap.size wr w') := hx14
        have HXB : Hid (Below w5.heap.size w5 w') := hxB
        have HXY : Hid (∀ i, i < 16 → w'.cell? ⟨gy, i, none⟩ = wr.cell? ⟨gy, i, none⟩) := hxY
        clear hx14 hxB hxY
        obtain rfl | rfl | rfl | rfl | rfl | rfl | rfl | rfl | rfl | rfl | rfl | rfl | rfl | rfl | rfl : i = 0 ∨ i = 1 ∨ i = 2 ∨ i = 3 ∨ i = 4 ∨ i = 5 ∨ i = 6 ∨ i = 7 ∨ i = 8 ∨ i = 9 ∨ i = 10 ∨ i = 11 ∨ i = 12 ∨ i = 13 ∨ i = 14 := by omega
        all_goals (simp at ho; subst ho)
        · clear hdep
          go_simp
          exact hK w' u2 rfl (RR.out 0 (by decide)) (RM.out 0)
        · clear hdep
          go_simp
          exact hK w' (.slice (some ⟨gy, 0, none⟩) 16 cyy) rfl (RR.out 1 (by decide)) (RM.out 1)
        · clear hdep
          go_simp
          exact hK w' (.int .i64 k) rfl (RR.out 2 (by decide)) (RM.out 2)
        · have d1 : t 1 = _ := hdep ⟨1, .data⟩ (by simp) rfl
          have d2 : t 2 = _ := hdep ⟨2, .data⟩ (by simp) rfl
          clear hdep
          go_simp
          simpa [upd, d1, d2] using hK w' (.pointer (some ⟨gy, k, none⟩)) rfl (RR.out 3 (by decide)) (RM.out 3)
        · have d3 : t 3 = _ := hdep ⟨3, .data⟩ (by simp) rfl
          clear hdep
          go_simp
          simpa [upd, d3] using hK w' (.int .i64 d) rfl (RR.out 4 (by decide)) (RM.out 4)
        · have d4 : t 4 = _ := hdep ⟨4, .data⟩ (by simp) rfl
          clear hdep
          go_simp
          simpa [upd, d4, hm1, hm2, hm3, hm4, hm5] using hK w' (.int .i64 (d % 256)) rfl (RR.out 5 (by decide)) (RM.out 5)
        · have d5 : t 5 = _ := hdep ⟨5, .data⟩ (by simp) rfl
          clear hdep
          go_simp
          simpa [upd, d5, hm1, hm2, hm3, hm4, hm5] using hK w' (.int .u8 (d % 256)) rfl (RR.out 6 (by decide)) (RM.out 6)
        · clear hdep
          go_simp
          exact hK w' (.slice (some ⟨gy, 0, none⟩) 16 cyy) rfl (RR.out 7 (by decide)) (RM.out 7)
        · clear hdep
          go_simp
          exact hK w' (.int .i64 k) rfl (RR.out 8 (by decide)) (RM.out 8)
        · have d7 : t 7 = _ := hdep ⟨7, .data⟩ (by simp) rfl
          have d8 : t 8 = _ := hdep ⟨8, .data⟩ (by simp) rfl
          clear hdep
          go_simp
          simpa [upd, d7, d8] using hK w' (.pointer (some ⟨gy, k, none⟩)) rfl (RR.out 9 (by decide)) (RM.out 9)
        · have d9 : t 9 = _ := hdep ⟨9, .data⟩ (by simp) rfl
          clear hdep
          go_simp
          simpa [upd, d9] using hK w' (.int .i64 d) rfl (RR.out 10 (by decide)) (RM.out 10)
        · have d10 : t 10 = _ := hdep ⟨10, .data⟩ (by simp) rfl
          clear hdep
          go_simp
          simpa [upd, d10, hm1, hm2, hm3, hm4, hm5] using hK w' (.int .i64 (d / 256)) rfl (RR.out 11 (by decide)) (RM.out 11)
        · have d11 : t 11 = _ := hdep ⟨11, .data⟩ (by simp) rfl
          clear hdep
          go_simp
          simpa [upd, d11, hm1, hm2, hm3, hm4, hm5] using hK w' (.int .u8 (d / 256)) rfl (RR.out 12 (by decide)) (RM.out 12)
        · have d6 : t 6 = _ := hdep ⟨6, .data⟩ (by simp) rfl
          have d12 : t 12 = _ := hdep ⟨12, .data⟩ (by simp) rfl
          clear hdep
          have hK' := hK (w'.alloc (.cells #[.int .u8 (d % 256), .int .u8 (d / 256)] 5)) (.slice (some ⟨w'.heap.size, 0, none⟩) 2 2) (fun _ => ⟨w'.heap.size, rfl, by simp, cell_of_row _ _ _ _ _ _ (heap_alloc_new _ _), cell_of_row _ _ _ _ _ _ (heap_alloc_new _ _)⟩) (RX.out 13 (by decide) _ (below_new3 _ _)) (fun _ => below_new3 _ _)
          clear hK
          go_simp
          simpa [upd, d6, d12] using hK'
        · have d0 : t 0 = _ := hdep ⟨0, .data⟩ (by simp) rfl
          have d13 := hdep ⟨13, .data⟩ (by simp) rfl
          obtain ⟨g', e13, hg', cc0, cc1⟩ := d13 hLi
          clear hdep d13
          have hO := HO.out.grow2 (H14.out hLi)
          refine wp_app (a := _) _ _ _ rfl w5.heap.size _ bs (by first | exact d0 | (simp [d0]; done)) hO ⟨g', 0, none⟩ 2 2 [d % 256, d / 256] (by first | exact e13 | (simp [e13]; done)) rfl ?_ ?_ ?_ ?_
          · intro j hj
            rcases (show j = 0 ∨ j = 1 by omega) with rfl | rfl
            · rw [Addr.add_lit]; exact cc0
            · rw [Addr.add_lit]; exact cc1
          · have := HBL.out; omega
          · exact HXB.out.size
          · intro v' w9 hown' hbel' hgr
            have hs9 := hgr.size
            have hyY : ∀ i, i < 16 → w9.cell? ⟨gy, i, none⟩ = wr.cell? ⟨gy, i, none⟩ := fun i hi => by
              rw [World.cell?_of_block (a := ⟨gy, i, none⟩) (w := w') (hgr.block gy (by omega) HGN.out)]; exact HXY.out i hi
            exact hK w9 v' hown' ⟨fun h => by simp [updK] at h, HXB.out.trans hbel', hyY, by omega⟩ (fun h => absurd rfl h)
      case hend =>
        intro o L t w' ho hx hg K hK
        simp at ho; subst ho
        obtain ⟨hx14, hxB, hxY, hxS⟩ := hx
        have O14 : Own w' w5.heap.size (t 14) (bs ++ [d % 256, d / 256]) := hg 14 (by decide)
        have HXB : Hid (Below w5.heap.size w5 w') := hxB
        have HXY : Hid (∀ i, i < 16 → w'.cell? ⟨gy, i, none⟩ = wr.cell? ⟨gy, i, none⟩) := hxY
        have HSZ : Hid (wr.heap.size ≤ w'.heap.size) := hxS
        have HO14 : Hid (Own w' w5.heap.size (t 14) (bs ++ [d % 256, d / 256])) := O14
        clear hg O14 hx14 hxB hxY hxS
        go_simp
        refine hK _ _ ?_
        have hHB : Below w5.heap.size w5 w' := HXB.out
        have HP : Hid (BYS w w5 zs (k + 1) (t 14) w') := ⟨⟨_, HO14.out, HN.out.2.1, HN.out.2.2, HN.out.1⟩, hHB⟩
        clear hHB HXB HXY HO14 HSZ HN HO HBE HGN hK c0
        generalize t 14 = v14 at *
        go_wp2
        go_roundw
        case rel => exact ⟨k + 1, by omega, by go_num, HP.out⟩
        case measure => simp [intOf]; omega
    · have hk16 : k = 16 := by omega
      rw [hk16, List.take_of_length_le (by have := HZL.out; omega), HZV.out] at hbv
      have HP : Hid (CodeP w baseY (.returned u2) wr) := ⟨u2, bs, rfl, hO.lower3 HB5.out.size, hbb, by omega, hbv, HB5.out.trans (hbel.mono HB5.out.size)⟩
      clear hbv hO hbb hbl hbel hk16 HZV HZD HYC
      go_wp2
      go_ret
      exact HP.out
end Go.Proofs.Ythghkfncpdnpoab
