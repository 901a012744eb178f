/-
  Own work: a drawn device (2): l1Dev (written by wip/mkdrv.py).
-/
import Derived.Test.YtoiflbfnjebpeaaDrC
namespace Go.Proofs.Ytoiflbfnjebpeaa
open Go.ChangeShapes Go.WideShapes Go.ChangeAt Go.RowKit
set_option linter.unusedVariables false

theorem hid_ofD {p : Prop} (h : p) : Hid p := h
theorem Own.setD {w : World} {B g c n : Nat} {zs : List Int} (hn : zs.length = n) (h : Own w B (.slice (some ⟨g, 0, none⟩) n c) zs) (i : Nat) (x : Int) (hi : i < n) :
    w.cell? ⟨g, i, none⟩ = some (.int .u8 (zs.getD i 0)) ∧ w.frozen? ⟨g, i, none⟩ = false ∧ Own (w.setCell ⟨g, i, none⟩ (.int .u8 x)) B (.slice (some ⟨g, 0, none⟩) n c) (zs.set i x) := by
  subst hn
  refine ⟨?_, h.1.frozenAt i, ?_, ?_⟩
  · rw [h.1.cellAt i (by omega)]; simp [hi]
  · have := (h.1.stored i (.int .u8 x)).1
    rw [← List.map_set] at this
    rw [List.length_set]; exact this
  · rw [List.length_set]; exact ⟨_, _, rfl⟩

set_option maxRecDepth 100000 in
set_option maxHeartbeats 4000000 in
theorem dev_any (g : Nat) (x : Option Addr) (n cap : Nat) (w : World) (hc : CurB w g x n cap) (ht : CurT w g x n) (hg : g < w.heap.size) :
    Calls Try.prog 71 #[.pointer (some ⟨g, 0, none⟩)] w (DevPost 6 w g x n cap) := by
  have HSD : Hid _ := Try.sizeDv
  have hb0 := (Below.refl w.heap.size w).alloc (Nat.le_refl _) (.cells #[.slice none 0 0, .slice none 0 0, .int .i64 0, .bool false] 25)
  have hc0 : CurB (w.alloc (.cells #[.slice none 0 0, .slice none 0 0, .int .i64 0, .bool false] 25)) g x n cap := by
    obtain ⟨i0, h0, p1, p2, p3, p4, p5⟩ := hc
    exact ⟨i0, h0, p1, p2, p3, p4, by rw [hb0.block g hg]; exact p5⟩
  have ht0 := ht.wr (w' := w.alloc (.cells #[.slice none 0 0, .slice none 0 0, .int .i64 0, .bool false] 25)) (fun k hk => hb0.block k (by omega))
  have hr0 : (w.alloc (.cells #[.slice none 0 0, .slice none 0 0, .int .i64 0, .bool false] 25)).heap[w.heap.size]? = some (.cells #[.slice none 0 0, .slice none 0 0, .int .i64 0, .bool false] 25 (0, 0)) := heap_alloc_new w _
  have hz0 : (w.alloc (.cells #[.slice none 0 0, .slice none 0 0, .int .i64 0, .bool false] 25)).heap.size = w.heap.size + 1 := by simp
  have hwr0 : WrG g w (w.alloc (.cells #[.slice none 0 0, .slice none 0 0, .int .i64 0, .bool false] 25)) := WrG.of_below hb0
  clear hb0 hc ht
  go_enter Try.func71, Try.ntmps71
  go_wp2_with fail
  generalize w.alloc (.cells #[.slice none 0 0, .slice none 0 0, .int .i64 0, .bool false] 25) = w0 at *
  refine (below_any g x n cap 4 _ hc0 ht0 (by decide) (by decide)).mono ?_
  rintro e w1 ⟨k0, rfl, hk0, hk1, hc1, hw1⟩
  have ht1 := ht0.wr (fun k hk => hw1.block k (by omega))
  have hwr1 := hwr0.trans hw1.wrG
  have hr1 : w1.heap[w.heap.size]? = some (.cells #[.slice none 0 0, .slice none 0 0, .int .i64 0, .bool false] 25 (0, 0)) := by rw [hw1.block _ (by omega)]; exact hr0
  have A := hid_ofD (sdnX_any (8 + k0) w1 (by omega) (by omega))
  have hs1 := hw1.size
  have HL : Hid (512 ≤ ((8 + k0) * 64).toNat ∧ ((8 + k0) * 64).toNat ≤ 704) := by constructor <;> omega
  have HW1 := hid_ofD (And.intro hc1 (And.intro ht1 (And.intro hwr1 hr1)))
  clear hc0 ht0 hr0 hwr0 hc1 hw1 ht1 hwr1 hr1
  go_wp2_with fail
  refine A.out.mono ?_
  rintro e w2 ⟨da, dc, rfl, dx2, hb2⟩
  clear A
  generalize ((8 + k0) * 64).toNat = L at *
  have hs2 := hb2.size
  have hbn : Below w2.heap.size w2 (w2.alloc (.cells #[.slice none 0 0, .slice none 0 0, .int .i64 0, .bool false] 25)) := (Below.refl _ _).alloc (Nat.le_refl _) _
  have st0 : DS w (w2.alloc (.cells #[.slice none 0 0, .slice none 0 0, .int .i64 0, .bool false] 25)) g x n cap w.heap.size w2.heap.size (.slice none 0 0) (.slice none 0 0) [] [] 0 false := by
    obtain ⟨hc1, ht1, hwr1, hr1⟩ := HW1.out
    have hb3 : Below w1.heap.size w1 (w2.alloc (.cells #[.slice none 0 0, .slice none 0 0, .int .i64 0, .bool false] 25)) := hb2.trans (hbn.mono hb2.size)
    obtain ⟨i0, h0, p1, p2, p3, p4, p5⟩ := hc1
    exact ⟨⟨i0, h0, p1, p2, p3, p4, by rw [hb3.block g (by omega)]; exact p5⟩, ht1.wr (fun k hk => hb3.block k (by omega)), by rw [hb3.block _ (by omega)]; exact hr1, heap_alloc_new w2 _, hwr1.trans (WrG.of_below hb3),
      ⟨none, 0, none, 0, w.heap.size, rfl, .inl rfl, .inl rfl, (fun ad e => by cases e), Nat.le_refl _, by have := hbn.size; omega, ⟨[], POwn.nil _ _, rfl⟩, Nat.le_refl _⟩, hg, Nat.le_refl _, by omega, by omega⟩
  have st1 := st0.setRow ((dx2.mono (B' := w.heap.size) (by omega)).below hbn)
  have HN2 : Hid ((w2.alloc (.cells #[.slice none 0 0, .slice none 0 0, .int .i64 0, .bool false] 25)).heap[w2.heap.size]? = some (.cells #[.slice none 0 0, .slice none 0 0, .int .i64 0, .bool false] 25 (0, 0))) := heap_alloc_new w2 _
  have HST := hid_ofD st1
  have HBD : Hid (Bd 0 (List.replicate L 0) [] (-1)) := ⟨by simp; exact HL.out.1, by simp; exact HL.out.2, by simp, by simp, by omega, by omega⟩
  clear st0 st1 dx2 hb2 hbn HW1 HL
  go_wp2_with (refine wpList_store_row rfl 25 (.tmp 3) (.tmp 14) rfl w2.heap.size #[.slice da L dc, .slice none 0 0, .int .i64 (-1), .bool false] rfl rfl 25 _ HN2.out HSD.out rfl (all4x _ _ _ _ _ _ _ _) ?_)
  have st := HST.out
  clear HST HN2
  generalize (w2.alloc (.cells #[.slice none 0 0, .slice none 0 0, .int .i64 0, .bool false] 25)).setRow w2.heap.size #[.slice da L dc, .slice none 0 0, .int .i64 (-1), .bool false] = w3 at *
  generalize w2.heap.size = F at *
  go_wp2_with fail
  refine (below_any g x n cap 7 _ st.cur st.txt (by decide) (by decide)).mono ?_
  rintro e w4 ⟨m0, rfl, hm0, hm1, hc4, hw4⟩
  have HS4 := hid_ofD (st.far hw4.wrG hc4)
  obtain ⟨m, rfl⟩ := Int.eq_ofNat_of_zero_le hm0
  have hm6 : m ≤ 6 := by omega
  clear st hc4 hw4 hm0 hm1 hs1 hs2 hk0 hk1 hz0
  go_wp2
  go_loopw [5] (fun i wr => ∃ (j : Nat) (va vc : Value) (zs : List Int) (ps : List PD) (f : Int) (d : Bool), j ≤ m ∧ i = .int .i64 j ∧ DS w wr g x n cap w.heap.size F va vc zs ps f d ∧ Bd j zs ps f) (fun i _ => m - (intOf i).toNat)
  case atStart => exact ⟨0, _, _, _, _, _, _, Nat.zero_le _, rfl, HS4.out, HBD.out⟩
  case round =>
    clear HS4 HBD
    obtain ⟨j, va, vc, zs, ps, f, d, hj, rfl, st, bd⟩ := hrel
    obtain ⟨da, dc, ca, cc, rfl, rfl⟩ := st.shape
    have HBD := hid_ofD bd
    obtain ⟨b1, b2, b3, b4, b5, b6⟩ := bd
    obtain ⟨L, hL⟩ : ∃ L, L = zs.length := ⟨_, rfl⟩
    obtain ⟨M, hM⟩ : ∃ M, M = ps.length := ⟨_, rfl⟩
    rw [← hL, ← hM] at st
    have HLM := hid_ofD (And.intro hL hM)
    rw [← hL] at b1 b2
    rw [← hM] at b3
    have HB4 := hid_ofD b4
    clear hL hM b4
    by_cases hlt : j < m
    · have hlt' : (j : Int) < m := by omega
      have HST := hid_ofD st
      have A := fun ww => lsec_any da L dc (.slice ca M cc) f d ww (by omega) ⟨_, _, _, rfl⟩
      clear st
      obtain ⟨⟨y0, y1, y2, y3⟩, yf⟩ := HST.out.cells
      go_wp2_with fail
      refine (A _).mono ?_
      rintro e w5 ⟨rfl, hb5⟩
      have HS5 := hid_ofD (HST.out.below hb5)
      clear A hb5 HST y0 y1 y2 y3 yf
      go_wp2_with fail
      refine (below_any g x n cap ((L : Int) / 64) _ HS5.out.cur HS5.out.txt (by omega) (by omega)).mono ?_
      rintro e w6 ⟨s, rfl, hs0, hs1, hc6, hw6⟩
      have HS6 := hid_ofD (HS5.out.far hw6.wrG hc6)
      have hgw : w.heap.size ≤ w6.heap.size := HS6.out.wr.size
      clear HS5 hc6 hw6
      go_wp2_with fail
      refine (zeros_any 64 _ (by decide) (by decide)).mono ?_
      rintro e w7 ⟨v7, rfl, o7, hb7⟩
      obtain ⟨gz, cz, rfl, hz1, hz2, hz3⟩ := o7.base
      have hl7 : (List.replicate (64 : Int).toNat (0 : Int)).length = 64 := by simp
      rw [hl7] at o7 ⊢
      have HO7 := hid_ofD o7
      have HG7 : Hid (WrG g w6 w7) := WrG.of_below hb7
      have HC7 : Hid (CurB w7 g x n cap) := (HS6.out.below hb7).cur
      have HT7 : Hid (CurT w7 g x n) := (HS6.out.below hb7).txt
      clear o7 hb7 hz3 hl7
      go_wp2_with fail
      refine (below_any g x n cap 64 _ HC7.out HT7.out (by decide) (by decide)).mono ?_
      rintro e w8 ⟨k8, rfl, hk80, hk81, hc8, hw8⟩
      have HO8 := hid_ofD (Own.keep HO7.out (fun k e => hw8.block k (by have e' : gz = k := (by simpa [Value.ownBlock] using e); omega)))
      have HG8 := hid_ofD (HG7.out.trans hw8.wrG)
      have HC8 := hid_ofD hc8
      have HT8 := hid_ofD (HT7.out.wr (fun k hk => hw8.block k (by omega)))
      clear HO7 HG7 HC7 HT7 hc8 hw8
      go_wp2_with fail
      refine (byte_any g x n cap _ HC8.out HT8.out).mono ?_
      rintro e w9 ⟨x9, rfl, hx90, hx91, hc9, hw9⟩
      have HO9 := hid_ofD (Own.keep HO8.out (fun k e => hw9.block k (by have e' : gz = k := (by simpa [Value.ownBlock] using e); omega)))
      have HG9 := hid_ofD (HG8.out.trans hw9.wrG)
      have HC9 := hid_ofD hc9
      clear HO8 HG8 HC8 HT8 hc9 hw9
      obtain ⟨k, rfl⟩ := Int.eq_ofNat_of_zero_le hk80
      have hk64 : k < 64 := by omega
      have hk64' : (k : Int) < 64 := by omega
      obtain ⟨q1, q2, q3⟩ := Own.setD (by simp) HO9.out k x9 hk64
      have HQ3 := hid_ofD q3
      have HG10 := hid_ofD (wrG_set HG9.out ⟨gz, k, none⟩ (.int .u8 x9) hz1)
      have HC10 : Hid (CurB (w9.setCell ⟨gz, k, none⟩ (.int .u8 x9)) g x n cap) := by
        obtain ⟨i0, h0, p1, p2, p3, p4, p5⟩ := HC9.out
        exact ⟨i0, h0, p1, p2, p3, p4, by rw [heap_setCell_other _ _ _ _ (by show g ≠ gz; omega)]; exact p5⟩
      have hmod : x9 % 256 = x9 := by omega
      have hj256 : (j : Int) % 256 = j := by omega
      obtain ⟨r1, r2, r3⟩ := Own.setD (by simp) HQ3.out 63 (j : Int) (by decide)
      have HZ11 := hid_ofD r3
      have HG11 := hid_ofD (wrG_set HG10.out ⟨gz, 63, none⟩ (.int .u8 (j : Int)) hz1)
      have HC11 : Hid (CurB ((w9.setCell ⟨gz, k, none⟩ (.int .u8 x9)).setCell ⟨gz, 63, none⟩ (.int .u8 (j : Int))) g x n cap) := by
        obtain ⟨i0, h0, p1, p2, p3, p4, p5⟩ := HC10.out
        exact ⟨i0, h0, p1, p2, p3, p4, by rw [heap_setCell_other _ _ _ _ (by show g ≠ gz; omega)]; exact p5⟩
      have HS11 := hid_ofD (HS6.out.far HG11.out HC11.out)
      obtain ⟨⟨y0, y1, y2, y3⟩, yf⟩ := HS11.out.cells
      clear q3 HO9 HG9 HC9 r3 HG10 HC10 HQ3 HS6
      generalize hz : ((List.replicate (64 : Int).toNat (0 : Int)).set k x9).set 63 (j : Int) = z at *
      have HZL : Hid (z.length = 64) := by rw [← hz]; show _ = _; simp
      clear hz
      obtain ⟨gz', cz', ez, _, _, _, hzA, _⟩ := HZ11.out.at_
      simp at ez
      obtain ⟨rfl, hzq, rfl⟩ := ez
      clear hzq
      have HZA := hid_ofD hzA
      clear hzA
      go_wp2_with fail
      clear y0 y1 y2 y3 yf r1 r2 q1 q2
      generalize (w9.setCell ⟨gz, k, none⟩ (.int .u8 x9)).setCell ⟨gz, 63, none⟩ (.int .u8 (j : Int)) = W11 at *
      have A := hid_ofD (swrO_any (.agg #[.slice da L dc, .slice ca M cc, .int .i64 f, .bool d]) zs ps f d s (some ⟨gz, 0, none⟩) 64 cz z W11 HS11.out.dx.at_ HZA.out HZL.out (by rw [← HLM.out.1]; omega) (by rw [← HLM.out.2]; omega) (fun i => by have := HB4.out i; omega) (by decide) (by omega))
      refine A.out.mono ?_
      rintro e w12 ⟨r, rfl, D12, hb12⟩
      have hx12 := D12.dx
      have hs12 := HS11.out.wr.size
      have HS12 := hid_ofD (HS11.out.below hb12)
      have HBD12 := hid_ofD (Bd.write HBD.out d s z HZL.out)
      obtain ⟨da2, dc2, ca2, cc2, E2, rfl, _⟩ := id hx12
      have HX12 := hid_ofD (hx12.mono (B' := w.heap.size) hs12)
      generalize wrP zs.length ps f d s z = ps2 at *
      rw [HZL.out] at HX12 HBD12 ⊢
      generalize wrF zs.length ps f d s 64 = f2 at *
      generalize wrD zs.length ps f d s 64 = d2 at *
      rw [← HLM.out.1] at HX12 ⊢
      obtain ⟨M2, hM2⟩ : ∃ M2, M2 = ps2.length := ⟨_, rfl⟩
      rw [← hM2] at HX12 ⊢
      have HS13 := hid_ofD (HS12.out.setRow HX12.out)
      have HM2 := hid_ofD hM2
      clear A D12 hx12 hb12 HS11 HZ11 HZA HZL hM2 HX12 HG11 HC11
      go_wp2_with (first
        | (refine wpList_store_row rfl 25 (.tmp 3) (.tmp 43) rfl F #[.slice da2 L dc2, .slice ca2 M2 cc2, .int .i64 f2, .bool d2] rfl rfl 25 _ HS12.out.fr HSD.out rfl (all4x _ _ _ _ _ _ _ _) ?_)
        | fail)
      generalize w12.setRow F #[.slice da2 L dc2, .slice ca2 M2 cc2, .int .i64 f2, .bool d2] = W13 at *
      clear HS12 HBD
      go_wp2_with fail
      refine (once_any g x n cap 4 _ HS13.out.cur HS13.out.txt (by decide) (by decide)).mono ?_
      rintro e w14 ⟨ob, rfl, hc14, hw14⟩
      have HS14 := hid_ofD (HS13.out.far hw14.wrG hc14)
      clear HS13 hc14 hw14
      cases ob with
      | false =>
        go_wp2
        go_roundw
        case rel => exact ⟨j + 1, _, _, zs, ps2, f2, d2, by omega, by go_num, HS14.out, HBD12.out⟩
        case measure => simp [intOf]; omega
      | true =>
        obtain ⟨⟨y0, y1, y2, y3⟩, yf⟩ := HS14.out.cells
        have hbd := HBD12.out
        have A := hid_ofD (ssyX_any (.agg #[.slice da2 L dc2, .slice ca2 M2 cc2, .int .i64 f2, .bool d2]) zs ps2 f2 d2 w14 HS14.out.dx.at_ (by have := hbd.2.1; omega) (by have := hbd.2.2.1; omega) (fun i => by have := hbd.2.2.2.1 i; omega) (by have := hbd.2.2.2.2.2; omega))
        clear hbd
        go_wp2_with fail
        clear y0 y1 y2 y3 yf
        refine A.out.mono ?_
        rintro e w15 ⟨r, rfl, hx15, hb15⟩
        have hs14 := HS14.out.wr.size
        have HS15 := hid_ofD (HS14.out.below hb15)
        have HBD15 := hid_ofD (Bd.sync HBD12.out d2)
        obtain ⟨da3, dc3, ca3, cc3, E3, rfl, _⟩ := id hx15
        have HX15 := hid_ofD (hx15.mono (B' := w.heap.size) hs14)
        generalize syZ zs ps2 f2 d2 = zs3 at *
        generalize syP zs.length ps2 f2 d2 = ps3 at *
        generalize syF zs.length ps2 f2 d2 = f3 at *
        generalize syD zs.length ps2 f2 d2 = d3 at *
        obtain ⟨L3, hL3⟩ : ∃ L3, L3 = zs3.length := ⟨_, rfl⟩
        obtain ⟨M3, hM3⟩ : ∃ M3, M3 = ps3.length := ⟨_, rfl⟩
        rw [← hL3, ← hM3] at HX15 ⊢
        have HS16 := hid_ofD (HS15.out.setRow HX15.out)
        clear A hx15 hb15 HX15 hL3 hM3
        go_wp2_with (first
          | (refine wpList_store_row rfl 25 (.tmp 3) (.tmp 47) rfl F #[.slice da3 L3 dc3, .slice ca3 M3 cc3, .int .i64 f3, .bool d3] rfl rfl 25 _ HS15.out.fr HSD.out rfl (all4x _ _ _ _ _ _ _ _) ?_)
          | fail)
        generalize w15.setRow F #[.slice da3 L3 dc3, .slice ca3 M3 cc3, .int .i64 f3, .bool d3] = W16 at *
        clear HS15 HS14
        go_wp2
        go_roundw
        case rel => exact ⟨j + 1, _, _, zs3, ps3, f3, d3, by omega, by go_num, HS16.out, HBD15.out⟩
        case measure => simp [intOf]; omega
    · obtain rfl : j = m := by omega
      have hlt' : ¬ ((j : Int) < j) := by omega
      have HST := hid_ofD st
      clear st
      go_wp2_with fail
      refine (below_any g x n cap 8 _ HST.out.cur HST.out.txt (by decide) (by decide)).mono ?_
      rintro e w5 ⟨k, rfl, hk0, hk1, hc5, hw5⟩
      have HS5 := hid_ofD (HST.out.far hw5.wrG hc5)
      clear HST hc5 hw5
      have FIN : Hid (∀ (w' : World) (f' : Int) (d' : Bool), DS w w' g x n cap w.heap.size F (.slice da L dc) (.slice ca M cc) zs ps f' d' → (f' = f ∨ 0 ≤ f' ∧ f' ≤ 7) →
          DevPost 6 w g x n cap (.returned (.agg #[.slice da L dc, .slice ca M cc, .int .i64 f', .bool d'])) (w'.setRow w.heap.size #[.slice da L dc, .slice ca M cc, .int .i64 f', .bool d'])) := fun w' f' d' h hf => by
        obtain ⟨e1, e2, e3⟩ := ds_end (k := 0) h
        have hbd := HBD.out
        exact ⟨_, zs, ps, f', d', rfl, e1, ⟨hbd.1, hbd.2.1, by have := hbd.2.2.1; omega, hbd.2.2.2.1, by have := hbd.2.2.2.2; omega, by have := hbd.2.2.2.2; omega⟩, e2, e3⟩
      obtain ⟨⟨y0, y1, y2, y3⟩, yf⟩ := HS5.out.cells
      have yf2 := yf 2
      have yf3 := yf 3
      clear yf
      by_cases hk3 : k < 3
      · have hk3' : ¬ (k = 3) := by omega
        have hk3b : (k == 3) = false := by simpa using hk3'
        have HS6 := hid_ofD (HS5.out.fuel k)
        obtain ⟨⟨z0, z1, z2, z3⟩, zf⟩ := HS6.out.cells
        have HF := hid_ofD (FIN.out _ _ _ HS6.out (.inr ⟨hk0, by omega⟩))
        go_wp2_with (first
          | (refine wpList_store_row rfl 25 (.tmp 2) (.tmp 57) rfl w.heap.size #[.slice da L dc, .slice ca M cc, .int .i64 k, .bool d] rfl rfl 25 _ HS6.out.res HSD.out rfl (all4x _ _ _ _ _ _ _ _) ?_)
          | fail)
        (try simp only [Exit.inBlock, Exit.then])
        exact bodyPost_ret (v := .agg #[.slice da L dc, .slice ca M cc, .int .i64 k, .bool d]) (results_cell_row rfl _ _ w.heap.size 25 _ (0, 0) _ rfl (setRow_heap _ _ _ _ _ _ HS6.out.res) Try.underlying25 rfl HSD.out) rfl HF.out
      · by_cases hk4 : k = 3
        · subst hk4
          have HS6 := hid_ofD (HS5.out.dead true)
          obtain ⟨⟨z0, z1, z2, z3⟩, zf⟩ := HS6.out.cells
          have HF := hid_ofD (FIN.out _ _ _ HS6.out (.inl rfl))
          go_wp2_with (first
            | (refine wpList_store_row rfl 25 (.tmp 2) (.tmp 57) rfl w.heap.size #[.slice da L dc, .slice ca M cc, .int .i64 f, .bool true] rfl rfl 25 _ HS6.out.res HSD.out rfl (all4x _ _ _ _ _ _ _ _) ?_)
            | fail)
          (try simp only [Exit.inBlock, Exit.then])
          exact bodyPost_ret (v := .agg #[.slice da L dc, .slice ca M cc, .int .i64 f, .bool true]) (results_cell_row rfl _ _ w.heap.size 25 _ (0, 0) _ rfl (setRow_heap _ _ _ _ _ _ HS6.out.res) Try.underlying25 rfl HSD.out) rfl HF.out
        · have hk4b : (k == 3) = false := by simpa using hk4
          have HF := hid_ofD (FIN.out _ _ _ HS5.out (.inl rfl))
          go_wp2_with (first
            | (refine wpList_store_row rfl 25 (.tmp 2) (.tmp 57) rfl w.heap.size #[.slice da L dc, .slice ca M cc, .int .i64 f, .bool d] rfl rfl 25 _ HS5.out.res HSD.out rfl (all4x _ _ _ _ _ _ _ _) ?_)
            | fail)
          (try simp only [Exit.inBlock, Exit.then])
          exact bodyPost_ret (v := .agg #[.slice da L dc, .slice ca M cc, .int .i64 f, .bool d]) (results_cell_row rfl _ _ w.heap.size 25 _ (0, 0) _ rfl (setRow_heap _ _ _ _ _ _ HS5.out.res) Try.underlying25 rfl HSD.out) rfl HF.out
end Go.Proofs.Ytoiflbfnjebpeaa
