/-
  Own work: the law on frames that come back.
-/
import Derived.Test.YthghkfncpdnpoacTearM
import Derived.Test.YthghkfncpdnpoacDDraw
import Derived.Test.YthghkfncpdnpoacFrEq
import Derived.Test.YthghkfncpdnpoacFrEq2
import Derived.Test.YthghkfncpdnpoacArgDev
namespace Go.Proofs.Ythghkfncpdnpoac.lframe
open Go.ChangeShapes Go.WideShapes Go.ChangeAt Go.RowKit
set_option linter.unusedVariables false

theorem own : ownKnob Try.prog.godebug = none := by kernel_rfl
theorem laidOut : laidOutB Try.prog = true := by kernel_rfl

def GF (xb : Bool) (s k a b : Int) (D bn bc : Nat) (ba : Option Addr) (y : List Int) : Nat → World → (Nat → Value) → Prop
  | 0, _, u => u 0 = .agg #[.bool xb, .int .u32 s, .int .i64 k, .int .u32 a, .int .u32 b]
  | 1, _, u => u 1 = .slice ba bn bc
  | 2, _, u => u 2 = .agg #[.bool xb, .int .u32 s, .int .i64 k, .int .u32 a, .int .u32 b]
  | 3, _, u => u 3 = .bool true
  | 4, _, u => u 4 = .bool true
  | 5, _, u => u 5 = .pointer (some ⟨D, 0, none⟩)
  | 6, _, u => u 6 = .bool xb
  | 7, _, u => u 7 = .bool (!xb)
  | 8, _, u => u 8 = .bool (!xb)
  | 9, _, u => xb = true → u 9 = .pointer (some ⟨D, 1, none⟩)
  | 10, _, u => xb = true → u 10 = .agg #[.int .u32 s, .int .i64 k, .int .u32 a, .int .u32 b]
  | 11, w, u => xb = true → ∃ ea ec, u 11 = .slice ea y.length ec ∧ At .u8 w ea y
  | 12, _, u => xb = true → u 12 = .slice ba bn bc
  | 13, _, u => xb = true → u 13 = .bool true
  | 14, _, u => u 14 = .bool true
  | 15, _, u => u 15 = .bool true
  | _, _, u => u 16 = .bool true
theorem GF_stab (xb : Bool) (s k a b : Int) (D bn bc : Nat) (ba : Option Addr) (y : List Int) (j : Nat) (w w' : World) (u : Nat → Value) (i : Nat) (v : Value) (hM : Below w.heap.size w w') (hij : i ≠ j) (hj : j ≤ 16) (h : GF xb s k a b D bn bc ba y j w u) : GF xb s k a b D bn bc ba y j w' (upd u i v) := by
  obtain rfl | rfl | rfl | rfl | rfl | rfl | rfl | rfl | rfl | rfl | rfl | rfl | rfl | rfl | rfl | rfl | rfl : j = 0 ∨ j = 1 ∨ j = 2 ∨ j = 3 ∨ j = 4 ∨ j = 5 ∨ j = 6 ∨ j = 7 ∨ j = 8 ∨ j = 9 ∨ j = 10 ∨ j = 11 ∨ j = 12 ∨ j = 13 ∨ j = 14 ∨ j = 15 ∨ j = 16 := by omega
  all_goals simp only [GF] at h ⊢
  all_goals rw [upd_ne hij]
  all_goals first
    | exact h
    | (intro hx; obtain ⟨ea, ec, h1, h2⟩ := h hx; exact ⟨ea, ec, h1, h2.below hM⟩)

theorem dec_fin (y : List Int) (hy : Byte y) : ∃ (x : Bool) (s k a b : Int), decV y = .agg #[.bool x, .int .u32 s, .int .i64 k, .int .u32 a, .int .u32 b] ∧ (x = true → U32 s ∧ U32 a ∧ U32 b ∧ encZ s k a b = y) := by
  cases h : decB y
  · exact ⟨false, 0, 0, 0, 0, decV_no h, fun h => by cases h⟩
  · refine ⟨true, _, _, _, _, decV_yes h, fun _ => ⟨num4_u32 y hy 0, num4_u32 y hy 8, num4_u32 y hy 12, ?_⟩⟩
    unfold decB at h
    simp only [Bool.and_eq_true, decide_eq_true_eq] at h
    unfold encZ; rw [if_pos h.2.1]; exact h.2.2

set_option maxHeartbeats 1600000 in
set_option maxRecDepth 100000 in
theorem walk (a0 a1 : Option Addr) (len0 cap0 len1 cap1 : Nat) (zs ys : List Int) (w : World) (hn : zs.length = len0) (hn1 : ys.length = len1) (hz : Byte zs) (hz1 : Byte ys) (ha : At .u8 w a0 zs) (ha1 : At .u8 w a1 ys) :
    Calls Try.prog 3 #[.slice a0 len0 cap0, .slice a1 len1 cap1] w fun e w' => e = .returned (.bool true) ∧ Below w.heap.size w w' := by
  by_cases hl : (1048576 : Int) < (len0 : Int)
  · have hl2 : decide ((1048576 : Int) < (len0 : Int)) = true := by simpa using hl
    go_enter Try.func3, Try.ntmps3
    go_wp2
    go_ret
    exact ⟨rfl, Below.refl _ _⟩
  by_cases hl1 : (1048576 : Int) < (len1 : Int)
  · go_enter Try.func3, Try.ntmps3
    go_wp2
    go_ret
    exact ⟨rfl, Below.refl _ _⟩
  have hl' : len0 ≤ 1048576 := by omega
  have hl1' : len1 ≤ 1048576 := by omega
  have HZF : Hid _ := Try.sizeFrame
  have hsF : (Try.prog.info? 28).map (·.size) = some 5 := by kernel_rfl
  have HSF : Hid _ := hsF
  clear hsF
  go_enter Try.func3, Try.ntmps3
  go_wp2_with fail
  refine (drawEnc_any a0 len0 cap0 zs _ hn hl' hz ha).mono ?_
  rintro e w1 ⟨s, k, a, b, rfl, us, ua, ub, hb1⟩
  have hwz : ((w1.alloc (.cells #[.int .u32 0, .int .i64 0, .int .u32 0, .int .u32 0] 25)).setRow w1.heap.size #[.int .u32 s, .int .i64 k, .int .u32 a, .int .u32 b]) = w1.alloc (.cells #[.int .u32 s, .int .i64 k, .int .u32 a, .int .u32 b] 25) := World.setRow_alloc_new _ _ _ _
  have HWZ : Hid _ := hwz
  clear hwz
  go_wp2_with (refine wpList_store_row rfl 25 (.tmp 4) (.tmp 17) rfl w1.heap.size #[.int .u32 s, .int .i64 k, .int .u32 a, .int .u32 b] rfl rfl 25 _ (heap_alloc_new w1 _) HZF.out rfl (all4f _ _ _ _) ?_)
  (try rw [HWZ.out])
  clear HWZ
  have hb2 := (Below.refl w1.heap.size w1).alloc (Nat.le_refl _) (.cells #[.int .u32 s, .int .i64 k, .int .u32 a, .int .u32 b] 25)
  have f2 : (w1.alloc (.cells #[.int .u32 s, .int .i64 k, .int .u32 a, .int .u32 b] 25)).heap[w1.heap.size]? = some (.cells #[.int .u32 s, .int .i64 k, .int .u32 a, .int .u32 b] 25 (0, 0)) := heap_alloc_new w1 _
  have hB2 : Below w.heap.size w (w1.alloc (.cells #[.int .u32 s, .int .i64 k, .int .u32 a, .int .u32 b] 25)) := hb1.trans (hb2.mono hb1.size)
  generalize w1.alloc (.cells #[.int .u32 s, .int .i64 k, .int .u32 a, .int .u32 b] 25) = w2 at *
  have hs2 : w1.heap.size < w2.heap.size := (Array.getElem?_eq_some_iff.1 f2).1
  generalize w1.heap.size = F at *
  clear hb1 hb2
  refine (ienc_any s k a b w2 us ua ub).mono ?_
  rintro e w3 ⟨v3, rfl, ⟨ea, ec, rfl, A3, _, _⟩, hb3⟩
  have hle := encZ_len s k a b
  have hby := encZ_byte s k a b us ua ub
  have hdec : (1 ≤ k ∧ k ≤ 3 ∧ decV (encZ s k a b) = fOk s k a b) ∨ (¬ (1 ≤ k ∧ k ≤ 3) ∧ decV (encZ s k a b) = fNo) := by
    by_cases hk : 1 ≤ k ∧ k ≤ 3
    · left; refine ⟨hk.1, hk.2, ?_⟩
      unfold encZ; rw [if_pos hk]; exact encS_dec s k a b us ua ub hk
    · right; refine ⟨hk, ?_⟩
      unfold encZ; rw [if_neg hk]; exact decV_len (by simp)
  have f3 : w3.heap[F]? = some (.cells #[.int .u32 s, .int .i64 k, .int .u32 a, .int .u32 b] 25 (0, 0)) := by rw [hb3.block F hs2]; exact f2
  have hB3 : Below w.heap.size w w3 := hB2.trans (hb3.mono hB2.size)
  have s3 := hb3.size
  have HD : Hid _ := hdec
  have HY : Hid _ := hby
  have HA3 : Hid _ := A3
  have HF3 : Hid _ := f3
  have HB3 : Hid _ := hB3
  clear hdec hby A3 f3 hB3 hb3 f2 hB2
  generalize encZ s k a b = z at *
  go_wp2_with fail
  refine (idec_any ea z.length ec z w3 rfl (by omega) HY.out HA3.out).mono ?_
  rintro e w4 ⟨rfl, hb4⟩
  have f4 : w4.heap[F]? = some (.cells #[.int .u32 s, .int .i64 k, .int .u32 a, .int .u32 b] 25 (0, 0)) := by rw [hb4.block F (by omega)]; exact HF3.out
  have hB4 : Below w.heap.size w w4 := HB3.out.trans (hb4.mono HB3.out.size)
  have s4 := hb4.size
  have hF4 : F < w4.heap.size := by omega
  have HB4 : Hid _ := hB4
  obtain ⟨q0, q1, q2, q3⟩ : w4.cell? ⟨F, 0, none⟩ = some (.int .u32 s) ∧ w4.cell? ⟨F, 1, none⟩ = some (.int .i64 k) ∧ w4.cell? ⟨F, 2, none⟩ = some (.int .u32 a) ∧ w4.cell? ⟨F, 3, none⟩ = some (.int .u32 b) := ⟨cell_of_row _ _ _ _ _ _ f4, cell_of_row _ _ _ _ _ _ f4, cell_of_row _ _ _ _ _ _ f4, cell_of_row _ _ _ _ _ _ f4⟩
  clear HF3 HA3 HY HB3 hB4 hb4 f4
  have E1 : ∀ w, (Op.equalIn 10000 25 (.agg #[.int .u32 s, .int .i64 k, .int .u32 a, .int .u32 b]) (.agg #[.int .u32 s, .int .i64 k, .int .u32 a, .int .u32 b])).run Try.prog w = .ok true w := fun w => run_eqFrN 9998 w s k a b
  rcases HD.out with ⟨hk1, hk3, hd⟩ | ⟨hk, hd⟩
  · rw [hd]
    unfold fOk
    clear HD hd
    have t1 : decide (1 ≤ k) = true := by simpa using hk1
    have t3 : decide (k ≤ 3) = true := by simpa using hk3
    have hb5 := (Below.refl w4.heap.size w4).alloc (Nat.le_refl _) (.cells #[.bool true, .int .u32 s, .int .i64 k, .int .u32 a, .int .u32 b] 28)
    have HB5 : Hid (Below w.heap.size w (w4.alloc (.cells #[.bool true, .int .u32 s, .int .i64 k, .int .u32 a, .int .u32 b] 28))) := HB4.out.trans (hb5.mono HB4.out.size)
    clear hb5 HB4
    go_wp2_with fail
    clear q0 q1 q2 q3 E1
    generalize (w4.alloc (.cells #[.bool true, .int .u32 s, .int .i64 k, .int .u32 a, .int .u32 b] 28)) = w5 at *
    refine (drawDec_any a1 len1 cap1 ys w5 hn1 hl1' hz1 (ha1.below HB5.out)).mono ?_
    rintro e w6 ⟨ba, bn, bc, y, rfl, hbl, hb65, hby, A6, hb6⟩
    have HB6 : Hid (Below w.heap.size w w6) := HB5.out.trans (hb6.mono HB5.out.size)
    have HY : Hid _ := hby
    have HA6 : Hid _ := A6
    have HBL : Hid _ := hbl
    clear hby A6 hb6 HB5 hbl
    go_wp2_with fail
    refine (idec_any ba bn bc y w6 HBL.out (by omega) HY.out HA6.out).mono ?_
    rintro e w7 ⟨rfl, hb7⟩
    have HB7 : Hid (Below w.heap.size w w7) := HB6.out.trans (hb7.mono HB6.out.size)
    have HA7 : Hid _ := At.below HA6.out hb7
    clear hb7 HA6 HB6
    have hfin := dec_fin y HY.out
    obtain ⟨xb, s2, k2, a2, b2, hdv, hfin⟩ := hfin
    rw [hdv]
    have HDV : Hid _ := hdv
    have HFIN : Hid _ := hfin
    clear hdv hfin
    have x8 : (w7.alloc (.cells #[.bool xb, .int .u32 s2, .int .i64 k2, .int .u32 a2, .int .u32 b2] 28)).heap[w7.heap.size]? = some (.cells #[.bool xb, .int .u32 s2, .int .i64 k2, .int .u32 a2, .int .u32 b2] 28 (0, 0)) := heap_alloc_new w7 _
    have hb8 := (Below.refl w7.heap.size w7).alloc (Nat.le_refl _) (.cells #[.bool xb, .int .u32 s2, .int .i64 k2, .int .u32 a2, .int .u32 b2] 28)
    have HX8 : Hid _ := x8
    have HB8 : Hid (Below w.heap.size w (w7.alloc (.cells #[.bool xb, .int .u32 s2, .int .i64 k2, .int .u32 a2, .int .u32 b2] 28))) := HB7.out.trans (hb8.mono HB7.out.size)
    have HA8 : Hid _ := At.below HA7.out hb8
    clear x8 hb8 HB7 HA7
    go_wp2
    have hcell : ∀ w', Below (w7.alloc (.cells #[.bool xb, .int .u32 s2, .int .i64 k2, .int .u32 a2, .int .u32 b2] 28)).heap.size (w7.alloc (.cells #[.bool xb, .int .u32 s2, .int .i64 k2, .int .u32 a2, .int .u32 b2] 28)) w' → w'.heap[w7.heap.size]? = some (.cells #[.bool xb, .int .u32 s2, .int .i64 k2, .int .u32 a2, .int .u32 b2] 28 (0, 0)) := fun w' hb => by rw [hb.block _ (by simp)]; exact HX8.out
    have HCC : Hid _ := hcell
    clear hcell HX8
    generalize (w7.alloc (.cells #[.bool xb, .int .u32 s2, .int .i64 k2, .int .u32 a2, .int .u32 b2] 28)) = w8 at *
    generalize w7.heap.size = D at *
    refine wp_region_any (by kernel_rfl) ?_
    refine wpAny_slots2 (frame := fun t => { tmps := #[Value.slice a0 len0 cap0, Value.slice a1 len1 cap1, undef, undef, t 16, Value.pointer (some { block := F, off := 0 }), Value.pointer (some { block := w4.heap.size, off := 0 }), Value.slice ba bn bc, Value.pointer (some { block := D, off := 0 }), Value.slice a0 len0 cap0, Value.int IntKind.i64 ↑len0, Value.bool false, Value.bool false, Value.slice a1 len1 cap1, Value.int IntKind.i64 ↑len1, Value.bool false, Value.bool false, Value.slice a0 len0 cap0, Value.agg #[Value.int IntKind.u32 s, Value.int IntKind.i64 k, Value.int IntKind.u32 a, Value.int IntKind.u32 b], Value.agg #[Value.int IntKind.u32 s, Value.int IntKind.i64 k, Value.int IntKind.u32 a, Value.int IntKind.u32 b], Value.slice ea z.length ec, Value.agg #[Value.bool true, Value.int IntKind.u32 s, Value.int IntKind.i64 k, Value.int IntKind.u32 a, Value.int IntKind.u32 b], Value.pointer (some { block := w4.heap.size, off := 0 }), Value.bool true, Value.pointer (some { block := F, off := 1 }), Value.int IntKind.i64 k, Value.bool true, Value.bool true, Value.pointer (some { block := F, off := 1 }), Value.int IntKind.i64 k, Value.bool true, Value.bool true, Value.bool false, Value.bool false, Value.pointer (some { block := w4.heap.size, off := 0 }), Value.bool true, Value.bool true, Value.pointer (some { block := w4.heap.size, off := 1 }), Value.agg #[Value.int IntKind.u32 s, Value.int IntKind.i64 k, Value.int IntKind.u32 a, Value.int IntKind.u32 b], Value.agg #[Value.int IntKind.u32 s, Value.int IntKind.i64 k, Value.int IntKind.u32 a, Value.int IntKind.u32 b], Value.bool false, Value.bool false, Value.bool false, Value.slice a1 len1 cap1, Value.slice ba bn bc, Value.slice ba bn bc, Value.agg #[Value.bool xb, Value.int IntKind.u32 s2, Value.int IntKind.i64 k2, Value.int IntKind.u32 a2, Value.int IntKind.u32 b2], t 0, t 1, t 2, t 3, t 4, t 5, t 6, t 7, t 8, t 9, t 10, t 11, t 12, t 13, t 14, t 15], defers := [] })
      (Ext := fun w' => Below w8.heap.size w8 w') (Good := GF xb s2 k2 a2 b2 D bn bc ba y) (M := fun _ w w' => Below w.heap.size w w') ?hstab0 (by kernel_rfl) ?hop0 ?hdone0 _ _ (fun i => if i = 16 then Value.bool false else undef) _ (by simp) ?ext0 ?start0 ?clo0 (by simp)
    case hstab0 =>
      intro j o w1 w2 u i v ho hM hij _ hg
      have hj : j < 17 := (Array.getElem?_eq_some_iff.1 ho).1
      exact GF_stab _ _ _ _ _ _ _ _ _ _ j w1 w2 u i v hM hij (by omega) hg
    case start0 => intro i hi h; exact absurd h (by rw [Array.getD_eq_getD_getElem?, Array.getElem?_replicate]; split <;> simp)
    case clo0 => intro i o ho h; exact absurd h (by rw [Array.getD_eq_getD_getElem?, Array.getElem?_replicate]; split <;> simp)
    case ext0 => exact (Below.refl _ _).drew
    case hdone0 =>
      intro t w' hx hg
      have h16 : t 16 = _ := hg 16 (by decide)
      clear hg
      rw [h16]
      have HBX : Hid (Below w.heap.size w w') := HB8.out.trans (hx.mono HB8.out.size)
      clear hx HA8 HB8 HCC
      go_wp2
      go_ret
      exact ⟨rfl, HBX.out⟩
    case hop0 =>
      intro i o t w' ho hx hdep K hK
      have hi : i < 17 := (Array.getElem?_eq_some_iff.1 ho).1
      have hblk := HCC.out w' hx
      have p0 : w'.cell? ⟨D, 0, none⟩ = some (.bool xb) := cell_of_row _ _ _ _ _ _ hblk
      have p1 : w'.cell? ⟨D, 1, none⟩ = some (.int .u32 s2) := cell_of_row _ _ _ _ _ _ hblk
      have p2 : w'.cell? ⟨D, 2, none⟩ = some (.int .i64 k2) := cell_of_row _ _ _ _ _ _ hblk
      have p3 : w'.cell? ⟨D, 3, none⟩ = some (.int .u32 a2) := cell_of_row _ _ _ _ _ _ hblk
      have p4 : w'.cell? ⟨D, 4, none⟩ = some (.int .u32 b2) := cell_of_row _ _ _ _ _ _ hblk
      have hA' := At.below HA8.out hx
      have HA' : Hid _ := hA'
      clear hblk hA'
      have hr := Below.refl w'.heap.size w'
      obtain rfl | rfl | rfl | rfl | rfl | rfl | rfl | rfl | rfl | rfl | rfl | rfl | rfl | rfl | rfl | rfl | rfl : i = 0 ∨ i = 1 ∨ i = 2 ∨ i = 3 ∨ i = 4 ∨ i = 5 ∨ i = 6 ∨ i = 7 ∨ i = 8 ∨ i = 9 ∨ i = 10 ∨ i = 11 ∨ i = 12 ∨ i = 13 ∨ i = 14 ∨ i = 15 ∨ i = 16 := by omega
      all_goals (simp at ho; subst ho)
      · clear hdep
        go_simp
        exact hK w' _ rfl hx hr
      · clear hdep
        go_simp
        exact hK w' _ rfl hx hr
      · have d : t 1 = _ := hdep ⟨1, .data⟩ (by simp) rfl
        clear hdep p0 p1 p2 p3 p4
        go_simp
        refine (sdec_any ba bn bc y w' HBL.out (by omega) HY.out HA'.out).mono ?_
        rintro e w9 ⟨rfl, hb9⟩
        rw [HDV.out]
        go_simp
        simpa [upd, d] using hK w9 (.agg #[.bool xb, .int .u32 s2, .int .i64 k2, .int .u32 a2, .int .u32 b2]) rfl (hx.trans (hb9.mono hx.size)) hb9
      · have d0 : t 0 = _ := hdep ⟨0, .data⟩ (by simp) rfl
        have d2 : t 2 = _ := hdep ⟨2, .data⟩ (by simp) rfl
        clear hdep p0 p1 p2 p3 p4
        have E := run_eqFrR w' xb s2 k2 a2 b2
        go_simp
        simpa [upd, d0, d2] using hK w' (.bool true) rfl hx hr
      · have d : t 3 = _ := hdep ⟨3, .data⟩ (by simp) rfl
        clear hdep
        go_simp
        simpa [upd, d] using hK w' (.bool true) rfl hx hr
      · have d : t 4 = _ := hdep ⟨4, .guard⟩ (by simp) rfl
        clear hdep
        go_simp
        simpa [upd, d] using hK w' (.pointer (some ⟨D, 0, none⟩)) rfl hx hr
      · have d : t 4 = _ := hdep ⟨4, .guard⟩ (by simp) rfl
        have d5 : t 5 = _ := hdep ⟨5, .data⟩ (by simp) rfl
        clear hdep
        go_simp
        simpa [upd, d, d5] using hK w' (.bool xb) rfl hx hr
      · have d : t 4 = _ := hdep ⟨4, .guard⟩ (by simp) rfl
        have d6 : t 6 = _ := hdep ⟨6, .data⟩ (by simp) rfl
        clear hdep
        go_simp
        simpa [upd, d, d6] using hK w' (.bool (!xb)) rfl hx hr
      · have d : t 4 = _ := hdep ⟨4, .guard⟩ (by simp) rfl
        have d7 : t 7 = _ := hdep ⟨7, .data⟩ (by simp) rfl
        clear hdep
        go_simp
        simpa [upd, d, d7] using hK w' (.bool (!xb)) rfl hx hr
      · have d : t 8 = _ := hdep ⟨8, .guard⟩ (by simp) rfl
        clear hdep
        cases xb
        · go_simp
          simpa [upd, d] using hK w' undef (by intro h; cases h) hx hr
        · go_simp
          simpa [upd, d] using hK w' (.pointer (some ⟨D, 1, none⟩)) (fun _ => rfl) hx hr
      · have d : t 8 = _ := hdep ⟨8, .guard⟩ (by simp) rfl
        have d9 : xb = true → t 9 = _ := hdep ⟨9, .data⟩ (by simp) rfl
        clear hdep
        cases xb
        · clear d9
          go_simp
          simpa [upd, d] using hK w' undef (by intro h; cases h) hx hr
        · have e9 := d9 rfl
          clear d9
          go_simp
          simpa [upd, d, e9] using hK w' (.agg #[.int .u32 s2, .int .i64 k2, .int .u32 a2, .int .u32 b2]) (fun _ => rfl) hx hr
      · have d : t 8 = _ := hdep ⟨8, .guard⟩ (by simp) rfl
        have d10 : xb = true → t 10 = _ := hdep ⟨10, .data⟩ (by simp) rfl
        clear hdep p0 p1 p2 p3 p4
        cases xb
        · clear d10
          go_simp
          simpa [upd, d] using hK w' undef (by intro h; cases h) hx hr
        · have e10 := d10 rfl
          clear d10
          obtain ⟨us2, ua2, ub2, he2⟩ := HFIN.out rfl
          have HE2 : Hid _ := he2
          clear he2
          go_simp
          refine (ienc_any s2 k2 a2 b2 w' us2 ua2 ub2).mono ?_
          rintro e w9 ⟨v9, rfl, ⟨ea9, ec9, rfl, A9, _, _⟩, hb9⟩
          rw [HE2.out] at A9 ⊢
          have HG9 : Hid (GF true s2 k2 a2 b2 D bn bc ba y 11 w9 (upd t 11 (.slice ea9 y.length ec9))) := fun _ => ⟨ea9, ec9, rfl, A9⟩
          clear A9
          go_simp
          simpa [upd, d, e10] using hK w9 (.slice ea9 y.length ec9) HG9.out (hx.trans (hb9.mono hx.size)) hb9
      · have d : t 8 = _ := hdep ⟨8, .guard⟩ (by simp) rfl
        clear hdep
        cases xb
        · go_simp
          simpa [upd, d] using hK w' undef (by intro h; cases h) hx hr
        · go_simp
          simpa [upd, d] using hK w' (.slice ba bn bc) (fun _ => rfl) hx hr
      · have d : t 8 = _ := hdep ⟨8, .guard⟩ (by simp) rfl
        have d11 : xb = true → _ := hdep ⟨11, .data⟩ (by simp) rfl
        have d12 : xb = true → t 12 = _ := hdep ⟨12, .data⟩ (by simp) rfl
        clear hdep p0 p1 p2 p3 p4
        cases xb
        · clear d11 d12
          go_simp
          simpa [upd, d] using hK w' undef (by intro h; cases h) hx hr
        · obtain ⟨ea9, ec9, e11, A9⟩ := d11 rfl
          have e12 := d12 rfl
          have HA9 : Hid _ := A9
          clear d11 d12 A9
          go_simp
          refine (lwB_any ea9 ba y.length bn ec9 bc y y w' rfl HBL.out HA9.out HA'.out HY.out HY.out).mono ?_
          rintro e w9 ⟨rfl, rfl⟩
          have hdd : decide (y = y) = true := by simp
          rw [hdd]
          go_simp
          simpa [upd, d, e11, e12] using hK w9 (.bool true) (fun _ => rfl) hx hr
      · have d4 : t 4 = _ := hdep ⟨4, .guard⟩ (by simp) rfl
        have d : t 8 = _ := hdep ⟨8, .data⟩ (by simp) rfl
        have d13 : xb = true → t 13 = _ := hdep ⟨13, .data⟩ (by simp) rfl
        clear hdep
        cases xb
        · clear d13
          go_simp
          simpa [upd, d, d4] using hK w' (.bool true) rfl hx hr
        · have e13 := d13 rfl
          clear d13
          go_simp
          simpa [upd, d, d4, e13] using hK w' (.bool true) rfl hx hr
      · have d4 : t 4 = _ := hdep ⟨4, .data⟩ (by simp) rfl
        have d14 : t 14 = _ := hdep ⟨14, .data⟩ (by simp) rfl
        clear hdep
        go_simp
        simpa [upd, d4, d14] using hK w' (.bool true) rfl hx hr
      · have d15 : t 15 = _ := hdep ⟨15, .data⟩ (by simp) rfl
        clear hdep
        go_simp
        simpa [upd, d15] using hK w' (.bool true) rfl hx hr
  · rw [hd]
    unfold fNo
    clear HD hd
    by_cases hk1 : 1 ≤ k
    · have t1 : decide (1 ≤ k) = true := by simpa using hk1
      have hk3 : ¬ (k ≤ 3) := by omega
      have t3 : decide (k ≤ 3) = false := by simpa using hk3
      have hb5 := (Below.refl w4.heap.size w4).alloc (Nat.le_refl _) (.cells #[.bool false, .int .u32 0, .int .i64 0, .int .u32 0, .int .u32 0] 28)
      have HB5 : Hid (Below w.heap.size w (w4.alloc (.cells #[.bool false, .int .u32 0, .int .i64 0, .int .u32 0, .int .u32 0] 28))) := HB4.out.trans (hb5.mono HB4.out.size)
      clear hb5 HB4
      go_wp2_with fail
      clear q0 q1 q2 q3 E1
      generalize (w4.alloc (.cells #[.bool false, .int .u32 0, .int .i64 0, .int .u32 0, .int .u32 0] 28)) = w5 at *
      refine (drawDec_any a1 len1 cap1 ys w5 hn1 hl1' hz1 (ha1.below HB5.out)).mono ?_
      rintro e w6 ⟨ba, bn, bc, y, rfl, hbl, hb65, hby, A6, hb6⟩
      have HB6 : Hid (Below w.heap.size w w6) := HB5.out.trans (hb6.mono HB5.out.size)
      have HY : Hid _ := hby
      have HA6 : Hid _ := A6
      have HBL : Hid _ := hbl
      clear hby A6 hb6 HB5 hbl
      go_wp2_with fail
      refine (idec_any ba bn bc y w6 HBL.out (by omega) HY.out HA6.out).mono ?_
      rintro e w7 ⟨rfl, hb7⟩
      have HB7 : Hid (Below w.heap.size w w7) := HB6.out.trans (hb7.mono HB6.out.size)
      have HA7 : Hid _ := At.below HA6.out hb7
      clear hb7 HA6 HB6
      have hfin := dec_fin y HY.out
      obtain ⟨xb, s2, k2, a2, b2, hdv, hfin⟩ := hfin
      rw [hdv]
      have HDV : Hid _ := hdv
      have HFIN : Hid _ := hfin
      clear hdv hfin
      have x8 : (w7.alloc (.cells #[.bool xb, .int .u32 s2, .int .i64 k2, .int .u32 a2, .int .u32 b2] 28)).heap[w7.heap.size]? = some (.cells #[.bool xb, .int .u32 s2, .int .i64 k2, .int .u32 a2, .int .u32 b2] 28 (0, 0)) := heap_alloc_new w7 _
      have hb8 := (Below.refl w7.heap.size w7).alloc (Nat.le_refl _) (.cells #[.bool xb, .int .u32 s2, .int .i64 k2, .int .u32 a2, .int .u32 b2] 28)
      have HX8 : Hid _ := x8
      have HB8 : Hid (Below w.heap.size w (w7.alloc (.cells #[.bool xb, .int .u32 s2, .int .i64 k2, .int .u32 a2, .int .u32 b2] 28))) := HB7.out.trans (hb8.mono HB7.out.size)
      have HA8 : Hid _ := At.below HA7.out hb8
      clear x8 hb8 HB7 HA7
      go_wp2
      have hcell : ∀ w', Below (w7.alloc (.cells #[.bool xb, .int .u32 s2, .int .i64 k2, .int .u32 a2, .int .u32 b2] 28)).heap.size (w7.alloc (.cells #[.bool xb, .int .u32 s2, .int .i64 k2, .int .u32 a2, .int .u32 b2] 28)) w' → w'.heap[w7.heap.size]? = some (.cells #[.bool xb, .int .u32 s2, .int .i64 k2, .int .u32 a2, .int .u32 b2] 28 (0, 0)) := fun w' hb => by rw [hb.block _ (by simp)]; exact HX8.out
      have HCC : Hid _ := hcell
      clear hcell HX8
      generalize (w7.alloc (.cells #[.bool xb, .int .u32 s2, .int .i64 k2, .int .u32 a2, .int .u32 b2] 28)) = w8 at *
      generalize w7.heap.size = D at *
      refine wp_region_any (by kernel_rfl) ?_
      refine wpAny_slots2 (frame := fun t => { tmps := #[Value.slice a0 len0 cap0, Value.slice a1 len1 cap1, undef, undef, t 16, Value.pointer (some { block := F, off := 0 }), Value.pointer (some { block := w4.heap.size, off := 0 }), Value.slice ba bn bc, Value.pointer (some { block := D, off := 0 }), Value.slice a0 len0 cap0, Value.int IntKind.i64 ↑len0, Value.bool false, Value.bool false, Value.slice a1 len1 cap1, Value.int IntKind.i64 ↑len1, Value.bool false, Value.bool false, Value.slice a0 len0 cap0, Value.agg #[Value.int IntKind.u32 s, Value.int IntKind.i64 k, Value.int IntKind.u32 a, Value.int IntKind.u32 b], Value.agg #[Value.int IntKind.u32 s, Value.int IntKind.i64 k, Value.int IntKind.u32 a, Value.int IntKind.u32 b], Value.slice ea z.length ec, Value.agg #[Value.bool false, Value.int IntKind.u32 0, Value.int IntKind.i64 0, Value.int IntKind.u32 0, Value.int IntKind.u32 0], Value.pointer (some { block := w4.heap.size, off := 0 }), Value.bool false, Value.pointer (some { block := F, off := 1 }), Value.int IntKind.i64 k, Value.bool true, Value.bool true, Value.pointer (some { block := F, off := 1 }), Value.int IntKind.i64 k, Value.bool false, Value.bool false, Value.bool false, Value.bool false, Value.pointer (some { block := w4.heap.size, off := 0 }), Value.bool false, Value.bool false, undef, undef, undef, undef, Value.bool false, Value.bool false, Value.slice a1 len1 cap1, Value.slice ba bn bc, Value.slice ba bn bc, Value.agg #[Value.bool xb, Value.int IntKind.u32 s2, Value.int IntKind.i64 k2, Value.int IntKind.u32 a2, Value.int IntKind.u32 b2], t 0, t 1, t 2, t 3, t 4, t 5, t 6, t 7, t 8, t 9, t 10, t 11, t 12, t 13, t 14, t 15], defers := [] })
        (Ext := fun w' => Below w8.heap.size w8 w') (Good := GF xb s2 k2 a2 b2 D bn bc ba y) (M := fun _ w w' => Below w.heap.size w w') ?hstab1 (by kernel_rfl) ?hop1 ?hdone1 _ _ (fun i => if i = 16 then Value.bool false else undef) _ (by simp) ?ext1 ?start1 ?clo1 (by simp)
      case hstab1 =>
        intro j o w1 w2 u i v ho hM hij _ hg
        have hj : j < 17 := (Array.getElem?_eq_some_iff.1 ho).1
        exact GF_stab _ _ _ _ _ _ _ _ _ _ j w1 w2 u i v hM hij (by omega) hg
      case start1 => intro i hi h; exact absurd h (by rw [Array.getD_eq_getD_getElem?, Array.getElem?_replicate]; split <;> simp)
      case clo1 => intro i o ho h; exact absurd h (by rw [Array.getD_eq_getD_getElem?, Array.getElem?_replicate]; split <;> simp)
      case ext1 => exact (Below.refl _ _).drew
      case hdone1 =>
        intro t w' hx hg
        have h16 : t 16 = _ := hg 16 (by decide)
        clear hg
        rw [h16]
        have HBX : Hid (Below w.heap.size w w') := HB8.out.trans (hx.mono HB8.out.size)
        clear hx HA8 HB8 HCC
        go_wp2
        go_ret
        exact ⟨rfl, HBX.out⟩
      case hop1 =>
        intro i o t w' ho hx hdep K hK
        have hi : i < 17 := (Array.getElem?_eq_some_iff.1 ho).1
        have hblk := HCC.out w' hx
        have p0 : w'.cell? ⟨D, 0, none⟩ = some (.bool xb) := cell_of_row _ _ _ _ _ _ hblk
        have p1 : w'.cell? ⟨D, 1, none⟩ = some (.int .u32 s2) := cell_of_row _ _ _ _ _ _ hblk
        have p2 : w'.cell? ⟨D, 2, none⟩ = some (.int .i64 k2) := cell_of_row _ _ _ _ _ _ hblk
        have p3 : w'.cell? ⟨D, 3, none⟩ = some (.int .u32 a2) := cell_of_row _ _ _ _ _ _ hblk
        have p4 : w'.cell? ⟨D, 4, none⟩ = some (.int .u32 b2) := cell_of_row _ _ _ _ _ _ hblk
        have hA' := At.below HA8.out hx
        have HA' : Hid _ := hA'
        clear hblk hA'
        have hr := Below.refl w'.heap.size w'
        obtain rfl | rfl | rfl | rfl | rfl | rfl | rfl | rfl | rfl | rfl | rfl | rfl | rfl | rfl | rfl | rfl | rfl : i = 0 ∨ i = 1 ∨ i = 2 ∨ i = 3 ∨ i = 4 ∨ i = 5 ∨ i = 6 ∨ i = 7 ∨ i = 8 ∨ i = 9 ∨ i = 10 ∨ i = 11 ∨ i = 12 ∨ i = 13 ∨ i = 14 ∨ i = 15 ∨ i = 16 := by omega
        all_goals (simp at ho; subst ho)
        · clear hdep
          go_simp
          exact hK w' _ rfl hx hr
        · clear hdep
          go_simp
          exact hK w' _ rfl hx hr
        · have d : t 1 = _ := hdep ⟨1, .data⟩ (by simp) rfl
          clear hdep p0 p1 p2 p3 p4
          go_simp
          refine (sdec_any ba bn bc y w' HBL.out (by omega) HY.out HA'.out).mono ?_
          rintro e w9 ⟨rfl, hb9⟩
          rw [HDV.out]
          go_simp
          simpa [upd, d] using hK w9 (.agg #[.bool xb, .int .u32 s2, .int .i64 k2, .int .u32 a2, .int .u32 b2]) rfl (hx.trans (hb9.mono hx.size)) hb9
        · have d0 : t 0 = _ := hdep ⟨0, .data⟩ (by simp) rfl
          have d2 : t 2 = _ := hdep ⟨2, .data⟩ (by simp) rfl
          clear hdep p0 p1 p2 p3 p4
          have E := run_eqFrR w' xb s2 k2 a2 b2
          go_simp
          simpa [upd, d0, d2] using hK w' (.bool true) rfl hx hr
        · have d : t 3 = _ := hdep ⟨3, .data⟩ (by simp) rfl
          clear hdep
          go_simp
          simpa [upd, d] using hK w' (.bool true) rfl hx hr
        · have d : t 4 = _ := hdep ⟨4, .guard⟩ (by simp) rfl
          clear hdep
          go_simp
          simpa [upd, d] using hK w' (.pointer (some ⟨D, 0, none⟩)) rfl hx hr
        · have d : t 4 = _ := hdep ⟨4, .guard⟩ (by simp) rfl
          have d5 : t 5 = _ := hdep ⟨5, .data⟩ (by simp) rfl
          clear hdep
          go_simp
          simpa [upd, d, d5] using hK w' (.bool xb) rfl hx hr
        · have d : t 4 = _ := hdep ⟨4, .guard⟩ (by simp) rfl
          have d6 : t 6 = _ := hdep ⟨6, .data⟩ (by simp) rfl
          clear hdep
          go_simp
          simpa [upd, d, d6] using hK w' (.bool (!xb)) rfl hx hr
        · have d : t 4 = _ := hdep ⟨4, .guard⟩ (by simp) rfl
          have d7 : t 7 = _ := hdep ⟨7, .data⟩ (by simp) rfl
          clear hdep
          go_simp
          simpa [upd, d, d7] using hK w' (.bool (!xb)) rfl hx hr
        · have d : t 8 = _ := hdep ⟨8, .guard⟩ (by simp) rfl
          clear hdep
          cases xb
          · go_simp
            simpa [upd, d] using hK w' undef (by intro h; cases h) hx hr
          · go_simp
            simpa [upd, d] using hK w' (.pointer (some ⟨D, 1, none⟩)) (fun _ => rfl) hx hr
        · have d : t 8 = _ := hdep ⟨8, .guard⟩ (by simp) rfl
          have d9 : xb = true → t 9 = _ := hdep ⟨9, .data⟩ (by simp) rfl
          clear hdep
          cases xb
          · clear d9
            go_simp
            simpa [upd, d] using hK w' undef (by intro h; cases h) hx hr
          · have e9 := d9 rfl
            clear d9
            go_simp
            simpa [upd, d, e9] using hK w' (.agg #[.int .u32 s2, .int .i64 k2, .int .u32 a2, .int .u32 b2]) (fun _ => rfl) hx hr
        · have d : t 8 = _ := hdep ⟨8, .guard⟩ (by simp) rfl
          have d10 : xb = true → t 10 = _ := hdep ⟨10, .data⟩ (by simp) rfl
          clear hdep p0 p1 p2 p3 p4
          cases xb
          · clear d10
            go_simp
            simpa [upd, d] using hK w' undef (by intro h; cases h) hx hr
          · have e10 := d10 rfl
            clear d10
            obtain ⟨us2, ua2, ub2, he2⟩ := HFIN.out rfl
            have HE2 : Hid _ := he2
            clear he2
            go_simp
            refine (ienc_any s2 k2 a2 b2 w' us2 ua2 ub2).mono ?_
            rintro e w9 ⟨v9, rfl, ⟨ea9, ec9, rfl, A9, _, _⟩, hb9⟩
            rw [HE2.out] at A9 ⊢
            have HG9 : Hid (GF true s2 k2 a2 b2 D bn bc ba y 11 w9 (upd t 11 (.slice ea9 y.length ec9))) := fun _ => ⟨ea9, ec9, rfl, A9⟩
            clear A9
            go_simp
            simpa [upd, d, e10] using hK w9 (.slice ea9 y.length ec9) HG9.out (hx.trans (hb9.mono hx.size)) hb9
        · have d : t 8 = _ := hdep ⟨8, .guard⟩ (by simp) rfl
          clear hdep
          cases xb
          · go_simp
            simpa [upd, d] using hK w' undef (by intro h; cases h) hx hr
          · go_simp
            simpa [upd, d] using hK w' (.slice ba bn bc) (fun _ => rfl) hx hr
        · have d : t 8 = _ := hdep ⟨8, .guard⟩ (by simp) rfl
          have d11 : xb = true → _ := hdep ⟨11, .data⟩ (by simp) rfl
          have d12 : xb = true → t 12 = _ := hdep ⟨12, .data⟩ (by simp) rfl
          clear hdep p0 p1 p2 p3 p4
          cases xb
          · clear d11 d12
            go_simp
            simpa [upd, d] using hK w' undef (by intro h; cases h) hx hr
          · obtain ⟨ea9, ec9, e11, A9⟩ := d11 rfl
            have e12 := d12 rfl
            have HA9 : Hid _ := A9
            clear d11 d12 A9
            go_simp
            refine (lwB_any ea9 ba y.length bn ec9 bc y y w' rfl HBL.out HA9.out HA'.out HY.out HY.out).mono ?_
            rintro e w9 ⟨rfl, rfl⟩
            have hdd : decide (y = y) = true := by simp
            rw [hdd]
            go_simp
            simpa [upd, d, e11, e12] using hK w9 (.bool true) (fun _ => rfl) hx hr
        · have d4 : t 4 = _ := hdep ⟨4, .guard⟩ (by simp) rfl
          have d : t 8 = _ := hdep ⟨8, .data⟩ (by simp) rfl
          have d13 : xb = true → t 13 = _ := hdep ⟨13, .data⟩ (by simp) rfl
          clear hdep
          cases xb
          · clear d13
            go_simp
            simpa [upd, d, d4] using hK w' (.bool true) rfl hx hr
          · have e13 := d13 rfl
            clear d13
            go_simp
            simpa [upd, d, d4, e13] using hK w' (.bool true) rfl hx hr
        · have d4 : t 4 = _ := hdep ⟨4, .data⟩ (by simp) rfl
          have d14 : t 14 = _ := hdep ⟨14, .data⟩ (by simp) rfl
          clear hdep
          go_simp
          simpa [upd, d4, d14] using hK w' (.bool true) rfl hx hr
        · have d15 : t 15 = _ := hdep ⟨15, .data⟩ (by simp) rfl
          clear hdep
          go_simp
          simpa [upd, d15] using hK w' (.bool true) rfl hx hr
    · have t1 : decide (1 ≤ k) = false := by simpa using hk1
      have hb5 := (Below.refl w4.heap.size w4).alloc (Nat.le_refl _) (.cells #[.bool false, .int .u32 0, .int .i64 0, .int .u32 0, .int .u32 0] 28)
      have HB5 : Hid (Below w.heap.size w (w4.alloc (.cells #[.bool false, .int .u32 0, .int .i64 0, .int .u32 0, .int .u32 0] 28))) := HB4.out.trans (hb5.mono HB4.out.size)
      clear hb5 HB4
      go_wp2_with fail
      clear q0 q1 q2 q3 E1
      generalize (w4.alloc (.cells #[.bool false, .int .u32 0, .int .i64 0, .int .u32 0, .int .u32 0] 28)) = w5 at *
      refine (drawDec_any a1 len1 cap1 ys w5 hn1 hl1' hz1 (ha1.below HB5.out)).mono ?_
      rintro e w6 ⟨ba, bn, bc, y, rfl, hbl, hb65, hby, A6, hb6⟩
      have HB6 : Hid (Below w.heap.size w w6) := HB5.out.trans (hb6.mono HB5.out.size)
      have HY : Hid _ := hby
      have HA6 : Hid _ := A6
      have HBL : Hid _ := hbl
      clear hby A6 hb6 HB5 hbl
      go_wp2_with fail
      refine (idec_any ba bn bc y w6 HBL.out (by omega) HY.out HA6.out).mono ?_
      rintro e w7 ⟨rfl, hb7⟩
      have HB7 : Hid (Below w.heap.size w w7) := HB6.out.trans (hb7.mono HB6.out.size)
      have HA7 : Hid _ := At.below HA6.out hb7
      clear hb7 HA6 HB6
      have hfin := dec_fin y HY.out
      obtain ⟨xb, s2, k2, a2, b2, hdv, hfin⟩ := hfin
      rw [hdv]
      have HDV : Hid _ := hdv
      have HFIN : Hid _ := hfin
      clear hdv hfin
      have x8 : (w7.alloc (.cells #[.bool xb, .int .u32 s2, .int .i64 k2, .int .u32 a2, .int .u32 b2] 28)).heap[w7.heap.size]? = some (.cells #[.bool xb, .int .u32 s2, .int .i64 k2, .int .u32 a2, .int .u32 b2] 28 (0, 0)) := heap_alloc_new w7 _
      have hb8 := (Below.refl w7.heap.size w7).alloc (Nat.le_refl _) (.cells #[.bool xb, .int .u32 s2, .int .i64 k2, .int .u32 a2, .int .u32 b2] 28)
      have HX8 : Hid _ := x8
      have HB8 : Hid (Below w.heap.size w (w7.alloc (.cells #[.bool xb, .int .u32 s2, .int .i64 k2, .int .u32 a2, .int .u32 b2] 28))) := HB7.out.trans (hb8.mono HB7.out.size)
      have HA8 : Hid _ := At.below HA7.out hb8
      clear x8 hb8 HB7 HA7
      go_wp2
      have hcell : ∀ w', Below (w7.alloc (.cells #[.bool xb, .int .u32 s2, .int .i64 k2, .int .u32 a2, .int .u32 b2] 28)).heap.size (w7.alloc (.cells #[.bool xb, .int .u32 s2, .int .i64 k2, .int .u32 a2, .int .u32 b2] 28)) w' → w'.heap[w7.heap.size]? = some (.cells #[.bool xb, .int .u32 s2, .int .i64 k2, .int .u32 a2, .int .u32 b2] 28 (0, 0)) := fun w' hb => by rw [hb.block _ (by simp)]; exact HX8.out
      have HCC : Hid _ := hcell
      clear hcell HX8
      generalize (w7.alloc (.cells #[.bool xb, .int .u32 s2, .int .i64 k2, .int .u32 a2, .int .u32 b2] 28)) = w8 at *
      generalize w7.heap.size = D at *
      refine wp_region_any (by kernel_rfl) ?_
      refine wpAny_slots2 (frame := fun t => { tmps := #[Value.slice a0 len0 cap0, Value.slice a1 len1 cap1, undef, undef, t 16, Value.pointer (some { block := F, off := 0 }), Value.pointer (some { block := w4.heap.size, off := 0 }), Value.slice ba bn bc, Value.pointer (some { block := D, off := 0 }), Value.slice a0 len0 cap0, Value.int IntKind.i64 ↑len0, Value.bool false, Value.bool false, Value.slice a1 len1 cap1, Value.int IntKind.i64 ↑len1, Value.bool false, Value.bool false, Value.slice a0 len0 cap0, Value.agg #[Value.int IntKind.u32 s, Value.int IntKind.i64 k, Value.int IntKind.u32 a, Value.int IntKind.u32 b], Value.agg #[Value.int IntKind.u32 s, Value.int IntKind.i64 k, Value.int IntKind.u32 a, Value.int IntKind.u32 b], Value.slice ea z.length ec, Value.agg #[Value.bool false, Value.int IntKind.u32 0, Value.int IntKind.i64 0, Value.int IntKind.u32 0, Value.int IntKind.u32 0], Value.pointer (some { block := w4.heap.size, off := 0 }), Value.bool false, Value.pointer (some { block := F, off := 1 }), Value.int IntKind.i64 k, Value.bool false, Value.bool false, undef, undef, undef, Value.bool false, Value.bool false, Value.bool false, Value.pointer (some { block := w4.heap.size, off := 0 }), Value.bool false, Value.bool false, undef, undef, undef, undef, Value.bool false, Value.bool false, Value.slice a1 len1 cap1, Value.slice ba bn bc, Value.slice ba bn bc, Value.agg #[Value.bool xb, Value.int IntKind.u32 s2, Value.int IntKind.i64 k2, Value.int IntKind.u32 a2, Value.int IntKind.u32 b2], t 0, t 1, t 2, t 3, t 4, t 5, t 6, t 7, t 8, t 9, t 10, t 11, t 12, t 13, t 14, t 15], defers := [] })
        (Ext := fun w' => Below w8.heap.size w8 w') (Good := GF xb s2 k2 a2 b2 D bn bc ba y) (M := fun _ w w' => Below w.heap.size w w') ?hstab2 (by kernel_rfl) ?hop2 ?hdone2 _ _ (fun i => if i = 16 then Value.bool false else undef) _ (by simp) ?ext2 ?start2 ?clo2 (by simp)
      case hstab2 =>
        intro j o w1 w2 u i v ho hM hij _ hg
        have hj : j < 17 := (Array.getElem?_eq_some_iff.1 ho).1
        exact GF_stab _ _ _ _ _ _ _ _ _ _ j w1 w2 u i v hM hij (by omega) hg
      case start2 => intro i hi h; exact absurd h (by rw [Array.getD_eq_getD_getElem?, Array.getElem?_replicate]; split <;> simp)
      case clo2 => intro i o ho h; exact absurd h (by rw [Array.getD_eq_getD_getElem?, Array.getElem?_replicate]; split <;> simp)
      case ext2 => exact (Below.refl _ _).drew
      case hdone2 =>
        intro t w' hx hg
        have h16 : t 16 = _ := hg 16 (by decide)
        clear hg
        rw [h16]
        have HBX : Hid (Below w.heap.size w w') := HB8.out.trans (hx.mono HB8.out.size)
        clear hx HA8 HB8 HCC
        go_wp2
        go_ret
        exact ⟨rfl, HBX.out⟩
      case hop2 =>
        intro i o t w' ho hx hdep K hK
        have hi : i < 17 := (Array.getElem?_eq_some_iff.1 ho).1
        have hblk := HCC.out w' hx
        have p0 : w'.cell? ⟨D, 0, none⟩ = some (.bool xb) := cell_of_row _ _ _ _ _ _ hblk
        have p1 : w'.cell? ⟨D, 1, none⟩ = some (.int .u32 s2) := cell_of_row _ _ _ _ _ _ hblk
        have p2 : w'.cell? ⟨D, 2, none⟩ = some (.int .i64 k2) := cell_of_row _ _ _ _ _ _ hblk
        have p3 : w'.cell? ⟨D, 3, none⟩ = some (.int .u32 a2) := cell_of_row _ _ _ _ _ _ hblk
        have p4 : w'.cell? ⟨D, 4, none⟩ = some (.int .u32 b2) := cell_of_row _ _ _ _ _ _ hblk
        have hA' := At.below HA8.out hx
        have HA' : Hid _ := hA'
        clear hblk hA'
        have hr := Below.refl w'.heap.size w'
        obtain rfl | rfl | rfl | rfl | rfl | rfl | rfl | rfl | rfl | rfl | rfl | rfl | rfl | rfl | rfl | rfl | rfl : i = 0 ∨ i = 1 ∨ i = 2 ∨ i = 3 ∨ i = 4 ∨ i = 5 ∨ i = 6 ∨ i = 7 ∨ i = 8 ∨ i = 9 ∨ i = 10 ∨ i = 11 ∨ i = 12 ∨ i = 13 ∨ i = 14 ∨ i = 15 ∨ i = 16 := by omega
        all_goals (simp at ho; subst ho)
        · clear hdep
          go_simp
          exact hK w' _ rfl hx hr
        · clear hdep
          go_simp
          exact hK w' _ rfl hx hr
        · have d : t 1 = _ := hdep ⟨1, .data⟩ (by simp) rfl
          clear hdep p0 p1 p2 p3 p4
          go_simp
          refine (sdec_any ba bn bc y w' HBL.out (by omega) HY.out HA'.out).mono ?_
          rintro e w9 ⟨rfl, hb9⟩
          rw [HDV.out]
          go_simp
          simpa [upd, d] using hK w9 (.agg #[.bool xb, .int .u32 s2, .int .i64 k2, .int .u32 a2, .int .u32 b2]) rfl (hx.trans (hb9.mono hx.size)) hb9
        · have d0 : t 0 = _ := hdep ⟨0, .data⟩ (by simp) rfl
          have d2 : t 2 = _ := hdep ⟨2, .data⟩ (by simp) rfl
          clear hdep p0 p1 p2 p3 p4
          have E := run_eqFrR w' xb s2 k2 a2 b2
          go_simp
          simpa [upd, d0, d2] using hK w' (.bool true) rfl hx hr
        · have d : t 3 = _ := hdep ⟨3, .data⟩ (by simp) rfl
          clear hdep
          go_simp
          simpa [upd, d] using hK w' (.bool true) rfl hx hr
        · have d : t 4 = _ := hdep ⟨4, .guard⟩ (by simp) rfl
          clear hdep
          go_simp
          simpa [upd, d] using hK w' (.pointer (some ⟨D, 0, none⟩)) rfl hx hr
        · have d : t 4 = _ := hdep ⟨4, .guard⟩ (by simp) rfl
          have d5 : t 5 = _ := hdep ⟨5, .data⟩ (by simp) rfl
          clear hdep
          go_simp
          simpa [upd, d, d5] using hK w' (.bool xb) rfl hx hr
        · have d : t 4 = _ := hdep ⟨4, .guard⟩ (by simp) rfl
          have d6 : t 6 = _ := hdep ⟨6, .data⟩ (by simp) rfl
          clear hdep
          go_simp
          simpa [upd, d, d6] using hK w' (.bool (!xb)) rfl hx hr
        · have d : t 4 = _ := hdep ⟨4, .guard⟩ (by simp) rfl
          have d7 : t 7 = _ := hdep ⟨7, .data⟩ (by simp) rfl
          clear hdep
          go_simp
          simpa [upd, d, d7] using hK w' (.bool (!xb)) rfl hx hr
        · have d : t 8 = _ := hdep ⟨8, .guard⟩ (by simp) rfl
          clear hdep
          cases xb
          · go_simp
            simpa [upd, d] using hK w' undef (by intro h; cases h) hx hr
          · go_simp
            simpa [upd, d] using hK w' (.pointer (some ⟨D, 1, none⟩)) (fun _ => rfl) hx hr
        · have d : t 8 = _ := hdep ⟨8, .guard⟩ (by simp) rfl
          have d9 : xb = true → t 9 = _ := hdep ⟨9, .data⟩ (by simp) rfl
          clear hdep
          cases xb
          · clear d9
            go_simp
            simpa [upd, d] using hK w' undef (by intro h; cases h) hx hr
          · have e9 := d9 rfl
            clear d9
            go_simp
            simpa [upd, d, e9] using hK w' (.agg #[.int .u32 s2, .int .i64 k2, .int .u32 a2, .int .u32 b2]) (fun _ => rfl) hx hr
        · have d : t 8 = _ := hdep ⟨8, .guard⟩ (by simp) rfl
          have d10 : xb = true → t 10 = _ := hdep ⟨10, .data⟩ (by simp) rfl
          clear hdep p0 p1 p2 p3 p4
          cases xb
          · clear d10
            go_simp
            simpa [upd, d] using hK w' undef (by intro h; cases h) hx hr
          · have e10 := d10 rfl
            clear d10
            obtain ⟨us2, ua2, ub2, he2⟩ := HFIN.out rfl
            have HE2 : Hid _ := he2
            clear he2
            go_simp
            refine (ienc_any s2 k2 a2 b2 w' us2 ua2 ub2).mono ?_
            rintro e w9 ⟨v9, rfl, ⟨ea9, ec9, rfl, A9, _, _⟩, hb9⟩
            rw [HE2.out] at A9 ⊢
            have HG9 : Hid (GF true s2 k2 a2 b2 D bn bc ba y 11 w9 (upd t 11 (.slice ea9 y.length ec9))) := fun _ => ⟨ea9, ec9, rfl, A9⟩
            clear A9
            go_simp
            simpa [upd, d, e10] using hK w9 (.slice ea9 y.length ec9) HG9.out (hx.trans (hb9.mono hx.size)) hb9
        · have d : t 8 = _ := hdep ⟨8, .guard⟩ (by simp) rfl
          clear hdep
          cases xb
          · go_simp
            simpa [upd, d] using hK w' undef (by intro h; cases h) hx hr
          · go_simp
            simpa [upd, d] using hK w' (.slice ba bn bc) (fun _ => rfl) hx hr
        · have d : t 8 = _ := hdep ⟨8, .guard⟩ (by simp) rfl
          have d11 : xb = true → _ := hdep ⟨11, .data⟩ (by simp) rfl
          have d12 : xb = true → t 12 = _ := hdep ⟨12, .data⟩ (by simp) rfl
          clear hdep p0 p1 p2 p3 p4
          cases xb
          · clear d11 d12
            go_simp
            simpa [upd, d] using hK w' undef (by intro h; cases h) hx hr
          · obtain ⟨ea9, ec9, e11, A9⟩ := d11 rfl
            have e12 := d12 rfl
            have HA9 : Hid _ := A9
            clear d11 d12 A9
            go_simp
            refine (lwB_any ea9 ba y.length bn ec9 bc y y w' rfl HBL.out HA9.out HA'.out HY.out HY.out).mono ?_
            rintro e w9 ⟨rfl, rfl⟩
            have hdd : decide (y = y) = true := by simp
            rw [hdd]
            go_simp
            simpa [upd, d, e11, e12] using hK w9 (.bool true) (fun _ => rfl) hx hr
        · have d4 : t 4 = _ := hdep ⟨4, .guard⟩ (by simp) rfl
          have d : t 8 = _ := hdep ⟨8, .data⟩ (by simp) rfl
          have d13 : xb = true → t 13 = _ := hdep ⟨13, .data⟩ (by simp) rfl
          clear hdep
          cases xb
          · clear d13
            go_simp
            simpa [upd, d, d4] using hK w' (.bool true) rfl hx hr
          · have e13 := d13 rfl
            clear d13
            go_simp
            simpa [upd, d, d4, e13] using hK w' (.bool true) rfl hx hr
        · have d4 : t 4 = _ := hdep ⟨4, .data⟩ (by simp) rfl
          have d14 : t 14 = _ := hdep ⟨14, .data⟩ (by simp) rfl
          clear hdep
          go_simp
          simpa [upd, d4, d14] using hK w' (.bool true) rfl hx hr
        · have d15 : t 15 = _ := hdep ⟨15, .data⟩ (by simp) rfl
          clear hdep
          go_simp
          simpa [upd, d15] using hK w' (.bool true) rfl hx hr

set_option maxRecDepth 100000 in
theorem lifted (os : Os) (started : os.Started) (H : Type) (enc : TypeId × Value → H) :
    ReturnsInHanded {} Try.checked os 3 .any (Rows.fnFrameSpec.pre6 enc Try.prog Try.f3 Rows.fnFrameRow.domain false) (Rows.fnFrameSpec.post enc Try.prog Try.f3 false true false false) := by
  refine returnsInHanded_of_change (C := Try.checked) own started (by kernel_rfl) Try.func3
    (ChangeSpec.witness6 (enc := enc) (C := Try.checked) false ⟨#[], #[.slice none 0 0, .slice none 0 0], []⟩ 8 (by kernel_rfl) (by kernel_rfl) (by kernel_rfl) (by kernel_rfl)) ?_
  intro W base args ds gs before hval0 hW hcnd _
  have hval : ∀ (j : Nat) t v, Try.f3.params[j]? = some t → args[j]? = some v → Value.okWide Try.prog W .any base t v := hval0
  have hW' := hW
  obtain ⟨p, q, hA0, hV, rfl, hfz, hnd⟩ := hW
  have hA : DataW.TrodAll enc Try.prog W 0 (fun _ => true) true Try.f3.params.toList args.toList ds p := hA0
  rw [Try.params3] at hA hval
  obtain ⟨v0, vs0, d0, ds0, p0, q0, hargs, rfl, rfl, h0, r0⟩ := trodAll_cons hA
  obtain ⟨v1, vs1, d1, ds1, p1, q1, hargs1, rfl, rfl, h1, r1⟩ := trodAll_cons r0
  obtain ⟨rfl, rfl, rfl⟩ := trodAll_nil r1
  obtain rfl : args = #[v0, v1] := by cases args; simp_all
  obtain ⟨rfl, rfl⟩ := trodVars_none hV
  have k0 := h0
  have k1 := h1
  have lt0 : ∀ x ∈ p0, x.block < W.heap.size := by obtain ⟨m, hm⟩ := k0; exact DataW.trod_lt m _ _ _ hm
  have lt1 : ∀ x ∈ p1, x.block < W.heap.size := by obtain ⟨m, hm⟩ := k1; exact DataW.trod_lt m _ _ _ hm
  obtain ⟨a0, len0, cap0, hv0⟩ := okWide_slice Try.underlying22 (hval 0 22 v0 rfl rfl)
  obtain ⟨a1, len1, cap1, hv1⟩ := okWide_slice Try.underlying22 (hval 1 22 v1 rfl rfl)
  subst hv0
  subst hv1
  obtain ⟨m0, hm0⟩ := h0
  obtain ⟨m1, hm1⟩ := h1
  have hm0' : DataW.trod enc Try.prog W 0 (fun _ => true) true m0 22 [Value.slice a0 len0 cap0] = some (d0, p0) := hm0
  have hm1' : DataW.trod enc Try.prog W 0 (fun _ => true) true m1 22 [Value.slice a1 len1 cap1] = some (d1, p1) := hm1
  obtain ⟨_, _, _, zs, e0, hn, _, hz, ha⟩ := bytes_of hm0'
  obtain ⟨_, _, _, ys, e1, hn1, _, hz1, ha1⟩ := bytes_of hm1'
  cases e0
  cases e1
  clear hA0 hval0
  refine (walk a0 a1 len0 cap0 len1 cap1 zs ys W hn hn1 hz hz1 ha ha1).mono fun e W' ⟨he, bel⟩ => ?_
  subst he
  exact ⟨_, rfl, _, _, _, [], _, [], hW', trodAll_mk1 (shut_bool Try.underlying4 _), (trodAll_cons_mk (Below.trod laidOut (by kernel_rfl) (of_decide_eq_true (by kernel_rfl)) k0 bel lt0) (trodAll_cons_mk (Below.trod laidOut (by kernel_rfl) (of_decide_eq_true (by kernel_rfl)) k1 bel lt1) trodAll_mk0)), rfl, bel.frame _, fun h => by cases h⟩

theorem over : Rows.fnFrameRow.holds Try.pinned (OpenSpec.ofChange Rows.fnFrameSpec) :=
  OpenClaim.holds_of_wide 3 Try.f3 rfl rfl rfl rfl rfl rfl rfl ⟨rfl, rfl, rfl, rfl, rfl⟩ rfl rfl rfl rfl rfl (by kernel_rfl) Try.func3 (by kernel_rfl)
    (of_decide_eq_true (by kernel_rfl)) (by unfold Func.isWrapper; first | (rw [if_pos (by decide +kernel)]; kernel_rfl) | (rw [if_neg (by decide +kernel)]; exact ⟨rfl, rfl⟩))
    (fun os started H enc _ => lifted os started H enc)

end Go.Proofs.Ythghkfncpdnpoac.lframe
namespace Go.Proofs.Ythghkfncpdnpoac
theorem frame_holds : Rows.FnFrameSaid := lframe.over
#print axioms frame_holds
end Go.Proofs.Ythghkfncpdnpoac
