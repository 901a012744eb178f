/-
  Own work: PointAdd, by the program.
-/
import Derived.Test.YtdaglofgioehhaaMLwa
namespace Go.Proofs.Ytdaglofgioehhaa
open Go.ChangeShapes Go.WideShapes Go.ChangeAt Go.RowKit
set_option linter.unusedVariables false

theorem mB_len {zs : List Int} (h : mB zs mdD = true) : zs.length = 32 ∧ mY zs < fp := by
  unfold mB at h
  simp only [Bool.and_eq_true] at h
  exact ⟨by simpa using h.1.1.1, by simpa using h.1.1.2⟩
theorem Pt.wrh {w w' : World} {g V : Nat} {x y z t : List Int} (h : Pt w g x y z t) (hw : WrH V w w') (hne : g ≠ V) : Pt w' g x y z t := ⟨hw.rowW h.row hne, h.x, h.y, h.z, h.t⟩
theorem At.wrh {k : IntKind} {w w' : World} {a : Option Addr} {zs : List Int} {V : Nat} (h : At k w a zs) (hw : WrH V w w') (hne : ∀ b o, a = some ⟨b, o, none⟩ → b ≠ V) : At k w' a zs := by
  rcases h with h | ⟨b, off, rfl, hl, hc⟩
  · exact .inl h
  · exact .inr ⟨b, off, rfl, by have := hw.size; omega, fun i hi => by rw [World.cell?_of_block (a := ⟨b, off + i, none⟩) (w := w) (hw.block b hl (hne b off rfl))]; exact hc i hi⟩

set_option maxRecDepth 100000 in
set_option maxHeartbeats 4000000 in
theorem ipad_any (p q : Option Addr) (n cap m cap' : Nat) (zs ys : List Int) (w : World) (hn : zs.length = n) (hm : n ≤ 1048576) (ha : At .u8 w p zs) (hz : Byte zs) (hn' : ys.length = m) (hm' : m ≤ 1048576) (ha' : At .u8 w q ys) (hy : Byte ys) :
    Calls Try.prog 24 #[.slice p n cap, .slice q m cap'] w (PadP w zs ys) := by
  have HB0 : Below w.heap.size w ((w.alloc (.cells #[.int .u64 0, .int .u64 0, .int .u64 0, .int .u64 0, .int .u64 0, .int .u64 0, .int .u64 0, .int .u64 0, .int .u64 0, .int .u64 0, .int .u64 0, .int .u64 0, .int .u64 0, .int .u64 0, .int .u64 0, .int .u64 0, .int .u64 0, .int .u64 0, .int .u64 0, .int .u64 0] 45)).alloc (.cells #[.int .u64 0, .int .u64 0, .int .u64 0, .int .u64 0, .int .u64 0, .int .u64 0, .int .u64 0, .int .u64 0, .int .u64 0, .int .u64 0, .int .u64 0, .int .u64 0, .int .u64 0, .int .u64 0, .int .u64 0, .int .u64 0, .int .u64 0, .int .u64 0, .int .u64 0, .int .u64 0] 45)) := (below_new3 _ _).trans ((below_new3 _ _).mono (by simp))
  have HP1 : Pt ((w.alloc (.cells #[.int .u64 0, .int .u64 0, .int .u64 0, .int .u64 0, .int .u64 0, .int .u64 0, .int .u64 0, .int .u64 0, .int .u64 0, .int .u64 0, .int .u64 0, .int .u64 0, .int .u64 0, .int .u64 0, .int .u64 0, .int .u64 0, .int .u64 0, .int .u64 0, .int .u64 0, .int .u64 0] 45)).alloc (.cells #[.int .u64 0, .int .u64 0, .int .u64 0, .int .u64 0, .int .u64 0, .int .u64 0, .int .u64 0, .int .u64 0, .int .u64 0, .int .u64 0, .int .u64 0, .int .u64 0, .int .u64 0, .int .u64 0, .int .u64 0, .int .u64 0, .int .u64 0, .int .u64 0, .int .u64 0, .int .u64 0] 45)) w.heap.size [0, 0, 0, 0, 0] [0, 0, 0, 0, 0] [0, 0, 0, 0, 0] [0, 0, 0, 0, 0] := (pt_new w).below (below_new3 _ _) (by simp)
  have HP2 : Pt ((w.alloc (.cells #[.int .u64 0, .int .u64 0, .int .u64 0, .int .u64 0, .int .u64 0, .int .u64 0, .int .u64 0, .int .u64 0, .int .u64 0, .int .u64 0, .int .u64 0, .int .u64 0, .int .u64 0, .int .u64 0, .int .u64 0, .int .u64 0, .int .u64 0, .int .u64 0, .int .u64 0, .int .u64 0] 45)).alloc (.cells #[.int .u64 0, .int .u64 0, .int .u64 0, .int .u64 0, .int .u64 0, .int .u64 0, .int .u64 0, .int .u64 0, .int .u64 0, .int .u64 0, .int .u64 0, .int .u64 0, .int .u64 0, .int .u64 0, .int .u64 0, .int .u64 0, .int .u64 0, .int .u64 0, .int .u64 0, .int .u64 0] 45)) (w.heap.size + 1) [0, 0, 0, 0, 0] [0, 0, 0, 0, 0] [0, 0, 0, 0, 0] [0, 0, 0, 0, 0] := by
    have := pt_new (w.alloc (.cells #[.int .u64 0, .int .u64 0, .int .u64 0, .int .u64 0, .int .u64 0, .int .u64 0, .int .u64 0, .int .u64 0, .int .u64 0, .int .u64 0, .int .u64 0, .int .u64 0, .int .u64 0, .int .u64 0, .int .u64 0, .int .u64 0, .int .u64 0, .int .u64 0, .int .u64 0, .int .u64 0] 45))
    rwa [show (w.alloc (.cells #[.int .u64 0, .int .u64 0, .int .u64 0, .int .u64 0, .int .u64 0, .int .u64 0, .int .u64 0, .int .u64 0, .int .u64 0, .int .u64 0, .int .u64 0, .int .u64 0, .int .u64 0, .int .u64 0, .int .u64 0, .int .u64 0, .int .u64 0, .int .u64 0, .int .u64 0, .int .u64 0] 45)).heap.size = w.heap.size + 1 by simp] at this
  have ha1 := ha.below HB0
  have ha2 := ha'.below HB0
  have hqb : ∀ b o, q = some ⟨b, o, none⟩ → ys ≠ [] → b < w.heap.size := fun b o e h => by
    rcases ha' with h' | ⟨b', o', e', hl, _⟩
    · exact absurd h' h
    · rw [e] at e'; cases e'; exact hl
  go_enter Try.func24, Try.ntmps24
  go_wp2_with fail
  generalize (w.alloc (.cells #[.int .u64 0, .int .u64 0, .int .u64 0, .int .u64 0, .int .u64 0, .int .u64 0, .int .u64 0, .int .u64 0, .int .u64 0, .int .u64 0, .int .u64 0, .int .u64 0, .int .u64 0, .int .u64 0, .int .u64 0, .int .u64 0, .int .u64 0, .int .u64 0, .int .u64 0, .int .u64 0] 45)).alloc (.cells #[.int .u64 0, .int .u64 0, .int .u64 0, .int .u64 0, .int .u64 0, .int .u64 0, .int .u64 0, .int .u64 0, .int .u64 0, .int .u64 0, .int .u64 0, .int .u64 0, .int .u64 0, .int .u64 0, .int .u64 0, .int .u64 0, .int .u64 0, .int .u64 0, .int .u64 0, .int .u64 0] 45) = w0 at *
  refine (decode_any w.heap.size _ _ _ _ p n cap zs _ hn hm ha1 hz HP1).mono ?_
  rintro e w1 ⟨x1, y1, z1, t1, P1, hw1, rfl, hv1⟩
  have HB1 : Hid (Below w.heap.size w w1) := HB0.trans (hw1.below w.heap.size (Nat.le_refl _) HB0.size)
  have HQ1 : Hid (Pt w1 (w.heap.size + 1) [0, 0, 0, 0, 0] [0, 0, 0, 0, 0] [0, 0, 0, 0, 0] [0, 0, 0, 0, 0]) := HP2.wrh hw1 (by omega)
  have HA1 : Hid (At .u8 w1 q ys) := ha'.below HB1.out
  have HP1' : Hid (Pt w1 w.heap.size x1 y1 z1 t1) := P1
  have HV1 : Hid (dcR zs = true → ev x1 = dcX zs ∧ ev y1 = dcY zs ∧ ev z1 = 1 ∧ ev t1 = dcX zs * dcY zs % fp) := hv1
  clear hw1 HP1 HB0 ha1 ha2 HP2 P1 hv1 ha ha'
  have HDS : Hid (dcR zs = mB zs mdD) := dec_same zs hz
  rw [HDS.out]
  have HNO : (¬ (mB zs mdD = true ∧ mB ys mdD = true)) → ∀ wz, Below w.heap.size w wz → Hid (PadP w zs ys (.returned (.slice none 0 0)) wz) := fun h wz hb => by
    show PadP _ _ _ _ _
    unfold PadP
    rw [paZ_no h]
    exact ⟨_, rfl, ⟨none, 0, rfl, .inl rfl, .inl rfl, fun ad h => by cases h⟩, hb⟩
  cases hb : mB zs mdD with
  | false =>
    have H := HNO (by rw [hb]; simp) w1 HB1.out
    clear HNO HB1 HQ1 HA1 HP1' HV1
    go_wp2
    go_ret
    exact H.out
  | true =>
    go_wp2_with fail
    refine (decode_any (w.heap.size + 1) _ _ _ _ q m cap' ys _ hn' hm' HA1.out hy HQ1.out).mono ?_
    rintro e w2 ⟨x2, y2, z2, t2, P2, hw2, rfl, hv2⟩
    have HB2 : Hid (Below w.heap.size w w2) := HB1.out.trans (hw2.below w.heap.size (by omega) HB1.out.size)
    have HP2' : Hid (Pt w2 w.heap.size x1 y1 z1 t1) := HP1'.out.wrh hw2 (by omega)
    have HP2 : Hid (Pt w2 (w.heap.size + 1) x2 y2 z2 t2) := P2
    have HV2 : Hid (dcR ys = true → ev x2 = dcX ys ∧ ev y2 = dcY ys ∧ ev z2 = 1 ∧ ev t2 = dcX ys * dcY ys % fp) := hv2
    have HDS2 : Hid (dcR ys = mB ys mdD) := dec_same ys hy
    rw [HDS2.out]
    clear hw2 P2 hv2 HB1 HQ1 HA1 HP1'
    cases hb2 : mB ys mdD with
    | false =>
      have H := HNO (by rw [hb2]; simp) w2 HB2.out
      clear HNO
      go_wp2
      go_ret
      exact H.out
    | true =>
      obtain ⟨e1, e2, e3, e4⟩ := HV1.out (by rw [HDS.out]; exact hb)
      obtain ⟨f1, f2, f3, f4⟩ := HV2.out (by rw [HDS2.out]; exact hb2)
      have q1 := decX_same zs (mB_len hb).1 hz (mB_len hb).2
      have q2 := decX_same ys (mB_len hb2).1 hy (mB_len hb2).2
      have HE : Hid (ev x1 = mX zs mdD ∧ ev y1 = mY zs ∧ ev z1 = 1 % fp ∧ ev t1 = mX zs mdD * mY zs % fp ∧ ev x2 = mX ys mdD ∧ ev y2 = mY ys ∧ ev z2 = 1 % fp ∧ ev t2 = mX ys mdD * mY ys % fp) :=
        ⟨by rw [e1, q1], e2, by rw [e3]; decide, by rw [e4, q1]; rfl, by rw [f1, q2], f2, by rw [f3]; decide, by rw [f4, q2]; rfl⟩
      clear e1 e2 e3 e4 f1 f2 f3 f4 q1 q2 HV1 HV2 HNO
      go_wp2_with fail
      refine (add_any w.heap.size (w.heap.size + 1) x1 y1 z1 t1 x2 y2 z2 t2 _ HP2'.out HP2.out).mono ?_
      rintro e w3 ⟨x, y, z, t, P3, hw3, rfl, v1, v2, v3, v4⟩
      have HB3 : Hid (Below w.heap.size w w3) := HB2.out.trans (hw3.below w.heap.size (Nat.le_refl _) HB2.out.size)
      have HP3 : Hid (Pt w3 w.heap.size x y z t) := P3
      have HCV : Hid (cdV (ev x) (ev y) (ev z) = padV zs ys) := by
        show _ = _
        obtain ⟨a1, a2, a3, a4, b1, b2, b3, b4⟩ := HE.out
        rw [v1, v2, v3, a1, a2, a3, a4, b1, b2, b3, b4]; rfl
      clear P3 hw3 v1 v2 v3 v4 HB2 HP2 HP2' HE
      go_wp2_with fail
      refine (pcode_any w.heap.size x y z t _ HP3.out).mono ?_
      rintro e w4 ⟨ms, hl, hw, hv, rfl, b4⟩
      rw [HCV.out] at hv
      have HB4 : Hid (Below w.heap.size w w4) := HB3.out.trans (b4.mono HB3.out.size)
      match ms, hl with
      | [n0, n1, n2, n3], _ =>
      have HN : Hid (RowW (w4.alloc (.cells #[.int .u64 n0, .int .u64 n1, .int .u64 n2, .int .u64 n3] 36)) w4.heap.size 36 [n0, n1, n2, n3]) := heap_alloc_new w4 _
      have HB5 : Hid (Below w.heap.size w (w4.alloc (.cells #[.int .u64 n0, .int .u64 n1, .int .u64 n2, .int .u64 n3] 36))) := HB4.out.trans ((below_new3 _ _).mono HB4.out.size)
      have HW : Hid (Wrd [n0, n1, n2, n3] ∧ val 18446744073709551616 [n0, n1, n2, n3] = padV zs ys) := ⟨hw, hv⟩
      clear b4 HB3 HP3 hw hv HCV HB4
      simp only [List.map_cons, List.map_nil]
      go_wp2_with fail
      generalize w4.alloc (.cells #[.int .u64 n0, .int .u64 n1, .int .u64 n2, .int .u64 n3] 36) = w5 at *
      refine (text_any w4.heap.size [n0, n1, n2, n3] _ rfl HN.out HW.out.1).mono ?_
      rintro e w6 ⟨bs, hbl, hbb, hbv, rfl, O, b6⟩
      have HF : Hid (PadP w zs ys (.returned (.slice (some ⟨w5.heap.size, 0, none⟩) 32 32)) w6) := by
        show PadP _ _ _ _ _
        unfold PadP
        rw [paZ_eq ⟨hb, hb2⟩ hbb hbl (by rw [hbv]; exact HW.out.2)]
        have R := own_res O
        obtain ⟨a, c, e, r1, r2, r3⟩ := R
        exact ⟨_, rfl, ⟨a, c, e, r1, r2, fun ad h => Nat.le_trans HB5.out.size (r3 ad h)⟩, HB5.out.trans (b6.mono HB5.out.size)⟩
      clear hbl hbb hbv O b6 HN HW HB5
      go_wp2
      go_ret
      exact HF.out
end Go.Proofs.Ytdaglofgioehhaa
