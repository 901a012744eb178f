/-
  Own work: VerifySig of the program (written by wip/mkvsi.py).
-/
import Derived.Test.YtclmhdhblghfnaaDoorMVsP
import Derived.Test.YtclmhdhblghfnaaDoorMCnC
import Derived.Test.YtclmhdhblghfnaaDoorMIRed
import Derived.Test.YtclmhdhblghfnaaDoorICd
import Derived.Lib.SmallJoins
namespace Go.Proofs.YtclmhdhblghfnaaDoor
open Go.ChangeShapes Go.WideShapes Go.ChangeAt Go.RowKit Go.Joins
set_option linter.unusedVariables false

theorem tab_keepV {w w' : World} (h : TabIn w) (hz : 0 < w.heap.size) (hb : Below w.heap.size w w') : TabIn w' := fun i hi => by rw [hb.cell (p := ⟨0, i, none⟩) hz]; exact h i hi
theorem pt_newV (w : World) : Pt (w.alloc (.cells #[.int .u64 0, .int .u64 0, .int .u64 0, .int .u64 0, .int .u64 0, .int .u64 0, .int .u64 0, .int .u64 0, .int .u64 0, .int .u64 0, .int .u64 0, .int .u64 0, .int .u64 0, .int .u64 0, .int .u64 0, .int .u64 0, .int .u64 0, .int .u64 0, .int .u64 0, .int .u64 0] 43)) w.heap.size [0, 0, 0, 0, 0] [0, 0, 0, 0, 0] [0, 0, 0, 0, 0] [0, 0, 0, 0, 0] := ⟨heap_alloc_new w _, zero_ok, zero_ok, zero_ok, zero_ok⟩
theorem vsR_64 {pub msg sig : List Int} (h : ¬ sig.length = 64) : vsR pub msg sig = false := by unfold vsR; simp [h]
theorem vsR_q {pub msg sig : List Int} (h : decide (val 256 (sig.drop 32) < bigL) = false) : vsR pub msg sig = false := by unfold vsR; simp [h]
theorem vsR_p {pub msg sig : List Int} (h : mB pub mdD = false) : vsR pub msg sig = false := by unfold vsR; simp [h]
theorem vsR_r {pub msg sig : List Int} (h : mB (sig.take 32) mdD = false) : vsR pub msg sig = false := by unfold vsR; simp [h]
theorem vsR_e {pub msg sig : List Int} (h1 : sig.length = 64) (h2 : decide (val 256 (sig.drop 32) < bigL) = true) (h3 : mB pub mdD = true) (h4 : mB (sig.take 32) mdD = true) : vsR pub msg sig = eqnS pub msg sig := by unfold vsR; rw [h2, h3, h4, decide_eq_true h1]; simp
/-- A decoded point, as the model names it. -/
theorem dc_pt {zs x y z t : List Int} (hz : Byte zs) (hb : mB zs mdD = true) (hv : dcR zs = true → ev x = dcX zs ∧ ev y = dcY zs ∧ ev z = 1 ∧ ev t = dcX zs * dcY zs % fp) : ((ev x, ev y, ev z, ev t) : Q4) = ptQ zs := by
  obtain ⟨e1, e2, e3, e4⟩ := hv (by rw [dec_same zs hz]; exact hb)
  have q1 := decX_same zs (mB_len2 hb).1 hz (mB_len2 hb).2
  unfold ptQ
  rw [e1, q1, e2, e3, e4, q1]; rfl
theorem ev_rd (x y z t : List Int) : Rd ((ev x, ev y, ev z, ev t) : Q4) := ⟨ev_bd _, ev_bd _, ev_bd _, ev_bd _⟩

set_option maxRecDepth 100000 in
set_option maxHeartbeats 4000000 in
theorem vsI_any (bp op cp bm om cm bs os cs np nm ns : Nat) (pub msg sig : List Int) (w : World) (hpl : pub.length = np) (hml : msg.length = nm) (hsl : sig.length = ns) (hp : PtA w bp op pub) (hm : PtA w bm om msg) (hs : PtA w bs os sig)
    (zp : Byte pub) (zm : Byte msg) (zs : Byte sig) (hcs : ns ≤ cs) (bnp : np ≤ 1048576) (bnm : nm ≤ 1048576) (bns : ns ≤ 1048576) (hT : TabIn w) (h0 : 0 < w.heap.size) :
    Calls Tryd.prog 6 #[.slice (some ⟨bp, op, none⟩) np cp, .slice (some ⟨bm, om, none⟩) nm cm, .slice (some ⟨bs, os, none⟩) ns cs] w fun e w' => e = .returned (.bool (vsR pub msg sig)) ∧ Below w.heap.size w w' := by
  have HB0 : Hid (Below w.heap.size w (((w.alloc (.cells #[.int .u64 0, .int .u64 0, .int .u64 0, .int .u64 0, .int .u64 0, .int .u64 0, .int .u64 0, .int .u64 0, .int .u64 0, .int .u64 0, .int .u64 0, .int .u64 0, .int .u64 0, .int .u64 0, .int .u64 0, .int .u64 0, .int .u64 0, .int .u64 0, .int .u64 0, .int .u64 0] 43)).alloc (.cells #[.int .u64 0, .int .u64 0, .int .u64 0, .int .u64 0, .int .u64 0, .int .u64 0, .int .u64 0, .int .u64 0, .int .u64 0, .int .u64 0, .int .u64 0, .int .u64 0, .int .u64 0, .int .u64 0, .int .u64 0, .int .u64 0, .int .u64 0, .int .u64 0, .int .u64 0, .int .u64 0] 43)).alloc (.cells #[.int .u64 0, .int .u64 0, .int .u64 0, .int .u64 0, .int .u64 0, .int .u64 0, .int .u64 0, .int .u64 0, .int .u64 0, .int .u64 0, .int .u64 0, .int .u64 0, .int .u64 0, .int .u64 0, .int .u64 0, .int .u64 0, .int .u64 0, .int .u64 0, .int .u64 0, .int .u64 0] 43))) := ((below_new3 _ _).trans ((below_new3 _ _).mono (by simp))).trans ((below_new3 _ _).mono (by simp; omega))
  have HK0 : Hid (Pt (((w.alloc (.cells #[.int .u64 0, .int .u64 0, .int .u64 0, .int .u64 0, .int .u64 0, .int .u64 0, .int .u64 0, .int .u64 0, .int .u64 0, .int .u64 0, .int .u64 0, .int .u64 0, .int .u64 0, .int .u64 0, .int .u64 0, .int .u64 0, .int .u64 0, .int .u64 0, .int .u64 0, .int .u64 0] 43)).alloc (.cells #[.int .u64 0, .int .u64 0, .int .u64 0, .int .u64 0, .int .u64 0, .int .u64 0, .int .u64 0, .int .u64 0, .int .u64 0, .int .u64 0, .int .u64 0, .int .u64 0, .int .u64 0, .int .u64 0, .int .u64 0, .int .u64 0, .int .u64 0, .int .u64 0, .int .u64 0, .int .u64 0] 43)).alloc (.cells #[.int .u64 0, .int .u64 0, .int .u64 0, .int .u64 0, .int .u64 0, .int .u64 0, .int .u64 0, .int .u64 0, .int .u64 0, .int .u64 0, .int .u64 0, .int .u64 0, .int .u64 0, .int .u64 0, .int .u64 0, .int .u64 0, .int .u64 0, .int .u64 0, .int .u64 0, .int .u64 0] 43)) w.heap.size [0, 0, 0, 0, 0] [0, 0, 0, 0, 0] [0, 0, 0, 0, 0] [0, 0, 0, 0, 0]) := ((pt_newV w).below (below_new3 _ _) (by simp)).below (below_new3 _ _) (by simp; omega)
  have HN0 : Hid (Pt (((w.alloc (.cells #[.int .u64 0, .int .u64 0, .int .u64 0, .int .u64 0, .int .u64 0, .int .u64 0, .int .u64 0, .int .u64 0, .int .u64 0, .int .u64 0, .int .u64 0, .int .u64 0, .int .u64 0, .int .u64 0, .int .u64 0, .int .u64 0, .int .u64 0, .int .u64 0, .int .u64 0, .int .u64 0] 43)).alloc (.cells #[.int .u64 0, .int .u64 0, .int .u64 0, .int .u64 0, .int .u64 0, .int .u64 0, .int .u64 0, .int .u64 0, .int .u64 0, .int .u64 0, .int .u64 0, .int .u64 0, .int .u64 0, .int .u64 0, .int .u64 0, .int .u64 0, .int .u64 0, .int .u64 0, .int .u64 0, .int .u64 0] 43)).alloc (.cells #[.int .u64 0, .int .u64 0, .int .u64 0, .int .u64 0, .int .u64 0, .int .u64 0, .int .u64 0, .int .u64 0, .int .u64 0, .int .u64 0, .int .u64 0, .int .u64 0, .int .u64 0, .int .u64 0, .int .u64 0, .int .u64 0, .int .u64 0, .int .u64 0, .int .u64 0, .int .u64 0] 43)) (w.heap.size + 1) [0, 0, 0, 0, 0] [0, 0, 0, 0, 0] [0, 0, 0, 0, 0] [0, 0, 0, 0, 0]) := by
    have := (pt_newV (w.alloc (.cells #[.int .u64 0, .int .u64 0, .int .u64 0, .int .u64 0, .int .u64 0, .int .u64 0, .int .u64 0, .int .u64 0, .int .u64 0, .int .u64 0, .int .u64 0, .int .u64 0, .int .u64 0, .int .u64 0, .int .u64 0, .int .u64 0, .int .u64 0, .int .u64 0, .int .u64 0, .int .u64 0] 43))).below (below_new3 ((w.alloc (.cells #[.int .u64 0, .int .u64 0, .int .u64 0, .int .u64 0, .int .u64 0, .int .u64 0, .int .u64 0, .int .u64 0, .int .u64 0, .int .u64 0, .int .u64 0, .int .u64 0, .int .u64 0, .int .u64 0, .int .u64 0, .int .u64 0, .int .u64 0, .int .u64 0, .int .u64 0, .int .u64 0] 43)).alloc (.cells #[.int .u64 0, .int .u64 0, .int .u64 0, .int .u64 0, .int .u64 0, .int .u64 0, .int .u64 0, .int .u64 0, .int .u64 0, .int .u64 0, .int .u64 0, .int .u64 0, .int .u64 0, .int .u64 0, .int .u64 0, .int .u64 0, .int .u64 0, .int .u64 0, .int .u64 0, .int .u64 0] 43)) (.cells #[.int .u64 0, .int .u64 0, .int .u64 0, .int .u64 0, .int .u64 0, .int .u64 0, .int .u64 0, .int .u64 0, .int .u64 0, .int .u64 0, .int .u64 0, .int .u64 0, .int .u64 0, .int .u64 0, .int .u64 0, .int .u64 0, .int .u64 0, .int .u64 0, .int .u64 0, .int .u64 0] 43)) (by simp)
    rw [show (w.alloc (.cells #[.int .u64 0, .int .u64 0, .int .u64 0, .int .u64 0, .int .u64 0, .int .u64 0, .int .u64 0, .int .u64 0, .int .u64 0, .int .u64 0, .int .u64 0, .int .u64 0, .int .u64 0, .int .u64 0, .int .u64 0, .int .u64 0, .int .u64 0, .int .u64 0, .int .u64 0, .int .u64 0] 43)).heap.size = w.heap.size + 1 by simp] at this
    exact this
  have HL0 : Hid (Pt (((w.alloc (.cells #[.int .u64 0, .int .u64 0, .int .u64 0, .int .u64 0, .int .u64 0, .int .u64 0, .int .u64 0, .int .u64 0, .int .u64 0, .int .u64 0, .int .u64 0, .int .u64 0, .int .u64 0, .int .u64 0, .int .u64 0, .int .u64 0, .int .u64 0, .int .u64 0, .int .u64 0, .int .u64 0] 43)).alloc (.cells #[.int .u64 0, .int .u64 0, .int .u64 0, .int .u64 0, .int .u64 0, .int .u64 0, .int .u64 0, .int .u64 0, .int .u64 0, .int .u64 0, .int .u64 0, .int .u64 0, .int .u64 0, .int .u64 0, .int .u64 0, .int .u64 0, .int .u64 0, .int .u64 0, .int .u64 0, .int .u64 0] 43)).alloc (.cells #[.int .u64 0, .int .u64 0, .int .u64 0, .int .u64 0, .int .u64 0, .int .u64 0, .int .u64 0, .int .u64 0, .int .u64 0, .int .u64 0, .int .u64 0, .int .u64 0, .int .u64 0, .int .u64 0, .int .u64 0, .int .u64 0, .int .u64 0, .int .u64 0, .int .u64 0, .int .u64 0] 43)) (w.heap.size + 1 + 1) [0, 0, 0, 0, 0] [0, 0, 0, 0, 0] [0, 0, 0, 0, 0] [0, 0, 0, 0, 0]) := by
    have := pt_newV ((w.alloc (.cells #[.int .u64 0, .int .u64 0, .int .u64 0, .int .u64 0, .int .u64 0, .int .u64 0, .int .u64 0, .int .u64 0, .int .u64 0, .int .u64 0, .int .u64 0, .int .u64 0, .int .u64 0, .int .u64 0, .int .u64 0, .int .u64 0, .int .u64 0, .int .u64 0, .int .u64 0, .int .u64 0] 43)).alloc (.cells #[.int .u64 0, .int .u64 0, .int .u64 0, .int .u64 0, .int .u64 0, .int .u64 0, .int .u64 0, .int .u64 0, .int .u64 0, .int .u64 0, .int .u64 0, .int .u64 0, .int .u64 0, .int .u64 0, .int .u64 0, .int .u64 0, .int .u64 0, .int .u64 0, .int .u64 0, .int .u64 0] 43))
    rw [show ((w.alloc (.cells #[.int .u64 0, .int .u64 0, .int .u64 0, .int .u64 0, .int .u64 0, .int .u64 0, .int .u64 0, .int .u64 0, .int .u64 0, .int .u64 0, .int .u64 0, .int .u64 0, .int .u64 0, .int .u64 0, .int .u64 0, .int .u64 0, .int .u64 0, .int .u64 0, .int .u64 0, .int .u64 0] 43)).alloc (.cells #[.int .u64 0, .int .u64 0, .int .u64 0, .int .u64 0, .int .u64 0, .int .u64 0, .int .u64 0, .int .u64 0, .int .u64 0, .int .u64 0, .int .u64 0, .int .u64 0, .int .u64 0, .int .u64 0, .int .u64 0, .int .u64 0, .int .u64 0, .int .u64 0, .int .u64 0, .int .u64 0] 43)).heap.size = w.heap.size + 1 + 1 by simp] at this
    exact this
  have HP := hid_ofS hp
  have HM := hid_ofS hm
  have HS := hid_ofS hs
  have HZ := hid_ofS (And.intro zp (And.intro zm zs))
  have HT := hid_ofS (And.intro hT h0)
  clear hp hm hs zp zm zs hT h0
  by_cases h64 : ns = 64
  · subst h64
    have hslh := fun w => run_sliceHi w bs os cs hcs
    have hsll := fun w => run_sliceLo w bs os cs hcs
    have hdl : (sig.drop 32).length = 32 := by rw [List.length_drop, hsl]
    have htl : (sig.take 32).length = 32 := by rw [List.length_take, hsl]; rfl
    go_enter Tryd.func6, Tryd.ntmps6
    go_wp2_with fail
    generalize (((w.alloc (.cells #[.int .u64 0, .int .u64 0, .int .u64 0, .int .u64 0, .int .u64 0, .int .u64 0, .int .u64 0, .int .u64 0, .int .u64 0, .int .u64 0, .int .u64 0, .int .u64 0, .int .u64 0, .int .u64 0, .int .u64 0, .int .u64 0, .int .u64 0, .int .u64 0, .int .u64 0, .int .u64 0] 43)).alloc (.cells #[.int .u64 0, .int .u64 0, .int .u64 0, .int .u64 0, .int .u64 0, .int .u64 0, .int .u64 0, .int .u64 0, .int .u64 0, .int .u64 0, .int .u64 0, .int .u64 0, .int .u64 0, .int .u64 0, .int .u64 0, .int .u64 0, .int .u64 0, .int .u64 0, .int .u64 0, .int .u64 0] 43)).alloc (.cells #[.int .u64 0, .int .u64 0, .int .u64 0, .int .u64 0, .int .u64 0, .int .u64 0, .int .u64 0, .int .u64 0, .int .u64 0, .int .u64 0, .int .u64 0, .int .u64 0, .int .u64 0, .int .u64 0, .int .u64 0, .int .u64 0, .int .u64 0, .int .u64 0, .int .u64 0, .int .u64 0] 43)) = w0 at *
    refine (iok2_any (some ⟨bs, os + 32, none⟩) 32 (cs - 32) (sig.drop 32) _ hdl ((HS.out.below HB0.out).drop 32).at_ (byte_drop HZ.out.2.2 32)).mono ?_
    rintro e w1 ⟨rfl, b1⟩
    have HB1 : Hid (Below w.heap.size w w1) := HB0.out.trans (b1.mono HB0.out.size)
    have HK1 : Hid (Pt w1 w.heap.size [0, 0, 0, 0, 0] [0, 0, 0, 0, 0] [0, 0, 0, 0, 0] [0, 0, 0, 0, 0]) := HK0.out.below b1 HK0.out.row.lt
    have HN1 : Hid (Pt w1 (w.heap.size + 1) [0, 0, 0, 0, 0] [0, 0, 0, 0, 0] [0, 0, 0, 0, 0] [0, 0, 0, 0, 0]) := HN0.out.below b1 HN0.out.row.lt
    have HL1 : Hid (Pt w1 (w.heap.size + 1 + 1) [0, 0, 0, 0, 0] [0, 0, 0, 0, 0] [0, 0, 0, 0, 0] [0, 0, 0, 0, 0]) := HL0.out.below b1 HL0.out.row.lt
    have hqq : decide (32 = 32 ∧ val 256 (sig.drop 32) < bigL) = decide (val 256 (sig.drop 32) < bigL) := by simp
    rw [hqq]
    clear b1 HB0 HK0 HN0 HL0 hqq
    cases hq : decide (val 256 (sig.drop 32) < bigL) with
    | false =>
      have HV := hid_ofS (vsR_q (pub := pub) (msg := msg) hq)
      clear hq HK1 HN1 HL1
      go_wp2
      go_ret
      exact ⟨by rw [HV.out]; rfl, HB1.out⟩
    | true =>
      have HQ := hid_ofS hq
      clear hq
      go_wp2_with fail
      refine (decode_any w.heap.size _ _ _ _ (some ⟨bp, op, none⟩) np cp pub _ hpl bnp (HP.out.below HB1.out).at_ HZ.out.1 HK1.out).mono ?_
      rintro e w2 ⟨x1, y1, z1, t1, P1, hw1, rfl, hv1⟩
      have HB2 : Hid (Below w.heap.size w w2) := HB1.out.trans (hw1.below w.heap.size (Nat.le_refl _) HB1.out.size)
      have HK2 : Hid (Pt w2 w.heap.size x1 y1 z1 t1) := P1
      have HN2 : Hid (Pt w2 (w.heap.size + 1) [0, 0, 0, 0, 0] [0, 0, 0, 0, 0] [0, 0, 0, 0, 0] [0, 0, 0, 0, 0]) := HN1.out.wrh2 hw1 (by omega)
      have HL2 : Hid (Pt w2 (w.heap.size + 1 + 1) [0, 0, 0, 0, 0] [0, 0, 0, 0, 0] [0, 0, 0, 0, 0] [0, 0, 0, 0, 0]) := HL1.out.wrh2 hw1 (by omega)
      have HV1 := hid_ofS hv1
      rw [dec_same pub HZ.out.1]
      clear hw1 P1 hv1 HB1 HK1 HN1 HL1
      cases hb : mB pub mdD with
      | false =>
        have HV := hid_ofS (vsR_p (msg := msg) (sig := sig) hb)
        clear hb HK2 HN2 HL2 HV1
        go_wp2
        go_ret
        exact ⟨by rw [HV.out]; rfl, HB2.out⟩
      | true =>
        have HE1 := hid_ofS (dc_pt HZ.out.1 hb HV1.out)
        have HBP := hid_ofS hb
        obtain rfl : np = 32 := by rw [← hpl]; exact (mB_len2 hb).1
        clear hb HV1
        go_wp2_with fail
        refine (decode_any (w.heap.size + 1) _ _ _ _ (some ⟨bs, os, none⟩) 32 cs (sig.take 32) _ htl (by decide) ((HS.out.below HB2.out).take 32).at_ (byte_take HZ.out.2.2 32) HN2.out).mono ?_
        rintro e w3 ⟨x2, y2, z2, t2, P2, hw2, rfl, hv2⟩
        have HB3 : Hid (Below w.heap.size w w3) := HB2.out.trans (hw2.below w.heap.size (by omega) HB2.out.size)
        have HK3 : Hid (Pt w3 w.heap.size x1 y1 z1 t1) := HK2.out.wrh2 hw2 (by omega)
        have HN3 : Hid (Pt w3 (w.heap.size + 1) x2 y2 z2 t2) := P2
        have HL3 : Hid (Pt w3 (w.heap.size + 1 + 1) [0, 0, 0, 0, 0] [0, 0, 0, 0, 0] [0, 0, 0, 0, 0] [0, 0, 0, 0, 0]) := HL2.out.wrh2 hw2 (by omega)
        have HV2 := hid_ofS hv2
        rw [dec_same (sig.take 32) (byte_take HZ.out.2.2 32)]
        clear hw2 P2 hv2 HB2 HK2 HN2 HL2
        cases hb2 : mB (sig.take 32) mdD with
        | false =>
          have HV := hid_ofS (vsR_r (msg := msg) (pub := pub) hb2)
          clear hb2 HK3 HN3 HL3 HV2
          go_wp2
          go_ret
          exact ⟨by rw [HV.out]; rfl, HB3.out⟩
        | true =>
          have HE2 := hid_ofS (dc_pt (byte_take HZ.out.2.2 32) hb2 HV2.out)
          have HVR := hid_ofS (vsR_e (msg := msg) hsl HQ.out HBP.out hb2)
          clear hb2 HV2 HQ HBP
          go_wp2_with fail
          refine (ibas_any _).mono ?_
          rintro e w4 ⟨v4, b4s, rfl, o4, c1, c2, c3, b4⟩
          obtain rfl := bB_of c1 c2 c3
          obtain ⟨g4, c4, rfl, hA4, hc4⟩ := PtA.of_own o4
          have HB4 : Hid (Below w.heap.size w w4) := HB3.out.trans (b4.mono HB3.out.size)
          have HK4 : Hid (Pt w4 w.heap.size x1 y1 z1 t1) := HK3.out.below b4 HK3.out.row.lt
          have HN4 : Hid (Pt w4 (w.heap.size + 1) x2 y2 z2 t2) := HN3.out.below b4 HN3.out.row.lt
          have HL4 : Hid (Pt w4 (w.heap.size + 1 + 1) [0, 0, 0, 0, 0] [0, 0, 0, 0, 0] [0, 0, 0, 0, 0] [0, 0, 0, 0, 0]) := HL3.out.below b4 HL3.out.row.lt
          have HA4 := hid_ofS hA4
          rw [bB_len]
          clear o4 c1 c2 c3 b4 hA4 hc4 HB3 HK3 HN3 HL3
          go_wp2_with fail
          refine (decode_any (w.heap.size + 1 + 1) _ _ _ _ (some ⟨g4, 0, none⟩) 32 c4 bB _ bB_len (by decide) HA4.out.at_ bB_byte HL4.out).mono ?_
          rintro e w5 ⟨x3, y3, z3, t3, P3, hw3, rfl, hv3⟩
          have HB5 : Hid (Below w.heap.size w w5) := HB4.out.trans (hw3.below w.heap.size (by omega) HB4.out.size)
          have HK5 : Hid (Pt w5 w.heap.size x1 y1 z1 t1) := HK4.out.wrh2 hw3 (by omega)
          have HN5 : Hid (Pt w5 (w.heap.size + 1) x2 y2 z2 t2) := HN4.out.wrh2 hw3 (by omega)
          have HL5 : Hid (Pt w5 (w.heap.size + 1 + 1) x3 y3 z3 t3) := P3
          have HE3 := hid_ofS (dc_pt bB_byte bB_ok hv3)
          generalize dcR bB = rb at *
          clear hw3 P3 hv3 HB4 HK4 HN4 HL4 HA4
          go_wp2_with fail
          refine (nof_any (some ⟨bs, os + 32, none⟩) 32 (cs - 32) (sig.drop 32) _ hdl (by decide) (by decide) ((HS.out.below HB5.out).drop 32).at_ (byte_drop HZ.out.2.2 32)).mono ?_
          rintro e w6 ⟨ms, hl, hw, hv, rfl, b6⟩
          rw [List.take_of_length_le (by omega)] at hv
          have HB6 : Hid (Below w.heap.size w w6) := HB5.out.trans (b6.mono HB5.out.size)
          have HK6 : Hid (Pt w6 w.heap.size x1 y1 z1 t1) := HK5.out.below b6 HK5.out.row.lt
          have HN6 : Hid (Pt w6 (w.heap.size + 1) x2 y2 z2 t2) := HN5.out.below b6 HN5.out.row.lt
          have HL6 : Hid (Pt w6 (w.heap.size + 1 + 1) x3 y3 z3 t3) := HL5.out.below b6 HL5.out.row.lt
          have CM := hid_ofS (multiply_any (w.heap.size + 1 + 1) x3 y3 z3 t3 ms w6 HL6.out hl hw)
          rw [HE3.out, hv] at CM
          clear b6 HB5 HK5 HN5 HL5 hl hw hv
          go_wp2_with fail
          refine CM.out.mono ?_
          rintro e w7 ⟨x4, y4, z4, t4, P4, hw4, rfl, hq4⟩
          have HB7 : Hid (Below w.heap.size w w7) := HB6.out.trans (hw4.below w.heap.size (by omega) HB6.out.size)
          have HK7 : Hid (Pt w7 w.heap.size x1 y1 z1 t1) := HK6.out.wrh2 hw4 (by omega)
          have HN7 : Hid (Pt w7 (w.heap.size + 1) x2 y2 z2 t2) := HN6.out.wrh2 hw4 (by omega)
          have HL7 : Hid (Pt w7 (w.heap.size + 1 + 1) x4 y4 z4 t4) := P4
          have HQ4 := hid_ofS hq4
          clear P4 hw4 hq4 CM HB6 HK6 HN6 HL6
          have hfl : [sig.take 32, pub, msg].flatten = sig.take 32 ++ pub ++ msg := by simp
          have hfn : (sig.take 32 ++ pub ++ msg).length = 32 + 32 + nm := by rw [List.length_append, List.length_append, htl, hpl, hml]
          have HAL : Hid (Below w7.heap.size w7 (w7.alloc (.cells #[.slice (some ⟨bs, os, none⟩) 32 cs, .slice (some ⟨bp, op, none⟩) 32 cp, .slice (some ⟨bm, om, none⟩) nm cm] 22))) := below_new3 _ _
          have CC : Hid (Calls Tryd.prog 25 #[.slice (some ⟨w7.heap.size, 0, none⟩) 3 3] (w7.alloc (.cells #[.slice (some ⟨bs, os, none⟩) 32 cs, .slice (some ⟨bp, op, none⟩) 32 cp, .slice (some ⟨bm, om, none⟩) nm cm] 22)) _) :=
            conc_any w7.heap.size 3 3 [.slice (some ⟨bs, os, none⟩) 32 cs, .slice (some ⟨bp, op, none⟩) 32 cp, .slice (some ⟨bm, om, none⟩) nm cm] [sig.take 32, pub, msg] _ rfl (by simp)
              (fun i hi => by
                rw [cell_of_row _ _ i _ _ _ (heap_alloc_new w7 _)]
                match i, hi with
                | 0, _ => rfl
                | 1, _ => rfl
                | 2, _ => rfl)
              (fun i hi => by
                have bx := HB7.out.trans (HAL.out.mono HB7.out.size)
                match i, hi with
                | 0, _ => exact ((HS.out.below bx).take 32).part 32 cs htl
                | 1, _ => exact (HP.out.below bx).part 32 cp hpl
                | 2, _ => exact (HM.out.below bx).part nm cm hml)
              (by rw [hfl, hfn]; omega) (by rw [hfl, hfn]; omega) (by decide)
          rw [hfl] at CC
          have HFN := hid_ofS hfn
          clear hfl hfn
          go_wp2_with fail
          refine CC.out.mono ?_
          rintro e w8 ⟨v8, rfl, o8, b8⟩
          obtain ⟨g8, c8, rfl, hA8, hc8⟩ := PtA.of_own o8
          have b78 : Below w7.heap.size w7 w8 := HAL.out.trans (b8.mono HAL.out.size)
          have HB8 : Hid (Below w.heap.size w w8) := HB7.out.trans (b78.mono HB7.out.size)
          have HK8 : Hid (Pt w8 w.heap.size x1 y1 z1 t1) := HK7.out.below b78 HK7.out.row.lt
          have HN8 : Hid (Pt w8 (w.heap.size + 1) x2 y2 z2 t2) := HN7.out.below b78 HN7.out.row.lt
          have HL8 : Hid (Pt w8 (w.heap.size + 1 + 1) x4 y4 z4 t4) := HL7.out.below b78 HL7.out.row.lt
          have HBY : Hid (Byte (sig.take 32 ++ pub ++ msg)) := fun z hz => by
            simp only [List.mem_append] at hz
            rcases hz with (h | h) | h
            · exact byte_take HZ.out.2.2 32 z h
            · exact HZ.out.1 z h
            · exact HZ.out.2.1 z h
          have CH := hid_ofS (shaI_any (some ⟨g8, 0, none⟩) _ c8 (sig.take 32 ++ pub ++ msg) w8 rfl hA8.at_ HBY.out (by rw [HFN.out]; omega) hc8 (tab_keepV HT.out.1 HT.out.2 HB8.out) (Nat.lt_of_lt_of_le HT.out.2 HB8.out.size))
          clear o8 b8 b78 hA8 hc8 CC HAL HB7 HK7 HN7 HL7
          rw [HFN.out] at CH ⊢
          go_wp2_with fail
          refine CH.out.mono ?_
          rintro e w9 ⟨v9, rfl, o9, b9⟩
          obtain ⟨g9, c9, rfl, hA9, hc9⟩ := PtA.of_own o9
          have HB9 : Hid (Below w.heap.size w w9) := HB8.out.trans (b9.mono HB8.out.size)
          have HK9 : Hid (Pt w9 w.heap.size x1 y1 z1 t1) := HK8.out.below b9 HK8.out.row.lt
          have HN9 : Hid (Pt w9 (w.heap.size + 1) x2 y2 z2 t2) := HN8.out.below b9 HN8.out.row.lt
          have HL9 : Hid (Pt w9 (w.heap.size + 1 + 1) x4 y4 z4 t4) := HL8.out.below b9 HL8.out.row.lt
          have hsl9 : (shaL (sig.take 32 ++ pub ++ msg)).length = 64 := by unfold shaL; rw [txtW_len, (finL_w8 _ _ _).1]
          have CR := hid_ofS (rnum_any (some ⟨g9, 0, none⟩) 64 c9 (shaL (sig.take 32 ++ pub ++ msg)) w9 hsl9 (by decide) hA9.at_ (by unfold shaL; exact txtW_byte _))
          rw [hsl9]
          clear o9 b9 hA9 hc9 CH HB8 HK8 HN8 HL8 hsl9 HBY
          go_wp2_with fail
          refine CR.out.mono ?_
          rintro e w10 ⟨ks, hl, hw, hv, rfl, b10⟩
          have HB10 : Hid (Below w.heap.size w w10) := HB9.out.trans (b10.mono HB9.out.size)
          have HK10 : Hid (Pt w10 w.heap.size x1 y1 z1 t1) := HK9.out.below b10 HK9.out.row.lt
          have HN10 : Hid (Pt w10 (w.heap.size + 1) x2 y2 z2 t2) := HN9.out.below b10 HN9.out.row.lt
          have HL10 : Hid (Pt w10 (w.heap.size + 1 + 1) x4 y4 z4 t4) := HL9.out.below b10 HL9.out.row.lt
          have CM := hid_ofS (multiply_any w.heap.size x1 y1 z1 t1 ks w10 HK10.out hl hw)
          rw [HE1.out, show val 18446744073709551616 ks = hsV pub msg sig from hv] at CM
          clear b10 HB9 HK9 HN9 HL9 CR hl hw hv
          go_wp2_with fail
          refine CM.out.mono ?_
          rintro e w11 ⟨x5, y5, z5, t5, P5, hw5, rfl, hq5⟩
          have HB11 : Hid (Below w.heap.size w w11) := HB10.out.trans (hw5.below w.heap.size (Nat.le_refl _) HB10.out.size)
          have HK11 : Hid (Pt w11 w.heap.size x5 y5 z5 t5) := P5
          have HN11 : Hid (Pt w11 (w.heap.size + 1) x2 y2 z2 t2) := HN10.out.wrh2 hw5 (by omega)
          have HL11 : Hid (Pt w11 (w.heap.size + 1 + 1) x4 y4 z4 t4) := HL10.out.wrh2 hw5 (by omega)
          have HQ5 := hid_ofS hq5
          clear P5 hw5 hq5 CM HB10 HK10 HN10 HL10
          have CA := hid_ofS (add_any (w.heap.size + 1) w.heap.size x2 y2 z2 t2 x5 y5 z5 t5 w11 HN11.out HK11.out)
          go_wp2_with fail
          refine CA.out.mono ?_
          intro e w12 h12
          obtain ⟨x6, y6, z6, t6, P6, hw6, rfl, hq6⟩ := h12.q4
          have HB12 : Hid (Below w.heap.size w w12) := HB11.out.trans (hw6.below w.heap.size (by omega) HB11.out.size)
          have HN12 : Hid (Pt w12 (w.heap.size + 1) x6 y6 z6 t6) := P6
          have HL12 : Hid (Pt w12 (w.heap.size + 1 + 1) x4 y4 z4 t4) := HL11.out.wrh2 hw6 (by omega)
          have HEQ : Hid (decide (cdV (ev x4) (ev y4) (ev z4) = cdV (ev x6) (ev y6) (ev z6)) = vsR pub msg sig) := by
            show _ = _
            have hp1 : Rd (ptQ pub) := by rw [← HE1.out]; exact ev_rd _ _ _ _
            have hp2 : Rd (ptQ (sig.take 32)) := by rw [← HE2.out]; exact ev_rd _ _ _ _
            have hp3 : Rd (ptQ bB) := by rw [← HE3.out]; exact ev_rd _ _ _ _
            rw [HVR.out, ← eqn_same pub msg sig hp1 hp2 hp3]
            unfold eqnI
            rw [← HQ4.out, ← HQ5.out, ← HE2.out, ← hq6]
            rfl
          clear h12 P6 hw6 hq6 CA HB11 HK11 HN11 HL11 HE1 HE2 HE3 HQ4 HQ5 HVR
          obtain ⟨vr, hvr⟩ : ∃ v, v = vsR pub msg sig := ⟨_, rfl⟩
          rw [← hvr] at HEQ
          have HVV := hid_ofS hvr
          clear hvr
          have CL := hid_ofS (pcode_any (w.heap.size + 1 + 1) x4 y4 z4 t4 w12 HL12.out)
          generalize cdV (ev x4) (ev y4) (ev z4) = V1 at *
          go_wp2_with fail
          refine CL.out.mono ?_
          rintro e w13 ⟨ls, hl1, hw1, hv1, rfl, b13⟩
          have HB13 : Hid (Below w.heap.size w w13) := HB12.out.trans (b13.mono HB12.out.size)
          have HN13 : Hid (Pt w13 (w.heap.size + 1) x6 y6 z6 t6) := HN12.out.below b13 HN12.out.row.lt
          have CR := hid_ofS (pcode_any (w.heap.size + 1) x6 y6 z6 t6 w13 HN13.out)
          generalize cdV (ev x6) (ev y6) (ev z6) = V2 at *
          have HW1 := hid_ofS (And.intro hw1 hv1)
          clear b13 CL HB12 HN12 HL12 hw1 hv1
          go_wp2_with fail
          refine CR.out.mono ?_
          rintro e w14 ⟨rs, hl2, hw2, hv2, rfl, b14⟩
          have HB14 : Hid (Below w.heap.size w w14) := HB13.out.trans (b14.mono HB13.out.size)
          have HQ : Hid (decide (ls = rs) = vr) := by
            show _ = _
            rw [← HEQ.out]
            obtain ⟨hw1, hv1⟩ := HW1.out
            by_cases h : ls = rs
            · rw [decide_eq_true h, decide_eq_true (by rw [← hv1, ← hv2, h])]
            · rw [decide_eq_false h, decide_eq_false (fun e => h (val_inj (B := 18446744073709551616) (by decide) hw1 hw2 (by omega) (by rw [hv1, hv2, e])))]
          clear b14 CR HB13 HN13 HW1 HEQ hw2 hv2
          go_wp2_with (simp only [run_eqW _ 9998 4 46 Tryd.underlying46 ls rs hl1 hl2])
          rw [HQ.out]
          clear HQ
          simp only [Result.andThen_ok]
          go_simp
          go_wp2
          go_ret
          exact ⟨by rw [← HVV.out]; rfl, HB14.out⟩
  · have HV := hid_ofS (vsR_64 (pub := pub) (msg := msg) (sig := sig) (by rw [hsl]; exact h64))
    have h65 : ¬ ((ns : Int) = 64) := by omega
    have h66 : ((ns : Int) != 64) = true := by simpa using h65
    clear HK0 HN0 HL0
    go_enter Tryd.func6, Tryd.ntmps6
    go_wp2
    go_ret
    exact ⟨by rw [HV.out]; rfl, HB0.out⟩
end Go.Proofs.YtclmhdhblghfnaaDoor
