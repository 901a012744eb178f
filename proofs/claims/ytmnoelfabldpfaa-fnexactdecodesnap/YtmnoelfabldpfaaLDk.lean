/-
  Own work round the shell that the kit's program writes: the law on DecodeSnap (written by wip/mkldk.py).
-/
import Derived.Test.YtmnoelfabldpfaaDkT
import Derived.Test.YtmnoelfabldpfaaDkK
import Derived.Test.YtmnoelfabldpfaaMEqSn
import Derived.Test.YtmnoelfabldpfaaMReg8
import Derived.Deep.WholeRow
import Derived.WalkKit
import Derived.ProofKit
import Derived.OpenShut
import Derived.ShutString
import Derived.ChangeOld
import Derived.Below
namespace Go.Proofs.Ytmnoelfabldpfaa.ldk
open Go.ChangeShapes Go.WideShapes Go.ChangeAt Go.RowKit
open Go.ChangeMaps (open_string shut_string)
set_option linter.unusedVariables false

theorem own : ownKnob Try.prog.godebug = none := by kernel_rfl
theorem laidOut : laidOutB Try.prog = true := by kernel_rfl

def IsRow (k : IntKind) (w : World) (a : Option Addr) (len cap : Nat) (zs : List Int) : Prop :=
  (a = none ∧ len = 0 ∧ cap = 0 ∧ zs = []) ∨
  ∃ x, a = some x ∧ len ≤ cap ∧ cap ≤ maxLen ∧ zs.length = cap ∧ (∀ i, i < zs.length → w.cell? (x.add i) = some (.int k (zs.getD i 0))) ∧ ∀ n ∈ zs, (Lit.int k n).wf = true

theorem IsRow.at_ {w : World} {a : Option Addr} {len cap : Nat} {z : List Int} (h : IsRow .u8 w a len cap z) : ∃ zs, zs.length = len ∧ Byte zs ∧ At .u8 w a zs := by
  rcases h with ⟨rfl, rfl, rfl, rfl⟩ | ⟨x, rfl, hl, hm, hz, hc, hw⟩
  · exact ⟨[], rfl, by simp [Byte], .inl rfl⟩
  · refine ⟨z.take len, by simp; omega, fun n hn => ?_, ?_⟩
    · have := hw n (List.mem_of_mem_take hn)
      simp [Lit.wf, IntKind.min, IntKind.max, IntKind.signed, IntKind.bits] at this
      omega
    · by_cases h0 : len = 0
      · left; simp [h0]
      · right
        obtain ⟨b, off, spot⟩ := x
        have hc0 := hc 0 (by omega)
        have hs : spot = none := by simpa [Addr.add] using World.cell?_spot hc0
        subst hs
        refine ⟨b, off, rfl, block_lt_of_cell (a := (⟨b, off, none⟩ : Addr).add 0) hc0, fun i hi => ?_⟩
        have hi' : i < len := by simp at hi; omega
        have := hc i (by omega)
        rw [Addr.add_lit] at this
        rw [this]
        simp [List.getD, hi']


theorem row_of_owns {w : World} {B g n : Nat} {zs : List Int} {e : TypeId} (h : w.ownsRow B e 1 (.slice (some ⟨g, 0, none⟩) n n) n (zs.map (Value.int .u8))) : w.heap[g]? = some (.cells (zs.map (Value.int .u8)).toArray e (0, 0)) := by
  obtain ⟨h1, ⟨h2, _⟩ | ⟨g', cap, cur, hv, hb, hh, hc, hm, hs, ht⟩⟩ := h
  · cases h2
  · cases hv
    rw [List.take_of_length_le (by simp; omega)] at ht
    rw [hh, ← ht]

set_option maxHeartbeats 400000 in
set_option maxRecDepth 100000 in
set_option maxHeartbeats 8000000 in
theorem walk (a0 : Option Addr) (len0 cap0 : Nat) (z0 : List Int) (w : World) (w0 : IsRow .u8 w a0 len0 cap0 z0) :
    Calls Try.prog 3 #[.slice a0 len0 cap0] w fun e w' => e = .returned (.bool true) ∧ Below w.heap.size w w' := by
  by_cases hl : (1048576 : Int) < (len0 : Int)
  · go_enter Try.func3, Try.ntmps3
    go_wp2
    go_ret
    exact ⟨rfl, Below.refl _ _⟩
  · obtain ⟨zs, hn, hz, ha⟩ := IsRow.at_ w0
    have hl' : len0 ≤ 1048576 := by omega
    have HZ : Hid (zs.length = len0 ∧ Byte zs ∧ At .u8 w a0 zs) := ⟨hn, hz, ha⟩
    have HSR : Hid ((Try.prog.info? 28).map (·.size) = some 5) := by show _ = _; kernel_rfl
    have hbd := dkF_bd zs
    clear w0 hn hz ha
    obtain ⟨r, hr⟩ : ∃ r, dkF zs = r := ⟨_, rfl⟩
    rw [hr] at hbd
    have HR : Hid (dkF zs = r) := hr
    clear hr
    obtain ⟨ok, gn, tl, D, U⟩ := r
    have HBD : Hid (D.length ≤ 256 ∧ U.length ≤ 256) := hbd
    clear hbd
    go_enter Try.func3, Try.ntmps3
    go_wp2_with fail
    refine (toB_any a0 len0 cap0 zs _ HZ.out.1 hl' HZ.out.2.2).mono ?_
    rintro e w1 ⟨rfl, ho1, hb1⟩
    have A1 : At .u8 w1 (some ⟨w.heap.size, 0, none⟩) zs := by obtain ⟨a, cap, h, _, _, _, h'⟩ := At.of_owns ho1; cases h; exact h'
    clear ho1
    go_wp2_with fail
    refine (sdk_any _ len0 len0 zs _ HZ.out.1 hl' A1 HZ.out.2.1).mono ?_
    rintro e w2 ⟨v, rfl, hv, hb2⟩
    rw [HR.out] at hv
    obtain ⟨pD, nD, pcD, pU, nU, pcU, rfl, hpD, hpU, hnD, hnU, lpD, lpU⟩ := hv
    have hB2 : Below w.heap.size w w2 := hb1.trans (hb2.mono hb1.size)
    have b3 := below_new w2 (.cells #[.bool ok, .int .u32 gn, .int .u32 tl, .slice pD nD pcD, .slice pU nU pcU] 28)
    have hwe : (w2.alloc (.cells #[.bool false, .int .u32 0, .int .u32 0, .slice none 0 0, .slice none 0 0] 28)).setRow w2.heap.size #[.bool ok, .int .u32 gn, .int .u32 tl, .slice pD nD pcD, .slice pU nU pcU] = w2.alloc (.cells #[.bool ok, .int .u32 gn, .int .u32 tl, .slice pD nD pcD, .slice pU nU pcU] 28) := World.setRow_alloc_new _ _ _ _
    have HWE := hid_of hwe
    have HN : Hid (D.length = nD ∧ U.length = nU) := ⟨hnD, hnU⟩
    have hmD : nD ≤ 1048576 := by have := HBD.out.1; have h : D.length = nD := hnD; omega
    have hmU : nU ≤ 1048576 := by have := HBD.out.2; have h : U.length = nU := hnU; omega
    have HK : Hid (nD ≤ 256 ∧ nU ≤ 256) := ⟨by have := HBD.out.1; have h : D.length = nD := hnD; omega, by have := HBD.out.2; have h : U.length = nU := hnU; omega⟩
    have HP2 : Hid (At .i64 w2 pD D ∧ At .i64 w2 pU U) := ⟨hpD, hpU⟩
    have HB2 : Hid (Below w.heap.size w w2) := hB2
    have HNB : Hid ((w2.alloc (.cells #[.bool false, .int .u32 0, .int .u32 0, .slice none 0 0, .slice none 0 0] 28)).heap[w2.heap.size]? = some (.cells #[.bool false, .int .u32 0, .int .u32 0, .slice none 0 0, .slice none 0 0] 28 (0, 0))) := heap_alloc_new w2 _
    clear hb1 hb2 A1 hpD hpU hnD hnU lpD lpU hB2 hwe
    go_upto_region 4 with (first
      | (refine wpList_store_row rfl 28 (.tmp 3) (.tmp 15) rfl w2.heap.size #[.bool ok, .int .u32 gn, .int .u32 tl, .slice pD nD pcD, .slice pU nU pcU] rfl rfl 28 _ HNB.out HSR.out rfl (all5s _ _ _ _ _ _ _ _ _) ?_)
      | fail)
    rw [HWE.out]
    have HB3 : Hid (Below w.heap.size w (w2.alloc (.cells #[.bool ok, .int .u32 gn, .int .u32 tl, .slice pD nD pcD, .slice pU nU pcU] 28))) := HB2.out.trans (b3.mono HB2.out.size)
    have HP3 : Hid (At .i64 (w2.alloc (.cells #[.bool ok, .int .u32 gn, .int .u32 tl, .slice pD nD pcD, .slice pU nU pcU] 28)) pD D ∧ At .i64 (w2.alloc (.cells #[.bool ok, .int .u32 gn, .int .u32 tl, .slice pD nD pcD, .slice pU nU pcU] 28)) pU U) := ⟨HP2.out.1.below b3, HP2.out.2.below b3⟩
    have HX3 : Hid ((w2.alloc (.cells #[.bool ok, .int .u32 gn, .int .u32 tl, .slice pD nD pcD, .slice pU nU pcU] 28)).heap[w2.heap.size]? = some (.cells #[.bool ok, .int .u32 gn, .int .u32 tl, .slice pD nD pcD, .slice pU nU pcU] 28 (0, 0))) := heap_alloc_new w2 _
    clear HWE HNB HP2 HB2 b3
    generalize w2.alloc (.cells #[.bool ok, .int .u32 gn, .int .u32 tl, .slice pD nD pcD, .slice pU nU pcU] 28) = w3 at *
    generalize w2.heap.size = G0 at *
    go_wp2_with fail
    refine (toB_any a0 len0 cap0 zs _ HZ.out.1 hl' (HZ.out.2.2.below HB3.out)).mono ?_
    rintro e w4 ⟨rfl, ho4, hb4⟩
    have hrX : Row w4 w3.heap.size 5 zs := row_of_owns ho4
    clear ho4
    obtain ⟨X, hX⟩ : ∃ X, w3.heap.size = X := ⟨_, rfl⟩
    have hX4 : X < w4.heap.size := by rw [← hX]; exact hrX.lt
    have HG0 : Hid (G0 < X) := by show _ < _; rw [← hX]; exact (Array.getElem?_eq_some_iff.1 HX3.out).1
    rw [hX] at hrX
    rw [hX]
    have hb4' : Below X w3 w4 := hX ▸ hb4
    go_wp2_with fail
    refine (idk_any _ len0 len0 zs _ HZ.out.1 hl' (Nat.le_refl _) hrX.at_ HZ.out.2.1).mono ?_
    rintro e w5 ⟨v, rfl, hv, hb5⟩
    rw [HR.out] at hv
    obtain ⟨aD, mD, cD, aU, mU, cU, rfl, s3⟩ := hv
    have e1 : nD = mD := by have h2 := HN.out.1; have h3 : D.length = mD := s3.nd; omega
    have e2 : nU = mU := by have h2 := HN.out.2; have h3 : U.length = mU := s3.nu; omega
    subst e1
    subst e2
    have b6 := below_new w5 (.cells #[.bool ok, .int .u32 gn, .int .u32 tl, .slice aD nD cD, .slice aU nU cU] 28)
    have hwe : (w5.alloc (.cells #[.bool false, .int .u32 0, .int .u32 0, .slice none 0 0, .slice none 0 0] 28)).setRow w5.heap.size #[.bool ok, .int .u32 gn, .int .u32 tl, .slice aD nD cD, .slice aU nU cU] = w5.alloc (.cells #[.bool ok, .int .u32 gn, .int .u32 tl, .slice aD nD cD, .slice aU nU cU] 28) := World.setRow_alloc_new _ _ _ _
    have HWE := hid_of hwe
    have HNB : Hid ((w5.alloc (.cells #[.bool false, .int .u32 0, .int .u32 0, .slice none 0 0, .slice none 0 0] 28)).heap[w5.heap.size]? = some (.cells #[.bool false, .int .u32 0, .int .u32 0, .slice none 0 0, .slice none 0 0] 28 (0, 0))) := heap_alloc_new w5 _
    have hB5 : Below X w3 w5 := hb4'.trans (hb5.mono (Nat.le_of_lt hX4))
    have hr5 : Row w5 X 5 zs := row_below hrX hb5 hX4
    have hB6 : Below X w3 (w5.alloc (.cells #[.bool ok, .int .u32 gn, .int .u32 tl, .slice aD nD cD, .slice aU nU cU] 28)) := hB5.trans (b6.mono (by have := hB5.size; omega))
    have HX : Hid (w3.heap.size = X) := hX
    have HXS : Hid (∀ w', Below X w3 w' → X ≤ w'.heap.size) := fun w' b => by have := b.size; omega
    have HS5 : Hid (S3 w4.heap.size w5 aD aU none nD nU 0 D U []) := s3
    have HO : Hid (X < w4.heap.size ∧ w4.heap.size ≤ w5.heap.size ∧ w5.heap.size < (w5.alloc (.cells #[.bool ok, .int .u32 gn, .int .u32 tl, .slice aD nD cD, .slice aU nU cU] 28)).heap.size) := ⟨hX4, hb5.size, by simp⟩
    have HS6 : Hid (S3 w4.heap.size (w5.alloc (.cells #[.bool ok, .int .u32 gn, .int .u32 tl, .slice aD nD cD, .slice aU nU cU] 28)) aD aU none nD nU 0 D U []) := s3.below b6
    have HB6 : Hid (Below X w3 (w5.alloc (.cells #[.bool ok, .int .u32 gn, .int .u32 tl, .slice aD nD cD, .slice aU nU cU] 28))) := hB6
    have HR6 : Hid (Row (w5.alloc (.cells #[.bool ok, .int .u32 gn, .int .u32 tl, .slice aD nD cD, .slice aU nU cU] 28)) X 5 zs) := row_below hr5 b6 hr5.lt
    have HG6 : Hid ((w5.alloc (.cells #[.bool ok, .int .u32 gn, .int .u32 tl, .slice aD nD cD, .slice aU nU cU] 28)).heap[w5.heap.size]? = some (.cells #[.bool ok, .int .u32 gn, .int .u32 tl, .slice aD nD cD, .slice aU nU cU] 28 (0, 0))) := heap_alloc_new w5 _
    -- what stands in every later world
    have HM : Hid (∀ w', Below X w3 w' → w'.heap[G0]? = some (.cells #[.bool ok, .int .u32 gn, .int .u32 tl, .slice pD nD pcD, .slice pU nU pcU] 28 (0, 0)) ∧ At .i64 w' pD D ∧ At .i64 w' pU U ∧ Below w.heap.size w w') := fun w' b => by
      have b' : Below w3.heap.size w3 w' := HX.out.symm ▸ b
      exact ⟨by rw [b.block G0 HG0.out]; exact HX3.out, HP3.out.1.below b', HP3.out.2.below b', HB3.out.trans (b'.mono HB3.out.size)⟩
    have H0 : Hid ((w5.alloc (.cells #[.bool ok, .int .u32 gn, .int .u32 tl, .slice aD nD cD, .slice aU nU cU] 28)).heap[G0]? = some (.cells #[.bool ok, .int .u32 gn, .int .u32 tl, .slice pD nD pcD, .slice pU nU pcU] 28 (0, 0))) := (HM.out _ hB6).1
    clear b6 hwe hB5 hr5 hB6 s3 hb5 hb4 hb4' hrX hX hX4
    go_upto_region 6 with (first
      | (refine wpList_store_row rfl 28 (.tmp 5) (.tmp 19) rfl w5.heap.size #[.bool ok, .int .u32 gn, .int .u32 tl, .slice aD nD cD, .slice aU nU cU] rfl rfl 28 _ HNB.out HSR.out rfl (all5s _ _ _ _ _ _ _ _ _) ?_)
      | fail)
    rw [HWE.out]
    clear HWE HNB
    generalize w5.alloc (.cells #[.bool ok, .int .u32 gn, .int .u32 tl, .slice aD nD cD, .slice aU nU cU] 28) = w6 at *
    obtain ⟨G1, hG1⟩ : ∃ G1, w5.heap.size = G1 := ⟨_, rfl⟩
    rw [hG1] at HO HG6
    have HL5 : Hid (Lies w4.heap.size w5 aD ∧ Lies w4.heap.size w5 aU ∧ w5.heap.size = G1) := ⟨HS5.out.ld, HS5.out.lu, hG1⟩
    clear HS5
    rw [hG1]
    clear hG1
    go_wp2_with (first
      | (refine wpList_load_row rfl 28 (.tmp 5) rfl G1 rfl 28 _ (0, 0) _ HG6.out Try.underlying28 rfl HSR.out ?_)
      | (refine wpList_load_row rfl 28 (.tmp 3) rfl G0 rfl 28 _ (0, 0) _ H0.out Try.underlying28 rfl HSR.out ?_)
      | fail)
    clear H0
    refine (eqR_any ok gn tl aD pD aU pU nD cD pcD nU cU pcU D U w6 HN.out.1 HN.out.2 hmD hmU HS6.out.d.at_ (HM.out _ HB6.out).2.1 HS6.out.u.at_ (HM.out _ HB6.out).2.2.1).mono ?_
    rintro e w7 ⟨rfl, hb7⟩
    have HB7 : Hid (Below X w3 w7) := HB6.out.trans (hb7.mono (HXS.out _ HB6.out))
    have H67 : Hid (Below w6.heap.size w6 w7) := hb7
    clear hb7
    go_wp2_with fail
    refine (toB_any a0 len0 cap0 zs _ HZ.out.1 hl' (HZ.out.2.2.below (HM.out _ HB7.out).2.2.2)).mono ?_
    rintro e w8 ⟨rfl, ho8, hb8⟩
    have A8 : At .u8 w8 (some ⟨w7.heap.size, 0, none⟩) zs := by obtain ⟨a, cap, h, _, _, _, h'⟩ := At.of_owns ho8; cases h; exact h'
    have H68 : Hid (Below w6.heap.size w6 w8) := H67.out.trans (hb8.mono H67.out.size)
    have HB8 : Hid (Below X w3 w8) := HB7.out.trans (hb8.mono (HXS.out _ HB7.out))
    have R8 : Row w8 X 5 zs := row_below HR6.out H68.out HR6.out.lt
    clear ho8 hb8 H67 HB7
    go_wp2_with fail
    refine (eqB_any _ _ len0 len0 len0 zs _ HZ.out.1 hl' R8.at_ A8).mono ?_
    rintro e w9 ⟨rfl, q, hw9⟩
    have b89 : Below w8.heap.size w8 w9 := by rw [hw9]; exact ⟨rfl, rfl, rfl, Nat.le_refl _, fun _ _ => rfl⟩
    have H69 : Hid (Below w6.heap.size w6 w9) := H68.out.trans (b89.mono H68.out.size)
    have HB9 : Hid (Below X w3 w9) := HB8.out.trans (b89.mono (HXS.out _ HB8.out))
    have HO9 : Hid (Open w9 (some ⟨X, 0, none⟩) len0) := by
      have hr9 : Row w9 X 5 zs := row_below HR6.out H69.out HR6.out.lt
      refine .inr ⟨X, 0, rfl, hr9.lt, fun i hi => ?_⟩
      rw [Nat.zero_add, hr9.cell i (by have h : zs.length = len0 := HZ.out.1; omega)]
      exact ⟨rfl, hr9.frozen i⟩
    clear A8 R8 hw9 b89 H68 HB8
    go_wp2_with fail
    refine (markB_any (some ⟨X, 0, none⟩) len0 len0 1 w9 HO9.out (by decide) (by omega)).mono ?_
    rintro e w10 ⟨rfl, _, hw10⟩
    have HB10 : Hid (Below X w3 w10) := HB9.out.trans (hw10.below X (fun ad e => by cases e; exact Nat.le_refl _))
    have hk10 : ∀ k, w4.heap.size ≤ k → k < w6.heap.size → w10.heap[k]? = w6.heap[k]? := fun k h1 h2 => (hw10.block k (fun ad e => by cases e; have := HO.out.1; show k ≠ X; omega)).trans (H69.out.block k h2)
    have hz10 : w6.heap.size ≤ w10.heap.size := by rw [hw10.size]; exact H69.out.size
    have HS10 : Hid (S3 w4.heap.size w10 aD aU none nD nU 0 D U []) := HS6.out.keep hz10 hk10
    have HG10 : Hid (w10.heap[G1]? = some (.cells #[.bool ok, .int .u32 gn, .int .u32 tl, .slice aD nD cD, .slice aU nU cU] 28 (0, 0))) := by show _ = _; rw [hk10 G1 HO.out.2.1 HO.out.2.2]; exact HG6.out
    have H010 : Hid (w10.heap[G0]? = some (.cells #[.bool ok, .int .u32 gn, .int .u32 tl, .slice pD nD pcD, .slice pU nU pcU] 28 (0, 0))) := (HM.out _ HB10.out).1
    have HZ10 : Hid (G1 < w10.heap.size) := Nat.lt_of_lt_of_le HO.out.2.2 hz10
    have hneg : ¬ ((1 : Int) + (len0 : Int) < 0) := by omega
    clear hw10 hk10 hz10 HB9 H69 HS6 HG6 HR6 HO9
    have y0 : w10.cell? ⟨G1, 0, none⟩ = some (.bool ok) := by rw [cell_of_row w10 _ 0 _ _ _ HG10.out]; rfl
    have z0 : w10.cell? ⟨G0, 0, none⟩ = some (.bool ok) := by rw [cell_of_row w10 _ 0 _ _ _ H010.out]; rfl
    have y1 : w10.cell? ⟨G1, 1, none⟩ = some (.int .u32 gn) := by rw [cell_of_row w10 _ 1 _ _ _ HG10.out]; rfl
    have z1 : w10.cell? ⟨G0, 1, none⟩ = some (.int .u32 gn) := by rw [cell_of_row w10 _ 1 _ _ _ H010.out]; rfl
    have y2 : w10.cell? ⟨G1, 2, none⟩ = some (.int .u32 tl) := by rw [cell_of_row w10 _ 2 _ _ _ HG10.out]; rfl
    have z2 : w10.cell? ⟨G0, 2, none⟩ = some (.int .u32 tl) := by rw [cell_of_row w10 _ 2 _ _ _ H010.out]; rfl
    have y3 : w10.cell? ⟨G1, 3, none⟩ = some (.slice aD nD cD) := by rw [cell_of_row w10 _ 3 _ _ _ HG10.out]; rfl
    have z3 : w10.cell? ⟨G0, 3, none⟩ = some (.slice pD nD pcD) := by rw [cell_of_row w10 _ 3 _ _ _ H010.out]; rfl
    have y4 : w10.cell? ⟨G1, 4, none⟩ = some (.slice aU nU cU) := by rw [cell_of_row w10 _ 4 _ _ _ HG10.out]; rfl
    have z4 : w10.cell? ⟨G0, 4, none⟩ = some (.slice pU nU pcU) := by rw [cell_of_row w10 _ 4 _ _ _ H010.out]; rfl
    go_wp2_with fail
    clear hneg y0 z0 y1 z1 y2 z2 y3 z3 y4 z4
    refine (eqR_any ok gn tl aD pD aU pU nD cD pcD nU cU pcU D U w10 HN.out.1 HN.out.2 hmD hmU HS10.out.d.at_ (HM.out _ HB10.out).2.1 HS10.out.u.at_ (HM.out _ HB10.out).2.2.1).mono ?_
    rintro e w11 ⟨rfl, hb11⟩
    have HB11 : Hid (Below X w3 w11) := HB10.out.trans (hb11.mono (HXS.out _ HB10.out))
    have HS11 : Hid (S3 w4.heap.size w11 aD aU none nD nU 0 D U []) := HS10.out.below hb11
    have HG11 : Hid (w11.heap[G1]? = some (.cells #[.bool ok, .int .u32 gn, .int .u32 tl, .slice aD nD cD, .slice aU nU cU] 28 (0, 0))) := by show _ = _; rw [hb11.block G1 HZ10.out]; exact HG10.out
    have HZ11 : Hid (G1 < w11.heap.size ∧ w4.heap.size ≤ w11.heap.size) := ⟨Nat.lt_of_lt_of_le HZ10.out hb11.size, by have := HZ10.out; have := hb11.size; have := HO.out.2.1; omega⟩
    clear hb11 HS10 HG10 H010 HZ10 HB10
    go_wp2_with (first
      | (refine wpList_load_row rfl 28 (.tmp 5) rfl G1 rfl 28 _ (0, 0) _ HG11.out Try.underlying28 rfl HSR.out ?_)
      | fail)
    refine (markR_any ok gn tl aD aU nD cD nU cU 1 w11 w4.heap.size HZ11.out.2 (HS11.out.d.open_ HN.out.1) (HS11.out.u.open_ HN.out.2) HS11.out.ld HS11.out.lu HS11.out.du (by decide) (by have := HK.out.1; have := HK.out.2; omega)).mono ?_
    rintro e w12 ⟨rfl, m1, m2, hb12, hn12⟩
    have HB12 : Hid (Below X w3 w12) := HB11.out.trans (hb12.mono (Nat.le_of_lt HO.out.1))
    have HG12 : Hid (w12.heap[G1]? = some (.cells #[.bool ok, .int .u32 gn, .int .u32 tl, .slice aD nD cD, .slice aU nU cU] 28 (0, 0))) := by
      show _ = _
      rw [hn12 G1 HZ11.out.1 (fun ad e => by have := HL5.out.1 ad e; have := HL5.out.2.2; omega) (fun ad e => by have := HL5.out.2.1 ad e; have := HL5.out.2.2; omega)]
      exact HG11.out
    have HMK : Hid (At .i64 w12 aD (mks 1 nD) ∧ At .i64 w12 aU (mks (1 + nD) nU)) := ⟨m1, m2⟩
    clear m1 m2 hb12 hn12 HS11 HG11 HZ11 HB11
    go_wp2_with (first
      | (refine wpList_load_row rfl 28 (.tmp 5) rfl G1 rfl 28 _ (0, 0) _ HG12.out Try.underlying28 rfl HSR.out ?_)
      | fail)
    refine (heldR_any ok gn tl aD aU nD cD nU cU 1 w12 HMK.out.1 HMK.out.2 (by decide) (by have := HK.out.1; have := HK.out.2; omega)).mono ?_
    rintro e w13 ⟨rfl, hb13⟩
    have HB13 : Hid (Below X w3 w13) := HB12.out.trans (hb13.mono (HXS.out _ HB12.out))
    have hneg : ¬ ((1 : Int) + (nD : Int) + (nU : Int) < 0) := by omega
    have hneq : ((1 : Int) + (nD : Int) + (nU : Int) != (1 : Int) + (nD : Int) + (nU : Int)) = false := by simp
    clear hb13 HMK HG12 HB12
    go_wp2_with fail
    clear hneg hneq
    refine (toB_any a0 len0 cap0 zs _ HZ.out.1 hl' (HZ.out.2.2.below (HM.out _ HB13.out).2.2.2)).mono ?_
    rintro e w14 ⟨rfl, ho14, hb14⟩
    have A14 : At .u8 w14 (some ⟨w13.heap.size, 0, none⟩) zs := by obtain ⟨a, cap, h, _, _, _, h'⟩ := At.of_owns ho14; cases h; exact h'
    have HB14 : Hid (Below X w3 w14) := HB13.out.trans (hb14.mono (HXS.out _ HB13.out))
    clear ho14 hb14 HB13
    go_wp2_with fail
    refine (idk_any _ len0 len0 zs _ HZ.out.1 hl' (Nat.le_refl _) A14 HZ.out.2.1).mono ?_
    rintro e w15 ⟨v, rfl, hv, hb15⟩
    rw [HR.out] at hv
    obtain ⟨bD, mD, dD, bU, mU, dU, rfl, s3⟩ := hv
    have e1 : nD = mD := by have h2 := HN.out.1; have h3 : D.length = mD := s3.nd; omega
    have e2 : nU = mU := by have h2 := HN.out.2; have h3 : U.length = mU := s3.nu; omega
    subst e1
    subst e2
    have b16 := below_new w15 (.cells #[.bool ok, .int .u32 gn, .int .u32 tl, .slice bD nD dD, .slice bU nU dU] 28)
    have HWE : Hid ((w15.alloc (.cells #[.bool false, .int .u32 0, .int .u32 0, .slice none 0 0, .slice none 0 0] 28)).setRow w15.heap.size #[.bool ok, .int .u32 gn, .int .u32 tl, .slice bD nD dD, .slice bU nU dU] = w15.alloc (.cells #[.bool ok, .int .u32 gn, .int .u32 tl, .slice bD nD dD, .slice bU nU dU] 28)) := World.setRow_alloc_new _ _ _ _
    have HNB : Hid ((w15.alloc (.cells #[.bool false, .int .u32 0, .int .u32 0, .slice none 0 0, .slice none 0 0] 28)).heap[w15.heap.size]? = some (.cells #[.bool false, .int .u32 0, .int .u32 0, .slice none 0 0, .slice none 0 0] 28 (0, 0))) := heap_alloc_new w15 _
    have HB16 : Hid (Below X w3 (w15.alloc (.cells #[.bool ok, .int .u32 gn, .int .u32 tl, .slice bD nD dD, .slice bU nU dU] 28))) := (HB14.out.trans (hb15.mono (HXS.out _ HB14.out))).trans (b16.mono (Nat.le_trans (HXS.out _ HB14.out) hb15.size))
    have HS16 : Hid (S3 w14.heap.size (w15.alloc (.cells #[.bool ok, .int .u32 gn, .int .u32 tl, .slice bD nD dD, .slice bU nU dU] 28)) bD bU none nD nU 0 D U []) := s3.below b16
    have HG16 : Hid ((w15.alloc (.cells #[.bool ok, .int .u32 gn, .int .u32 tl, .slice bD nD dD, .slice bU nU dU] 28)).heap[w15.heap.size]? = some (.cells #[.bool ok, .int .u32 gn, .int .u32 tl, .slice bD nD dD, .slice bU nU dU] 28 (0, 0))) := heap_alloc_new w15 _
    have H016 : Hid ((w15.alloc (.cells #[.bool ok, .int .u32 gn, .int .u32 tl, .slice bD nD dD, .slice bU nU dU] 28)).heap[G0]? = some (.cells #[.bool ok, .int .u32 gn, .int .u32 tl, .slice pD nD pcD, .slice pU nU pcU] 28 (0, 0))) := (HM.out _ HB16.out).1
    clear b16 s3 hb15 A14 HB14
    go_upto_region 23 with (first
      | (refine wpList_store_row rfl 28 (.tmp 9) (.tmp 53) rfl w15.heap.size #[.bool ok, .int .u32 gn, .int .u32 tl, .slice bD nD dD, .slice bU nU dU] rfl rfl 28 _ HNB.out HSR.out rfl (all5s _ _ _ _ _ _ _ _ _) ?_)
      | fail)
    rw [HWE.out]
    clear HWE HNB
    generalize w15.alloc (.cells #[.bool ok, .int .u32 gn, .int .u32 tl, .slice bD nD dD, .slice bU nU dU] 28) = w16 at *
    generalize w15.heap.size = G2 at *
    go_wp2_with (first
      | (refine wpList_load_row rfl 28 (.tmp 9) rfl G2 rfl 28 _ (0, 0) _ HG16.out Try.underlying28 rfl HSR.out ?_)
      | (refine wpList_load_row rfl 28 (.tmp 3) rfl G0 rfl 28 _ (0, 0) _ H016.out Try.underlying28 rfl HSR.out ?_)
      | fail)
    refine (eqR_any ok gn tl bD pD bU pU nD dD pcD nU dU pcU D U w16 HN.out.1 HN.out.2 hmD hmU HS16.out.d.at_ (HM.out _ HB16.out).2.1 HS16.out.u.at_ (HM.out _ HB16.out).2.2.1).mono ?_
    rintro e w17 ⟨rfl, hb17⟩
    have HF : Hid (Below w.heap.size w w17) := (HM.out _ (HB16.out.trans (hb17.mono (HXS.out _ HB16.out)))).2.2.2
    clear hb17 HB16 HS16 HG16 H016
    go_wp2
    go_ret
    exact ⟨rfl, HF.out⟩

set_option maxRecDepth 100000 in
theorem lifted (os : Os) (started : os.Started) (H : Type) (enc : TypeId × Value → H) :
    ReturnsInHanded {} Try.checked os 3 .any (Rows.fnExactDecodeSnapSpec.pre6 enc Try.prog Try.f3 Rows.fnExactDecodeSnapRow.domain false) (Rows.fnExactDecodeSnapSpec.post enc Try.prog Try.f3 false true false false) := by
  refine returnsInHanded_of_change (C := Try.checked) own started (by kernel_rfl) Try.func3
    (ChangeSpec.witness6 (enc := enc) (C := Try.checked) false ⟨#[], #[.slice none 0 0], []⟩ 8 (by kernel_rfl) (by kernel_rfl) (by kernel_rfl) (by kernel_rfl)) ?_
  intro W base args ds gs before hval0 hW hcnd _
  have hval : ∀ (j : Nat) t v, Try.f3.params[j]? = some t → args[j]? = some v → Value.okWide Try.prog W .any base t v := hval0
  have hW' := hW
  obtain ⟨p, q, hA0, hV, rfl, hfz, hnd⟩ := hW
  have hA : DataW.TrodAll enc Try.prog W 0 (fun _ => true) true Try.f3.params.toList args.toList ds p := hA0
  rw [Try.params3] at hA hval
  obtain ⟨v0, vs0, d0, ds0, p0, q0, hargs, rfl, rfl, h0, r0⟩ := trodAll_cons hA
  obtain ⟨rfl, rfl, rfl⟩ := trodAll_nil r0
  obtain rfl : args = #[v0] := by cases args; simp_all
  obtain ⟨rfl, rfl⟩ := trodVars_none hV
  obtain ⟨a0, len0, cap0, rfl⟩ := okWide_slice Try.underlying22 (hval 0 22 v0 rfl rfl)
  have k0 := h0
  have lt0 : ∀ x ∈ p0, x.block < W.heap.size := by obtain ⟨m, hm⟩ := k0; exact DataW.trod_lt m _ _ _ hm
  obtain ⟨z0, w0⟩ : ∃ zs, IsRow .u8 W a0 len0 cap0 zs := by
    obtain ⟨fuel, hf⟩ := h0
    rcases open_ints Try.underlying22 Try.underlying5 (by kernel_rfl) hf with ⟨hcs, _⟩ | ⟨x, l, c, zs, hcs, _, hl, hm, hz, _, hcell, hwz⟩
    · simp [Value.cells] at hcs
      obtain ⟨rfl, rfl, rfl⟩ := hcs
      exact ⟨[], .inl ⟨rfl, rfl, rfl, rfl⟩⟩
    · simp [Value.cells] at hcs
      obtain ⟨rfl, rfl, rfl⟩ := hcs
      exact ⟨zs, .inr ⟨_, rfl, hl, hm, by simpa using hz, hcell, hwz⟩⟩
  clear hA0 hval0
  refine (walk a0 len0 cap0 z0 W w0).mono fun e W' ⟨he, bel⟩ => ?_
  subst he
  exact ⟨_, rfl, _, _, _, [], _, [], hW', trodAll_mk1 (shut_bool Try.underlying4 _), (trodAll_cons_mk (Below.trod laidOut (by kernel_rfl) (of_decide_eq_true (by kernel_rfl)) k0 bel lt0) trodAll_mk0), rfl, bel.frame _, fun h => by cases h⟩

theorem over : Rows.fnExactDecodeSnapRow.holds Try.pinned (OpenSpec.ofChange Rows.fnExactDecodeSnapSpec) :=
  OpenClaim.holds_of_wide 3 Try.f3 rfl rfl rfl rfl rfl rfl rfl ⟨rfl, rfl, rfl, rfl, rfl⟩ rfl rfl rfl rfl rfl (by kernel_rfl) Try.func3 (by kernel_rfl)
    (of_decide_eq_true (by kernel_rfl)) (by unfold Func.isWrapper; first | (rw [if_pos (by decide +kernel)]; kernel_rfl) | (rw [if_neg (by decide +kernel)]; exact ⟨rfl, rfl⟩))
    (fun os started H enc _ => lifted os started H enc)

end Go.Proofs.Ytmnoelfabldpfaa.ldk
namespace Go.Proofs.Ytmnoelfabldpfaa
theorem decodeSnap_holds : Rows.FnExactDecodeSnapSaid := ldk.over
#print axioms decodeSnap_holds
end Go.Proofs.Ytmnoelfabldpfaa
