/-
  Own work: the code of a snap, by the program (written by wip/mksnx.py).
-/
import Derived.Test.YtmnoelfabldpfaaSnW
import Derived.Test.YtmnoelfabldpfaaMSzSt
import Derived.Test.YtmnoelfabldpfaaMSec
namespace Go.Proofs.Ytmnoelfabldpfaa
open Go.ChangeShapes Go.WideShapes Go.ChangeAt Go.RowKit
set_option linter.unusedVariables false

/-- The blocks of (*Snap).encoded: the answer's, and the slot's. -/
structure EN (w wr : World) (zs : List Int) : Prop where
  below : Below w.heap.size w wr
  rb : wr.heap[w.heap.size]? = some (.cells Try.zeroCells45 45 (0, 0))
  row : Row wr (w.heap.size + 1) 45 zs
theorem EN.low {w wr w' : World} {zs : List Int} (h : EN w wr zs) (b : Below wr.heap.size wr w') : EN w w' zs :=
  ⟨h.below.trans (b.mono h.below.size), by rw [b.block _ (Array.getElem?_eq_some_iff.1 h.rb).1]; exact h.rb, h.row.low b h.row.lt⟩
theorem EN.wr {w wr w' : World} {zs zs' : List Int} (h : EN w wr zs) (hw : Wr (w.heap.size + 1) wr w') (hr : Row w' (w.heap.size + 1) 45 zs') : EN w w' zs' :=
  ⟨h.below.trans (hw.below (by omega)), by rw [hw.block _ (by omega)]; exact h.rb, hr⟩
theorem EN.drew {w wr : World} {zs : List Int} (h : EN w wr zs) : EN w wr.drew zs := ⟨⟨h.below.os, h.below.tape, h.below.output, h.below.size, h.below.block⟩, h.rb, h.row⟩
theorem EN.set {w wr : World} {zs zs' : List Int} (h : EN w wr zs) {o : Nat} {x : Int} (e : zs.set o x = zs') : EN w (wr.setCell ⟨w.heap.size + 1, o, none⟩ (.int .u8 x)) zs' :=
  h.wr ((Wr.refl _ _).setCell _ _) (e ▸ h.row.set o x)
theorem EN.oth {w wr w' : World} {zs : List Int} {q : Nat} (h : EN w wr zs) (hw : Wr q wr w') (h1 : q ≠ w.heap.size + 1) (h2 : q ≠ w.heap.size) (h3 : w.heap.size ≤ q) : EN w w' zs :=
  ⟨h.below.trans (hw.below h3), by rw [hw.block _ (Ne.symm h2)]; exact h.rb, hw.row h.row (Ne.symm h1)⟩
theorem denL_nil (f : Nat) : denL [] f 8 = List.replicate 16 0 := by simp [denL, den2, show List.range 8 = [0, 1, 2, 3, 4, 5, 6, 7] from rfl]
theorem den_out (D : List Int) (f i : Nat) (h : i < f ∨ f + 8 ≤ i) : denL (D.take (i + 1)) f 8 = denL (D.take i) f 8 := by
  unfold denL; congr 1
  refine List.map_congr_left fun q hq => ?_
  have hq8 : q < 8 := by simpa using hq
  unfold den2
  simp only [List.length_take]
  by_cases h1 : f + q < min i D.length
  · have h2 : f + q < min (i + 1) D.length := by omega
    simp only [h1, h2, if_true]
    simp [List.getD, show f + q < i by omega, show f + q < i + 1 by omega]
  · have h2 : ¬ f + q < min (i + 1) D.length := by omega
    simp only [h1, h2, if_false]
theorem zcS : Try.zeroCells45 = ((List.replicate 128 (0 : Int)).map (Value.int .u8)).toArray := by kernel_rfl
theorem EN.start (w : World) : EN w ((w.alloc (.cells Try.zeroCells45 45)).alloc (.cells Try.zeroCells45 45)) (seg (List.replicate 4 0) [0, 0] [0, 0] (List.replicate 4 0) (List.replicate 32 0) (List.replicate 16 0) (List.replicate 4 0) (List.replicate 4 0) [0, 0] [0, 0] (List.replicate 16 0) (List.replicate 32 0) (List.replicate 4 0) (List.replicate 4 0)) := by
  refine ⟨((Below.refl _ _).alloc (Nat.le_refl _) _).alloc (by simp) _, ?_, ?_⟩
  · rw [Below.heap_alloc _ _ w.heap.size (by simp)]; exact heap_alloc_new w _
  · have := heap_alloc_new (w.alloc (.cells Try.zeroCells45 45)) (.cells Try.zeroCells45 45)
    rw [show (w.alloc (.cells Try.zeroCells45 45)).heap.size = w.heap.size + 1 by simp] at this
    unfold Row; rw [this, ← seg_zero, ← zcS]
def encZ (gn : Int) : Nat → List Int
  | 0 => seg (List.replicate 4 0) [0, 0] [0, 0] (List.replicate 4 0) (List.replicate 32 0) (List.replicate 16 0) (List.replicate 4 0) (List.replicate 4 0) [0, 0] [0, 0] (List.replicate 16 0) (List.replicate 32 0) (List.replicate 4 0) (List.replicate 4 0)
  | 1 => seg (four gn) [83, 49] [0, 0] (List.replicate 4 0) (List.replicate 32 0) (List.replicate 16 0) (four gn) (List.replicate 4 0) [0, 0] [0, 0] (List.replicate 16 0) (List.replicate 32 0) (List.replicate 4 0) (List.replicate 4 0)
  | _ => seg (four gn) [83, 49] [0, 0] (List.replicate 4 0) (List.replicate 32 0) (List.replicate 16 0) (four gn) (four gn) [83, 50] [0, 0] (List.replicate 16 0) (List.replicate 32 0) (List.replicate 4 0) (four gn)
set_option maxRecDepth 100000 in
set_option maxHeartbeats 8000000 in
theorem encd_any (h : Nat) (gn tl : Int) (aD aU : Option Addr) (nD cD nU cU : Nat) (D U : List Int) (w : World) (hh : h < w.heap.size) (c0 : w.cell? ⟨h, 0, none⟩ = some (.int .u32 gn)) (c1 : w.cell? ⟨h, 1, none⟩ = some (.int .u32 tl)) (c2 : w.cell? ⟨h, 2, none⟩ = some (.slice aD nD cD)) (c3 : w.cell? ⟨h, 3, none⟩ = some (.slice aU nU cU))
    (hD : D.length = nD) (hU : U.length = nU) (mD : nD ≤ 1048576) (mU : nU ≤ 1048576) (haD : At .i64 w aD D) (haU : At .i64 w aU U) (ug : U32 gn) (ut : U32 tl) (hs : SnP gn tl D U) :
    Calls Try.prog 37 #[.pointer (some ⟨h, 0, none⟩)] w fun e w' => e = .returned (.agg ((snL gn tl D U).map (Value.int .u8)).toArray) ∧ Below w.heap.size w w' := by
  have HC : Hid (h < w.heap.size ∧ w.cell? ⟨h, 0, none⟩ = some (.int .u32 gn) ∧ w.cell? ⟨h, 1, none⟩ = some (.int .u32 tl) ∧ w.cell? ⟨h, 2, none⟩ = some (.slice aD nD cD) ∧ w.cell? ⟨h, 3, none⟩ = some (.slice aU nU cU)) := ⟨hh, c0, c1, c2, c3⟩
  have HA : Hid (At .i64 w aD D ∧ At .i64 w aU U) := ⟨haD, haU⟩
  have HL : Hid (D.length = nD ∧ U.length = nU) := ⟨hD, hU⟩
  have HU : Hid (U32 gn ∧ U32 tl) := ⟨ug, ut⟩
  have HP : Hid (SnP gn tl D U) := hs
  have HE0 := hid_of (EN.start w)
  have hnd : (nD : Int) % 256 = nD := by have := hs.2.2.2.2.1; omega
  clear haD haU hD hU hs ug ut hh c0 c1 c2 c3
  go_enter Try.func37, Try.ntmps37
  go_wp2_with fail
  generalize ((w.alloc (.cells Try.zeroCells45 45)).alloc (.cells Try.zeroCells45 45)) = w0 at *
  go_loopw [10] (fun i wr => ∃ k : Nat, k ≤ 2 ∧ i = .int .i64 k ∧ Hid (EN w wr (encZ gn k))) (fun i _ => 2 - (intOf i).toNat)
  case atStart => exact ⟨0, by decide, rfl, HE0.out⟩
  case round =>
    obtain ⟨k, hk, rfl, hrel⟩ := hrel
    clear HE0
    obtain rfl | rfl | rfl : k = 0 ∨ k = 1 ∨ k = 2 := by omega
    · have HE : Hid (EN w wr (seg (List.replicate 4 0) [0, 0] [0, 0] (List.replicate 4 0) (List.replicate 32 0) (List.replicate 16 0) (List.replicate 4 0) (List.replicate 4 0) [0, 0] [0, 0] (List.replicate 16 0) (List.replicate 32 0) (List.replicate 4 0) (List.replicate 4 0))) := hrel
      clear hrel
      go_wp2_with fail
      refine wp_region_any (by kernel_rfl) ?_
      refine wpAny_slotsU (fun _ _ _ => True) (frame := (fun (c0 c1 c2 c3 c4 c5 c6 c7 c8 c9 c10 c11 c12 c20 c21 c22 c23 c24 c25 c26 c27 c28 c29 c30 c31 c32 c33 c34 c35 c36 c37 c38 c39 c40 c41 c42 c43 c44 c45 c46 c47 c48 c49 c50 c51 c52 c53 c54 c55 c56 c57 c58 c59 c60 c61 c62 c63 c64 c65 c66 c67 c68 c69 c70 c71 c72 c73 c74 c75 c76 c77 c78 c79 c80 c81 c82 c83 c84 c85 c86 c87 c88 : Value) => fun (t : Nat → Value) => ({ tmps := List.toArray (c0 :: c1 :: c2 :: c3 :: c4 :: c5 :: c6 :: c7 :: c8 :: c9 :: c10 :: c11 :: c12 :: t 0 :: t 1 :: t 2 :: t 3 :: t 4 :: t 5 :: t 6 :: c20 :: c21 :: c22 :: c23 :: c24 :: c25 :: c26 :: c27 :: c28 :: c29 :: c30 :: c31 :: c32 :: c33 :: c34 :: c35 :: c36 :: c37 :: c38 :: c39 :: c40 :: c41 :: c42 :: c43 :: c44 :: c45 :: c46 :: c47 :: c48 :: c49 :: c50 :: c51 :: c52 :: c53 :: c54 :: c55 :: c56 :: c57 :: c58 :: c59 :: c60 :: c61 :: c62 :: c63 :: c64 :: c65 :: c66 :: c67 :: c68 :: c69 :: c70 :: c71 :: c72 :: c73 :: c74 :: c75 :: c76 :: c77 :: c78 :: c79 :: c80 :: c81 :: c82 :: c83 :: c84 :: c85 :: c86 :: c87 :: c88 :: []), defers := [] } : Act)) _ _ _ _ _ _ _ _ _ _ _ _ _ _ _ _ _ _ _ _ _ _ _ _ _ _ _ _ _ _ _ _ _ _ _ _ _ _ _ _ _ _ _ _ _ _ _ _ _ _ _ _ _ _ _ _ _ _ _ _ _ _ _ _ _ _ _ _ _ _ _ _ _ _ _ _ _ _ _ _ _ _)
        (Ext := fun L u w' => if L 6 = true then EN w w' (seg (four gn) [0, 0] [0, 0] (List.replicate 4 0) (List.replicate 32 0) (List.replicate 16 0) (List.replicate 4 0) (List.replicate 4 0) [0, 0] [0, 0] (List.replicate 16 0) (List.replicate 32 0) (List.replicate 4 0) (List.replicate 4 0)) else EN w w' (seg (List.replicate 4 0) [0, 0] [0, 0] (List.replicate 4 0) (List.replicate 32 0) (List.replicate 16 0) (List.replicate 4 0) (List.replicate 4 0) [0, 0] [0, 0] (List.replicate 16 0) (List.replicate 32 0) (List.replicate 4 0) (List.replicate 4 0))) (Good := fun i L w' v => if i = 0 then v = .int .i64 0 else if i = 1 then v = .pointer (some ⟨w.heap.size + 1, 0, none⟩) else if i = 2 then v = .pointer (some ⟨h, 0, none⟩) else if i = 3 then v = .pointer (some ⟨h, 0, none⟩) else if i = 4 then v = .pointer (some ⟨h, 0, none⟩) else if i = 5 then v = .int .u32 gn else if i = 6 then L 6 = true else True) ?hstab (by kernel_rfl) ?hop ?hdone _ _ ((fun (x0 x1 x2 x3 x4 x5 x6 : Value) => fun (i : Nat) => if i = 0 then x0 else if i = 1 then x1 else if i = 2 then x2 else if i = 3 then x3 else if i = 4 then x4 else if i = 5 then x5 else if i = 6 then x6 else undef) _ _ _ _ _ _ _) _ (by simp) ?ext ?start (by simp)
      case start => intro i hi h; exact absurd h (by rw [Array.getD_eq_getD_getElem?, Array.getElem?_replicate]; split <;> simp)
      case ext =>
        rw [if_neg (by show ¬ (Array.getD _ _ _ = true); rw [Array.getD_eq_getD_getElem?, Array.getElem?_replicate]; split <;> simp)]
        exact HE.out.drew
      case hstab =>
        intro j L w9 w' i v hM hij hLi h
        by_cases hl : j = 6
        · subst hl
          simp at h ⊢
          unfold updK; simp [h]
        · simp only [if_neg hl] at h ⊢
          exact h
      case hop =>
        intro i o L t w' ho hLi hx hdep K hK
        have hi : i < 7 := (Array.getElem?_eq_some_iff.1 ho).1
        obtain rfl | rfl | rfl | rfl | rfl | rfl | rfl : i = 0 ∨ i = 1 ∨ i = 2 ∨ i = 3 ∨ i = 4 ∨ i = 5 ∨ i = 6 := by omega
        all_goals (simp at ho; subst ho)
        · clear hdep
          have hK' := hK w' (.int .i64 0) (by simp) (by simpa [updK] using hx) trivial
          clear hK
          rw [if_pos (by rfl)]
          go_simp
          simpa [upd] using hK'
        · have d0 : t 0 = .int .i64 0 := by simpa using (hdep ⟨0, .data⟩ (by simp) rfl).2
          clear hdep
          have hK' := hK w' (.pointer (some ⟨w.heap.size + 1, 0, none⟩)) (by simp) (by simpa [updK] using hx) trivial
          clear hK
          rw [if_pos (by rfl)]
          go_simp
          simpa [upd, d0] using hK'
        · clear hdep
          have hK' := hK w' (.pointer (some ⟨h, 0, none⟩)) (by simp) (by simpa [updK] using hx) trivial
          clear hK
          rw [if_pos (by rfl)]
          go_simp
          simpa [upd] using hK'
        · have d2 : t 2 = .pointer (some ⟨h, 0, none⟩) := by simpa using (hdep ⟨2, .data⟩ (by simp) rfl).2
          clear hdep
          have hK' := hK w' (.pointer (some ⟨h, 0, none⟩)) (by simp) (by simpa [updK] using hx) trivial
          clear hK
          rw [if_pos (by rfl)]
          go_simp
          simpa [upd, d2] using hK'
        · have d3 : t 3 = .pointer (some ⟨h, 0, none⟩) := by simpa using (hdep ⟨3, .data⟩ (by simp) rfl).2
          clear hdep
          have hK' := hK w' (.pointer (some ⟨h, 0, none⟩)) (by simp) (by simpa [updK] using hx) trivial
          clear hK
          rw [if_pos (by rfl)]
          go_simp
          simpa [upd, d3] using hK'
        · have d4 : t 4 = .pointer (some ⟨h, 0, none⟩) := by simpa using (hdep ⟨4, .data⟩ (by simp) rfl).2
          clear hdep
          have hbb : Below w.heap.size w w' := by split at hx <;> exact hx.below
          have cc : w'.cell? ⟨h, 0, none⟩ = some (.int .u32 gn) := (hbb.cell (p := ⟨h, 0, none⟩) HC.out.1).trans HC.out.2.1
          clear hbb
          have hK' := hK w' (.int .u32 gn) (by simp) (by simpa [updK] using hx) trivial
          clear hK
          rw [if_pos (by rfl)]
          go_simp
          simpa [upd, d4] using hK'
        · have d1 : t 1 = .pointer (some ⟨w.heap.size + 1, 0, none⟩) := by simpa using (hdep ⟨1, .data⟩ (by simp) rfl).2
          have d5 : t 5 = .int .u32 gn := by simpa using (hdep ⟨5, .data⟩ (by simp) rfl).2
          clear hdep
          rw [hLi, if_neg (by decide)] at hx
          have hL : SegL (List.replicate 4 0) [0, 0] [0, 0] (List.replicate 4 0) (List.replicate 32 0) (List.replicate 16 0) (List.replicate 4 0) (List.replicate 4 0) [0, 0] [0, 0] (List.replicate 16 0) (List.replicate 32 0) (List.replicate 4 0) (List.replicate 4 0) := by constructor <;> simp
          have A := setNo_any (w.heap.size + 1) 0 45 0 gn _ w' hx.row (by rw [hL.len]; decide) (by decide) HU.out.1
          rw [show 0 + 0 = 0 from rfl, (hL.put0 gn HU.out.1).1] at A
          have hK' : ∀ ww, Row ww (w.heap.size + 1) 45 (seg (four gn) [0, 0] [0, 0] (List.replicate 4 0) (List.replicate 32 0) (List.replicate 16 0) (List.replicate 4 0) (List.replicate 4 0) [0, 0] [0, 0] (List.replicate 16 0) (List.replicate 32 0) (List.replicate 4 0) (List.replicate 4 0)) → Wr (w.heap.size + 1) w' ww → K _ ww := fun ww h1 h2 => hK ww (.tuple #[]) (by simp [updK]) (by rw [if_pos (by simp [updK])]; exact hx.wr h2 h1) trivial
          clear hK hx hL
          rw [if_pos (by rfl)]
          go_simp
          try simp only [d1, d5]
          refine A.mono ?_
          rintro e w9 ⟨rfl, hr9, hw9⟩
          have hK2 := hK' w9 hr9 hw9
          clear hK' A hr9 hw9
          go_simp
          simpa [upd, d1, d5] using hK2
      case hdone =>
        intro L t w2 hx hg
        have hlast : L 6 = true := by simpa using hg 6 (by decide)
        rw [if_pos hlast] at hx
        clear hg hlast
        have HE2 : Hid (EN w w2 (seg (four gn) [0, 0] [0, 0] (List.replicate 4 0) (List.replicate 32 0) (List.replicate 16 0) (List.replicate 4 0) (List.replicate 4 0) [0, 0] [0, 0] (List.replicate 16 0) (List.replicate 32 0) (List.replicate 4 0) (List.replicate 4 0))) := hx
        clear hx
        have hL1 : SegL (four gn) [0, 0] [0, 0] (List.replicate 4 0) (List.replicate 32 0) (List.replicate 16 0) (List.replicate 4 0) (List.replicate 4 0) [0, 0] [0, 0] (List.replicate 16 0) (List.replicate 32 0) (List.replicate 4 0) (List.replicate 4 0) := by constructor <;> simp [four]
        have hL2 : SegL (four gn) [83, 0] [0, 0] (List.replicate 4 0) (List.replicate 32 0) (List.replicate 16 0) (List.replicate 4 0) (List.replicate 4 0) [0, 0] [0, 0] (List.replicate 16 0) (List.replicate 32 0) (List.replicate 4 0) (List.replicate 4 0) := by constructor <;> simp [four]
        have cc4 := HE2.out.row.cell 4 (by rw [hL1.len]; decide)
        have cf4 := HE2.out.row.frozen 4
        have HE3 : Hid (EN w (w2.setCell ⟨w.heap.size + 1, 4, none⟩ (.int .u8 83)) (seg (four gn) [83, 0] [0, 0] (List.replicate 4 0) (List.replicate 32 0) (List.replicate 16 0) (List.replicate 4 0) (List.replicate 4 0) [0, 0] [0, 0] (List.replicate 16 0) (List.replicate 32 0) (List.replicate 4 0) (List.replicate 4 0))) := HE2.out.set (hL1.setM 0 (by decide) 83).1
        have cc5 := HE3.out.row.cell 5 (by rw [hL2.len]; decide)
        have cf5 := HE3.out.row.frozen 5
        have HE5 : Hid (EN w ((w2.setCell ⟨w.heap.size + 1, 4, none⟩ (.int .u8 83)).setCell ⟨w.heap.size + 1, 5, none⟩ (.int .u8 49)) (seg (four gn) [83, 49] [0, 0] (List.replicate 4 0) (List.replicate 32 0) (List.replicate 16 0) (List.replicate 4 0) (List.replicate 4 0) [0, 0] [0, 0] (List.replicate 16 0) (List.replicate 32 0) (List.replicate 4 0) (List.replicate 4 0))) := HE3.out.set (hL2.setM 1 (by decide) 49).1
        clear hL1 hL2
        go_wp2_with fail
        clear cc4 cf4 cc5 cf5 HE2 HE3
        generalize ((w2.setCell ⟨w.heap.size + 1, 4, none⟩ (.int .u8 83)).setCell ⟨w.heap.size + 1, 5, none⟩ (.int .u8 49)) = w5 at *
        refine wp_region_any (by kernel_rfl) ?_
        refine wpAny_slotsU (fun _ _ _ => True) (frame := (fun (c0 c1 c2 c3 c4 c5 c6 c7 c8 c9 c10 c11 c12 c13 c14 c15 c16 c17 c18 c19 c20 c21 c22 c23 c24 c25 c26 c27 c28 c36 c37 c38 c39 c40 c41 c42 c43 c44 c45 c46 c47 c48 c49 c50 c51 c52 c53 c54 c55 c56 c57 c58 c59 c60 c61 c62 c63 c64 c65 c66 c67 c68 c69 c70 c71 c72 c73 c74 c75 c76 c77 c78 c79 c80 c81 c82 c83 c84 c85 c86 c87 c88 : Value) => fun (t : Nat → Value) => ({ tmps := List.toArray (c0 :: c1 :: c2 :: c3 :: c4 :: c5 :: c6 :: c7 :: c8 :: c9 :: c10 :: c11 :: c12 :: c13 :: c14 :: c15 :: c16 :: c17 :: c18 :: c19 :: c20 :: c21 :: c22 :: c23 :: c24 :: c25 :: c26 :: c27 :: c28 :: t 0 :: t 1 :: t 2 :: t 3 :: t 4 :: t 5 :: t 6 :: c36 :: c37 :: c38 :: c39 :: c40 :: c41 :: c42 :: c43 :: c44 :: c45 :: c46 :: c47 :: c48 :: c49 :: c50 :: c51 :: c52 :: c53 :: c54 :: c55 :: c56 :: c57 :: c58 :: c59 :: c60 :: c61 :: c62 :: c63 :: c64 :: c65 :: c66 :: c67 :: c68 :: c69 :: c70 :: c71 :: c72 :: c73 :: c74 :: c75 :: c76 :: c77 :: c78 :: c79 :: c80 :: c81 :: c82 :: c83 :: c84 :: c85 :: c86 :: c87 :: c88 :: []), defers := [] } : Act)) _ _ _ _ _ _ _ _ _ _ _ _ _ _ _ _ _ _ _ _ _ _ _ _ _ _ _ _ _ _ _ _ _ _ _ _ _ _ _ _ _ _ _ _ _ _ _ _ _ _ _ _ _ _ _ _ _ _ _ _ _ _ _ _ _ _ _ _ _ _ _ _ _ _ _ _ _ _ _ _ _ _)
          (Ext := fun L u w' => if L 6 = true then EN w w' (seg (four gn) [83, 49] [0, 0] (List.replicate 4 0) (List.replicate 32 0) (List.replicate 16 0) (four gn) (List.replicate 4 0) [0, 0] [0, 0] (List.replicate 16 0) (List.replicate 32 0) (List.replicate 4 0) (List.replicate 4 0)) else EN w w' (seg (four gn) [83, 49] [0, 0] (List.replicate 4 0) (List.replicate 32 0) (List.replicate 16 0) (List.replicate 4 0) (List.replicate 4 0) [0, 0] [0, 0] (List.replicate 16 0) (List.replicate 32 0) (List.replicate 4 0) (List.replicate 4 0))) (Good := fun i L w' v => if i = 0 then v = .int .i64 0 else if i = 1 then v = .pointer (some ⟨w.heap.size + 1, 0, none⟩) else if i = 2 then v = .pointer (some ⟨h, 0, none⟩) else if i = 3 then v = .pointer (some ⟨h, 0, none⟩) else if i = 4 then v = .pointer (some ⟨h, 0, none⟩) else if i = 5 then v = .int .u32 gn else if i = 6 then L 6 = true else True) ?hstab (by kernel_rfl) ?hop ?hdone _ _ ((fun (x0 x1 x2 x3 x4 x5 x6 : Value) => fun (i : Nat) => if i = 0 then x0 else if i = 1 then x1 else if i = 2 then x2 else if i = 3 then x3 else if i = 4 then x4 else if i = 5 then x5 else if i = 6 then x6 else undef) _ _ _ _ _ _ _) _ (by simp) ?ext ?start (by simp)
        case start => intro i hi h; exact absurd h (by rw [Array.getD_eq_getD_getElem?, Array.getElem?_replicate]; split <;> simp)
        case ext =>
          rw [if_neg (by show ¬ (Array.getD _ _ _ = true); rw [Array.getD_eq_getD_getElem?, Array.getElem?_replicate]; split <;> simp)]
          exact HE5.out.drew
        case hstab =>
          intro j L w9 w' i v hM hij hLi h
          by_cases hl : j = 6
          · subst hl
            simp at h ⊢
            unfold updK; simp [h]
          · simp only [if_neg hl] at h ⊢
            exact h
        case hop =>
          intro i o L t w' ho hLi hx hdep K hK
          have hi : i < 7 := (Array.getElem?_eq_some_iff.1 ho).1
          obtain rfl | rfl | rfl | rfl | rfl | rfl | rfl : i = 0 ∨ i = 1 ∨ i = 2 ∨ i = 3 ∨ i = 4 ∨ i = 5 ∨ i = 6 := by omega
          all_goals (simp at ho; subst ho)
          · clear hdep
            have hK' := hK w' (.int .i64 0) (by simp) (by simpa [updK] using hx) trivial
            clear hK
            rw [if_pos (by rfl)]
            go_simp
            simpa [upd] using hK'
          · have d0 : t 0 = .int .i64 0 := by simpa using (hdep ⟨0, .data⟩ (by simp) rfl).2
            clear hdep
            have hK' := hK w' (.pointer (some ⟨w.heap.size + 1, 0, none⟩)) (by simp) (by simpa [updK] using hx) trivial
            clear hK
            rw [if_pos (by rfl)]
            go_simp
            simpa [upd, d0] using hK'
          · clear hdep
            have hK' := hK w' (.pointer (some ⟨h, 0, none⟩)) (by simp) (by simpa [updK] using hx) trivial
            clear hK
            rw [if_pos (by rfl)]
            go_simp
            simpa [upd] using hK'
          · have d2 : t 2 = .pointer (some ⟨h, 0, none⟩) := by simpa using (hdep ⟨2, .data⟩ (by simp) rfl).2
            clear hdep
            have hK' := hK w' (.pointer (some ⟨h, 0, none⟩)) (by simp) (by simpa [updK] using hx) trivial
            clear hK
            rw [if_pos (by rfl)]
            go_simp
            simpa [upd, d2] using hK'
          · have d3 : t 3 = .pointer (some ⟨h, 0, none⟩) := by simpa using (hdep ⟨3, .data⟩ (by simp) rfl).2
            clear hdep
            have hK' := hK w' (.pointer (some ⟨h, 0, none⟩)) (by simp) (by simpa [updK] using hx) trivial
            clear hK
            rw [if_pos (by rfl)]
            go_simp
            simpa [upd, d3] using hK'
          · have d4 : t 4 = .pointer (some ⟨h, 0, none⟩) := by simpa using (hdep ⟨4, .data⟩ (by simp) rfl).2
            clear hdep
            have hbb : Below w.heap.size w w' := by split at hx <;> exact hx.below
            have cc : w'.cell? ⟨h, 0, none⟩ = some (.int .u32 gn) := (hbb.cell (p := ⟨h, 0, none⟩) HC.out.1).trans HC.out.2.1
            clear hbb
            have hK' := hK w' (.int .u32 gn) (by simp) (by simpa [updK] using hx) trivial
            clear hK
            rw [if_pos (by rfl)]
            go_simp
            simpa [upd, d4] using hK'
          · have d1 : t 1 = .pointer (some ⟨w.heap.size + 1, 0, none⟩) := by simpa using (hdep ⟨1, .data⟩ (by simp) rfl).2
            have d5 : t 5 = .int .u32 gn := by simpa using (hdep ⟨5, .data⟩ (by simp) rfl).2
            clear hdep
            rw [hLi, if_neg (by decide)] at hx
            have hL : SegL (four gn) [83, 49] [0, 0] (List.replicate 4 0) (List.replicate 32 0) (List.replicate 16 0) (List.replicate 4 0) (List.replicate 4 0) [0, 0] [0, 0] (List.replicate 16 0) (List.replicate 32 0) (List.replicate 4 0) (List.replicate 4 0) := by constructor <;> simp [four]
            have A := setNo_any (w.heap.size + 1) 0 45 60 gn _ w' hx.row (by rw [hL.len]; decide) (by decide) HU.out.1
            rw [show 0 + 60 = 60 from rfl, (hL.put60 gn HU.out.1).1] at A
            have hK' : ∀ ww, Row ww (w.heap.size + 1) 45 (seg (four gn) [83, 49] [0, 0] (List.replicate 4 0) (List.replicate 32 0) (List.replicate 16 0) (four gn) (List.replicate 4 0) [0, 0] [0, 0] (List.replicate 16 0) (List.replicate 32 0) (List.replicate 4 0) (List.replicate 4 0)) → Wr (w.heap.size + 1) w' ww → K _ ww := fun ww h1 h2 => hK ww (.tuple #[]) (by simp [updK]) (by rw [if_pos (by simp [updK])]; exact hx.wr h2 h1) trivial
            clear hK hx hL
            rw [if_pos (by rfl)]
            go_simp
            try simp only [d1, d5]
            refine A.mono ?_
            rintro e w9 ⟨rfl, hr9, hw9⟩
            have hK2 := hK' w9 hr9 hw9
            clear hK' A hr9 hw9
            go_simp
            simpa [upd, d1, d5] using hK2
        case hdone =>
          intro L t w4 hx hg
          have hlast : L 6 = true := by simpa using hg 6 (by decide)
          rw [if_pos hlast] at hx
          clear hg hlast
          have HE4 := hid_of hx
          clear hx
          go_wp2_with fail
          go_roundw
          case rel => exact ⟨1, by decide, by go_num, HE4.out⟩
          case measure => simp [intOf]
    · have HE : Hid (EN w wr (seg (four gn) [83, 49] [0, 0] (List.replicate 4 0) (List.replicate 32 0) (List.replicate 16 0) (four gn) (List.replicate 4 0) [0, 0] [0, 0] (List.replicate 16 0) (List.replicate 32 0) (List.replicate 4 0) (List.replicate 4 0))) := hrel
      clear hrel
      go_wp2_with fail
      refine wp_region_any (by kernel_rfl) ?_
      refine wpAny_slotsU (fun _ _ _ => True) (frame := (fun (c0 c1 c2 c3 c4 c5 c6 c7 c8 c9 c10 c11 c12 c20 c21 c22 c23 c24 c25 c26 c27 c28 c29 c30 c31 c32 c33 c34 c35 c36 c37 c38 c39 c40 c41 c42 c43 c44 c45 c46 c47 c48 c49 c50 c51 c52 c53 c54 c55 c56 c57 c58 c59 c60 c61 c62 c63 c64 c65 c66 c67 c68 c69 c70 c71 c72 c73 c74 c75 c76 c77 c78 c79 c80 c81 c82 c83 c84 c85 c86 c87 c88 : Value) => fun (t : Nat → Value) => ({ tmps := List.toArray (c0 :: c1 :: c2 :: c3 :: c4 :: c5 :: c6 :: c7 :: c8 :: c9 :: c10 :: c11 :: c12 :: t 0 :: t 1 :: t 2 :: t 3 :: t 4 :: t 5 :: t 6 :: c20 :: c21 :: c22 :: c23 :: c24 :: c25 :: c26 :: c27 :: c28 :: c29 :: c30 :: c31 :: c32 :: c33 :: c34 :: c35 :: c36 :: c37 :: c38 :: c39 :: c40 :: c41 :: c42 :: c43 :: c44 :: c45 :: c46 :: c47 :: c48 :: c49 :: c50 :: c51 :: c52 :: c53 :: c54 :: c55 :: c56 :: c57 :: c58 :: c59 :: c60 :: c61 :: c62 :: c63 :: c64 :: c65 :: c66 :: c67 :: c68 :: c69 :: c70 :: c71 :: c72 :: c73 :: c74 :: c75 :: c76 :: c77 :: c78 :: c79 :: c80 :: c81 :: c82 :: c83 :: c84 :: c85 :: c86 :: c87 :: c88 :: []), defers := [] } : Act)) _ _ _ _ _ _ _ _ _ _ _ _ _ _ _ _ _ _ _ _ _ _ _ _ _ _ _ _ _ _ _ _ _ _ _ _ _ _ _ _ _ _ _ _ _ _ _ _ _ _ _ _ _ _ _ _ _ _ _ _ _ _ _ _ _ _ _ _ _ _ _ _ _ _ _ _ _ _ _ _ _ _)
        (Ext := fun L u w' => if L 6 = true then EN w w' (seg (four gn) [83, 49] [0, 0] (List.replicate 4 0) (List.replicate 32 0) (List.replicate 16 0) (four gn) (four gn) [0, 0] [0, 0] (List.replicate 16 0) (List.replicate 32 0) (List.replicate 4 0) (List.replicate 4 0)) else EN w w' (seg (four gn) [83, 49] [0, 0] (List.replicate 4 0) (List.replicate 32 0) (List.replicate 16 0) (four gn) (List.replicate 4 0) [0, 0] [0, 0] (List.replicate 16 0) (List.replicate 32 0) (List.replicate 4 0) (List.replicate 4 0))) (Good := fun i L w' v => if i = 0 then v = .int .i64 1 else if i = 1 then v = .pointer (some ⟨w.heap.size + 1, 64, none⟩) else if i = 2 then v = .pointer (some ⟨h, 0, none⟩) else if i = 3 then v = .pointer (some ⟨h, 0, none⟩) else if i = 4 then v = .pointer (some ⟨h, 0, none⟩) else if i = 5 then v = .int .u32 gn else if i = 6 then L 6 = true else True) ?hstab (by kernel_rfl) ?hop ?hdone _ _ ((fun (x0 x1 x2 x3 x4 x5 x6 : Value) => fun (i : Nat) => if i = 0 then x0 else if i = 1 then x1 else if i = 2 then x2 else if i = 3 then x3 else if i = 4 then x4 else if i = 5 then x5 else if i = 6 then x6 else undef) _ _ _ _ _ _ _) _ (by simp) ?ext ?start (by simp)
      case start => intro i hi h; exact absurd h (by rw [Array.getD_eq_getD_getElem?, Array.getElem?_replicate]; split <;> simp)
      case ext =>
        rw [if_neg (by show ¬ (Array.getD _ _ _ = true); rw [Array.getD_eq_getD_getElem?, Array.getElem?_replicate]; split <;> simp)]
        exact HE.out.drew
      case hstab =>
        intro j L w9 w' i v hM hij hLi h
        by_cases hl : j = 6
        · subst hl
          simp at h ⊢
          unfold updK; simp [h]
        · simp only [if_neg hl] at h ⊢
          exact h
      case hop =>
        intro i o L t w' ho hLi hx hdep K hK
        have hi : i < 7 := (Array.getElem?_eq_some_iff.1 ho).1
        obtain rfl | rfl | rfl | rfl | rfl | rfl | rfl : i = 0 ∨ i = 1 ∨ i = 2 ∨ i = 3 ∨ i = 4 ∨ i = 5 ∨ i = 6 := by omega
        all_goals (simp at ho; subst ho)
        · clear hdep
          have hK' := hK w' (.int .i64 1) (by simp) (by simpa [updK] using hx) trivial
          clear hK
          rw [if_pos (by rfl)]
          go_simp
          simpa [upd] using hK'
        · have d0 : t 0 = .int .i64 1 := by simpa using (hdep ⟨0, .data⟩ (by simp) rfl).2
          clear hdep
          have hK' := hK w' (.pointer (some ⟨w.heap.size + 1, 64, none⟩)) (by simp) (by simpa [updK] using hx) trivial
          clear hK
          rw [if_pos (by rfl)]
          go_simp
          simpa [upd, d0] using hK'
        · clear hdep
          have hK' := hK w' (.pointer (some ⟨h, 0, none⟩)) (by simp) (by simpa [updK] using hx) trivial
          clear hK
          rw [if_pos (by rfl)]
          go_simp
          simpa [upd] using hK'
        · have d2 : t 2 = .pointer (some ⟨h, 0, none⟩) := by simpa using (hdep ⟨2, .data⟩ (by simp) rfl).2
          clear hdep
          have hK' := hK w' (.pointer (some ⟨h, 0, none⟩)) (by simp) (by simpa [updK] using hx) trivial
          clear hK
          rw [if_pos (by rfl)]
          go_simp
          simpa [upd, d2] using hK'
        · have d3 : t 3 = .pointer (some ⟨h, 0, none⟩) := by simpa using (hdep ⟨3, .data⟩ (by simp) rfl).2
          clear hdep
          have hK' := hK w' (.pointer (some ⟨h, 0, none⟩)) (by simp) (by simpa [updK] using hx) trivial
          clear hK
          rw [if_pos (by rfl)]
          go_simp
          simpa [upd, d3] using hK'
        · have d4 : t 4 = .pointer (some ⟨h, 0, none⟩) := by simpa using (hdep ⟨4, .data⟩ (by simp) rfl).2
          clear hdep
          have hbb : Below w.heap.size w w' := by split at hx <;> exact hx.below
          have cc : w'.cell? ⟨h, 0, none⟩ = some (.int .u32 gn) := (hbb.cell (p := ⟨h, 0, none⟩) HC.out.1).trans HC.out.2.1
          clear hbb
          have hK' := hK w' (.int .u32 gn) (by simp) (by simpa [updK] using hx) trivial
          clear hK
          rw [if_pos (by rfl)]
          go_simp
          simpa [upd, d4] using hK'
        · have d1 : t 1 = .pointer (some ⟨w.heap.size + 1, 64, none⟩) := by simpa using (hdep ⟨1, .data⟩ (by simp) rfl).2
          have d5 : t 5 = .int .u32 gn := by simpa using (hdep ⟨5, .data⟩ (by simp) rfl).2
          clear hdep
          rw [hLi, if_neg (by decide)] at hx
          have hL : SegL (four gn) [83, 49] [0, 0] (List.replicate 4 0) (List.replicate 32 0) (List.replicate 16 0) (four gn) (List.replicate 4 0) [0, 0] [0, 0] (List.replicate 16 0) (List.replicate 32 0) (List.replicate 4 0) (List.replicate 4 0) := by constructor <;> simp [four]
          have A := setNo_any (w.heap.size + 1) 64 45 0 gn _ w' hx.row (by rw [hL.len]; decide) (by decide) HU.out.1
          rw [show 64 + 0 = 64 from rfl, (hL.put64 gn HU.out.1).1] at A
          have hK' : ∀ ww, Row ww (w.heap.size + 1) 45 (seg (four gn) [83, 49] [0, 0] (List.replicate 4 0) (List.replicate 32 0) (List.replicate 16 0) (four gn) (four gn) [0, 0] [0, 0] (List.replicate 16 0) (List.replicate 32 0) (List.replicate 4 0) (List.replicate 4 0)) → Wr (w.heap.size + 1) w' ww → K _ ww := fun ww h1 h2 => hK ww (.tuple #[]) (by simp [updK]) (by rw [if_pos (by simp [updK])]; exact hx.wr h2 h1) trivial
          clear hK hx hL
          rw [if_pos (by rfl)]
          go_simp
          try simp only [d1, d5]
          refine A.mono ?_
          rintro e w9 ⟨rfl, hr9, hw9⟩
          have hK2 := hK' w9 hr9 hw9
          clear hK' A hr9 hw9
          go_simp
          simpa [upd, d1, d5] using hK2
      case hdone =>
        intro L t w2 hx hg
        have hlast : L 6 = true := by simpa using hg 6 (by decide)
        rw [if_pos hlast] at hx
        clear hg hlast
        have HE2 : Hid (EN w w2 (seg (four gn) [83, 49] [0, 0] (List.replicate 4 0) (List.replicate 32 0) (List.replicate 16 0) (four gn) (four gn) [0, 0] [0, 0] (List.replicate 16 0) (List.replicate 32 0) (List.replicate 4 0) (List.replicate 4 0))) := hx
        clear hx
        have hL1 : SegL (four gn) [83, 49] [0, 0] (List.replicate 4 0) (List.replicate 32 0) (List.replicate 16 0) (four gn) (four gn) [0, 0] [0, 0] (List.replicate 16 0) (List.replicate 32 0) (List.replicate 4 0) (List.replicate 4 0) := by constructor <;> simp [four]
        have hL2 : SegL (four gn) [83, 49] [0, 0] (List.replicate 4 0) (List.replicate 32 0) (List.replicate 16 0) (four gn) (four gn) [83, 0] [0, 0] (List.replicate 16 0) (List.replicate 32 0) (List.replicate 4 0) (List.replicate 4 0) := by constructor <;> simp [four]
        have cc4 := HE2.out.row.cell 68 (by rw [hL1.len]; decide)
        have cf4 := HE2.out.row.frozen 68
        have HE3 : Hid (EN w (w2.setCell ⟨w.heap.size + 1, 68, none⟩ (.int .u8 83)) (seg (four gn) [83, 49] [0, 0] (List.replicate 4 0) (List.replicate 32 0) (List.replicate 16 0) (four gn) (four gn) [83, 0] [0, 0] (List.replicate 16 0) (List.replicate 32 0) (List.replicate 4 0) (List.replicate 4 0))) := HE2.out.set (hL1.setM' 0 (by decide) 83).1
        have cc5 := HE3.out.row.cell 69 (by rw [hL2.len]; decide)
        have cf5 := HE3.out.row.frozen 69
        have HE5 : Hid (EN w ((w2.setCell ⟨w.heap.size + 1, 68, none⟩ (.int .u8 83)).setCell ⟨w.heap.size + 1, 69, none⟩ (.int .u8 50)) (seg (four gn) [83, 49] [0, 0] (List.replicate 4 0) (List.replicate 32 0) (List.replicate 16 0) (four gn) (four gn) [83, 50] [0, 0] (List.replicate 16 0) (List.replicate 32 0) (List.replicate 4 0) (List.replicate 4 0))) := HE3.out.set (hL2.setM' 1 (by decide) 50).1
        clear hL1 hL2
        go_wp2_with fail
        clear cc4 cf4 cc5 cf5 HE2 HE3
        generalize ((w2.setCell ⟨w.heap.size + 1, 68, none⟩ (.int .u8 83)).setCell ⟨w.heap.size + 1, 69, none⟩ (.int .u8 50)) = w5 at *
        refine wp_region_any (by kernel_rfl) ?_
        refine wpAny_slotsU (fun _ _ _ => True) (frame := (fun (c0 c1 c2 c3 c4 c5 c6 c7 c8 c9 c10 c11 c12 c13 c14 c15 c16 c17 c18 c19 c20 c21 c22 c23 c24 c25 c26 c27 c28 c36 c37 c38 c39 c40 c41 c42 c43 c44 c45 c46 c47 c48 c49 c50 c51 c52 c53 c54 c55 c56 c57 c58 c59 c60 c61 c62 c63 c64 c65 c66 c67 c68 c69 c70 c71 c72 c73 c74 c75 c76 c77 c78 c79 c80 c81 c82 c83 c84 c85 c86 c87 c88 : Value) => fun (t : Nat → Value) => ({ tmps := List.toArray (c0 :: c1 :: c2 :: c3 :: c4 :: c5 :: c6 :: c7 :: c8 :: c9 :: c10 :: c11 :: c12 :: c13 :: c14 :: c15 :: c16 :: c17 :: c18 :: c19 :: c20 :: c21 :: c22 :: c23 :: c24 :: c25 :: c26 :: c27 :: c28 :: t 0 :: t 1 :: t 2 :: t 3 :: t 4 :: t 5 :: t 6 :: c36 :: c37 :: c38 :: c39 :: c40 :: c41 :: c42 :: c43 :: c44 :: c45 :: c46 :: c47 :: c48 :: c49 :: c50 :: c51 :: c52 :: c53 :: c54 :: c55 :: c56 :: c57 :: c58 :: c59 :: c60 :: c61 :: c62 :: c63 :: c64 :: c65 :: c66 :: c67 :: c68 :: c69 :: c70 :: c71 :: c72 :: c73 :: c74 :: c75 :: c76 :: c77 :: c78 :: c79 :: c80 :: c81 :: c82 :: c83 :: c84 :: c85 :: c86 :: c87 :: c88 :: []), defers := [] } : Act)) _ _ _ _ _ _ _ _ _ _ _ _ _ _ _ _ _ _ _ _ _ _ _ _ _ _ _ _ _ _ _ _ _ _ _ _ _ _ _ _ _ _ _ _ _ _ _ _ _ _ _ _ _ _ _ _ _ _ _ _ _ _ _ _ _ _ _ _ _ _ _ _ _ _ _ _ _ _ _ _ _ _)
          (Ext := fun L u w' => if L 6 = true then EN w w' (seg (four gn) [83, 49] [0, 0] (List.replicate 4 0) (List.replicate 32 0) (List.replicate 16 0) (four gn) (four gn) [83, 50] [0, 0] (List.replicate 16 0) (List.replicate 32 0) (List.replicate 4 0) (four gn)) else EN w w' (seg (four gn) [83, 49] [0, 0] (List.replicate 4 0) (List.replicate 32 0) (List.replicate 16 0) (four gn) (four gn) [83, 50] [0, 0] (List.replicate 16 0) (List.replicate 32 0) (List.replicate 4 0) (List.replicate 4 0))) (Good := fun i L w' v => if i = 0 then v = .int .i64 1 else if i = 1 then v = .pointer (some ⟨w.heap.size + 1, 64, none⟩) else if i = 2 then v = .pointer (some ⟨h, 0, none⟩) else if i = 3 then v = .pointer (some ⟨h, 0, none⟩) else if i = 4 then v = .pointer (some ⟨h, 0, none⟩) else if i = 5 then v = .int .u32 gn else if i = 6 then L 6 = true else True) ?hstab (by kernel_rfl) ?hop ?hdone _ _ ((fun (x0 x1 x2 x3 x4 x5 x6 : Value) => fun (i : Nat) => if i = 0 then x0 else if i = 1 then x1 else if i = 2 then x2 else if i = 3 then x3 else if i = 4 then x4 else if i = 5 then x5 else if i = 6 then x6 else undef) _ _ _ _ _ _ _) _ (by simp) ?ext ?start (by simp)
        case start => intro i hi h; exact absurd h (by rw [Array.getD_eq_getD_getElem?, Array.getElem?_replicate]; split <;> simp)
        case ext =>
          rw [if_neg (by show ¬ (Array.getD _ _ _ = true); rw [Array.getD_eq_getD_getElem?, Array.getElem?_replicate]; split <;> simp)]
          exact HE5.out.drew
        case hstab =>
          intro j L w9 w' i v hM hij hLi h
          by_cases hl : j = 6
          · subst hl
            simp at h ⊢
            unfold updK; simp [h]
          · simp only [if_neg hl] at h ⊢
            exact h
        case hop =>
          intro i o L t w' ho hLi hx hdep K hK
          have hi : i < 7 := (Array.getElem?_eq_some_iff.1 ho).1
          obtain rfl | rfl | rfl | rfl | rfl | rfl | rfl : i = 0 ∨ i = 1 ∨ i = 2 ∨ i = 3 ∨ i = 4 ∨ i = 5 ∨ i = 6 := by omega
          all_goals (simp at ho; subst ho)
          · clear hdep
            have hK' := hK w' (.int .i64 1) (by simp) (by simpa [updK] using hx) trivial
            clear hK
            rw [if_pos (by rfl)]
            go_simp
            simpa [upd] using hK'
          · have d0 : t 0 = .int .i64 1 := by simpa using (hdep ⟨0, .data⟩ (by simp) rfl).2
            clear hdep
            have hK' := hK w' (.pointer (some ⟨w.heap.size + 1, 64, none⟩)) (by simp) (by simpa [updK] using hx) trivial
            clear hK
            rw [if_pos (by rfl)]
            go_simp
            simpa [upd, d0] using hK'
          · clear hdep
            have hK' := hK w' (.pointer (some ⟨h, 0, none⟩)) (by simp) (by simpa [updK] using hx) trivial
            clear hK
            rw [if_pos (by rfl)]
            go_simp
            simpa [upd] using hK'
          · have d2 : t 2 = .pointer (some ⟨h, 0, none⟩) := by simpa using (hdep ⟨2, .data⟩ (by simp) rfl).2
            clear hdep
            have hK' := hK w' (.pointer (some ⟨h, 0, none⟩)) (by simp) (by simpa [updK] using hx) trivial
            clear hK
            rw [if_pos (by rfl)]
            go_simp
            simpa [upd, d2] using hK'
          · have d3 : t 3 = .pointer (some ⟨h, 0, none⟩) := by simpa using (hdep ⟨3, .data⟩ (by simp) rfl).2
            clear hdep
            have hK' := hK w' (.pointer (some ⟨h, 0, none⟩)) (by simp) (by simpa [updK] using hx) trivial
            clear hK
            rw [if_pos (by rfl)]
            go_simp
            simpa [upd, d3] using hK'
          · have d4 : t 4 = .pointer (some ⟨h, 0, none⟩) := by simpa using (hdep ⟨4, .data⟩ (by simp) rfl).2
            clear hdep
            have hbb : Below w.heap.size w w' := by split at hx <;> exact hx.below
            have cc : w'.cell? ⟨h, 0, none⟩ = some (.int .u32 gn) := (hbb.cell (p := ⟨h, 0, none⟩) HC.out.1).trans HC.out.2.1
            clear hbb
            have hK' := hK w' (.int .u32 gn) (by simp) (by simpa [updK] using hx) trivial
            clear hK
            rw [if_pos (by rfl)]
            go_simp
            simpa [upd, d4] using hK'
          · have d1 : t 1 = .pointer (some ⟨w.heap.size + 1, 64, none⟩) := by simpa using (hdep ⟨1, .data⟩ (by simp) rfl).2
            have d5 : t 5 = .int .u32 gn := by simpa using (hdep ⟨5, .data⟩ (by simp) rfl).2
            clear hdep
            rw [hLi, if_neg (by decide)] at hx
            have hL : SegL (four gn) [83, 49] [0, 0] (List.replicate 4 0) (List.replicate 32 0) (List.replicate 16 0) (four gn) (four gn) [83, 50] [0, 0] (List.replicate 16 0) (List.replicate 32 0) (List.replicate 4 0) (List.replicate 4 0) := by constructor <;> simp [four]
            have A := setNo_any (w.heap.size + 1) 64 45 60 gn _ w' hx.row (by rw [hL.len]; decide) (by decide) HU.out.1
            rw [show 64 + 60 = 124 from rfl, (hL.put124 gn HU.out.1).1] at A
            have hK' : ∀ ww, Row ww (w.heap.size + 1) 45 (seg (four gn) [83, 49] [0, 0] (List.replicate 4 0) (List.replicate 32 0) (List.replicate 16 0) (four gn) (four gn) [83, 50] [0, 0] (List.replicate 16 0) (List.replicate 32 0) (List.replicate 4 0) (four gn)) → Wr (w.heap.size + 1) w' ww → K _ ww := fun ww h1 h2 => hK ww (.tuple #[]) (by simp [updK]) (by rw [if_pos (by simp [updK])]; exact hx.wr h2 h1) trivial
            clear hK hx hL
            rw [if_pos (by rfl)]
            go_simp
            try simp only [d1, d5]
            refine A.mono ?_
            rintro e w9 ⟨rfl, hr9, hw9⟩
            have hK2 := hK' w9 hr9 hw9
            clear hK' A hr9 hw9
            go_simp
            simpa [upd, d1, d5] using hK2
        case hdone =>
          intro L t w4 hx hg
          have hlast : L 6 = true := by simpa using hg 6 (by decide)
          rw [if_pos hlast] at hx
          clear hg hlast
          have HE4 := hid_of hx
          clear hx
          go_wp2_with fail
          go_roundw
          case rel => exact ⟨2, by decide, by go_num, HE4.out⟩
          case measure => simp [intOf]
    · have HE : Hid (EN w wr (seg (four gn) [83, 49] [0, 0] (List.replicate 4 0) (List.replicate 32 0) (List.replicate 16 0) (four gn) (four gn) [83, 50] [0, 0] (List.replicate 16 0) (List.replicate 32 0) (List.replicate 4 0) (four gn))) := hrel
      clear hrel
      have hL2 : SegL (four gn) [83, 49] [0, 0] (List.replicate 4 0) (List.replicate 32 0) (List.replicate 16 0) (four gn) (four gn) [83, 50] [0, 0] (List.replicate 16 0) (List.replicate 32 0) (List.replicate 4 0) (four gn) := by constructor <;> simp [four]
      have k2 : wr.cell? ⟨h, 2, none⟩ = some (.slice aD nD cD) := (HE.out.below.cell (p := ⟨h, 2, none⟩) HC.out.1).trans HC.out.2.2.2.1
      have cc6 := HE.out.row.cell 6 (by rw [hL2.len]; decide)
      have cf6 := HE.out.row.frozen 6
      have HE6 : Hid (EN w (wr.setCell ⟨w.heap.size + 1, 6, none⟩ (.int .u8 (nD : Int))) (seg (four gn) [83, 49] [(nD : Int), 0] (List.replicate 4 0) (List.replicate 32 0) (List.replicate 16 0) (four gn) (four gn) [83, 50] [0, 0] (List.replicate 16 0) (List.replicate 32 0) (List.replicate 4 0) (four gn))) := HE.out.set (hL2.setC 0 (by decide) (nD : Int)).1
      clear hL2
      have k1 : (wr.setCell ⟨w.heap.size + 1, 6, none⟩ (.int .u8 (nD : Int))).cell? ⟨h, 1, none⟩ = some (.int .u32 tl) := (HE6.out.below.cell (p := ⟨h, 1, none⟩) HC.out.1).trans HC.out.2.2.1
      go_wp2_with fail
      clear cc6 cf6 k2 k1 HE
      generalize (wr.setCell ⟨w.heap.size + 1, 6, none⟩ (.int .u8 (nD : Int))) = w6 at *
      have hL3 : SegL (four gn) [83, 49] [(nD : Int), 0] (List.replicate 4 0) (List.replicate 32 0) (List.replicate 16 0) (four gn) (four gn) [83, 50] [0, 0] (List.replicate 16 0) (List.replicate 32 0) (List.replicate 4 0) (four gn) := by constructor <;> simp [four]
      have A := setNo_any (w.heap.size + 1) 0 45 8 tl _ w6 HE6.out.row (by rw [hL3.len]; decide) (by decide) HU.out.2
      rw [show 0 + 8 = 8 from rfl, (hL3.put8 tl HU.out.2).1] at A
      refine A.mono ?_
      rintro e w7 ⟨rfl, hr7, hw7⟩
      have HE7 : Hid (EN w w7 (seg (four gn) [83, 49] [(nD : Int), 0] (four tl) (List.replicate 32 0) (List.replicate 16 0) (four gn) (four gn) [83, 50] [0, 0] (List.replicate 16 0) (List.replicate 32 0) (List.replicate 4 0) (four gn))) := HE6.out.wr hw7 hr7
      clear A hr7 hw7 HE6 hL3
      have k3 : w7.cell? ⟨h, 3, none⟩ = some (.slice aU nU cU) := (HE7.out.below.cell (p := ⟨h, 3, none⟩) HC.out.1).trans HC.out.2.2.2.2
      go_wp2_with fail
      clear k3
      refine (setOf_any aU nU cU U w7 HL.out.2 mU (HA.out.2.below HE7.out.below)).mono ?_
      rintro e w8 ⟨bs, rfl, hbl, hbb, hset, hb8⟩
      obtain rfl := set_bits bs U (hset HP.out.2.2.2.2.2)
      have HE8 : Hid (EN w w8 (seg (four gn) [83, 49] [(nD : Int), 0] (four tl) (List.replicate 32 0) (List.replicate 16 0) (four gn) (four gn) [83, 50] [0, 0] (List.replicate 16 0) (List.replicate 32 0) (List.replicate 4 0) (four gn))) := HE7.out.low hb8
      clear hset hb8 HE7
      have HN : Hid ((w8.alloc (.cells #[.int .u8 0, .int .u8 0, .int .u8 0, .int .u8 0, .int .u8 0, .int .u8 0, .int .u8 0, .int .u8 0, .int .u8 0, .int .u8 0, .int .u8 0, .int .u8 0, .int .u8 0, .int .u8 0, .int .u8 0, .int .u8 0, .int .u8 0, .int .u8 0, .int .u8 0, .int .u8 0, .int .u8 0, .int .u8 0, .int .u8 0, .int .u8 0, .int .u8 0, .int .u8 0, .int .u8 0, .int .u8 0, .int .u8 0, .int .u8 0, .int .u8 0, .int .u8 0] 83)).heap[w8.heap.size]? = some (.cells #[.int .u8 0, .int .u8 0, .int .u8 0, .int .u8 0, .int .u8 0, .int .u8 0, .int .u8 0, .int .u8 0, .int .u8 0, .int .u8 0, .int .u8 0, .int .u8 0, .int .u8 0, .int .u8 0, .int .u8 0, .int .u8 0, .int .u8 0, .int .u8 0, .int .u8 0, .int .u8 0, .int .u8 0, .int .u8 0, .int .u8 0, .int .u8 0, .int .u8 0, .int .u8 0, .int .u8 0, .int .u8 0, .int .u8 0, .int .u8 0, .int .u8 0, .int .u8 0] 83 (0, 0))) := heap_alloc_new w8 _
      have HB : Hid ((bitsL U 32).length = 32 ∧ Byte (bitsL U 32)) := ⟨hbl, hbb⟩
      clear hbl hbb
      generalize hbq : bitsL U 32 = bq at HB
      have HBQ := hid_of hbq
      clear hbq
      have HSZ : Hid ((Try.prog.info? 83).map (·.size) = some (bq.map (Value.int .u8)).toArray.size) := by show _ = _; rw [List.size_toArray, List.length_map, HB.out.1]; kernel_rfl
      have HEQ : Hid ((#[.int .u8 0, .int .u8 0, .int .u8 0, .int .u8 0, .int .u8 0, .int .u8 0, .int .u8 0, .int .u8 0, .int .u8 0, .int .u8 0, .int .u8 0, .int .u8 0, .int .u8 0, .int .u8 0, .int .u8 0, .int .u8 0, .int .u8 0, .int .u8 0, .int .u8 0, .int .u8 0, .int .u8 0, .int .u8 0, .int .u8 0, .int .u8 0, .int .u8 0, .int .u8 0, .int .u8 0, .int .u8 0, .int .u8 0, .int .u8 0, .int .u8 0, .int .u8 0] : Array Value).size = (bq.map (Value.int .u8)).toArray.size) := by show _ = _; rw [show (bq.map (Value.int .u8)).toArray.size = 32 by rw [List.size_toArray, List.length_map]; exact HB.out.1]; rfl
      have HOK : Hid ((bq.map (Value.int .u8)).toArray.all (fun x => x.oneCell') = true) := by show _ = _; simp [Value.oneCell']
      go_upto_region 13 with (first
        | (refine wpList_store_row rfl 83 (.tmp 5) (.tmp 57) rfl w8.heap.size (bq.map (Value.int .u8)).toArray rfl rfl 83 _ HN.out HSZ.out HEQ.out HOK.out ?_)
        | fail)
      have HX9 : Hid (EN w ((w8.alloc (.cells #[.int .u8 0, .int .u8 0, .int .u8 0, .int .u8 0, .int .u8 0, .int .u8 0, .int .u8 0, .int .u8 0, .int .u8 0, .int .u8 0, .int .u8 0, .int .u8 0, .int .u8 0, .int .u8 0, .int .u8 0, .int .u8 0, .int .u8 0, .int .u8 0, .int .u8 0, .int .u8 0, .int .u8 0, .int .u8 0, .int .u8 0, .int .u8 0, .int .u8 0, .int .u8 0, .int .u8 0, .int .u8 0, .int .u8 0, .int .u8 0, .int .u8 0, .int .u8 0] 83)).setRow w8.heap.size (bq.map (Value.int .u8)).toArray) (seg (four gn) [83, 49] [(nD : Int), 0] (four tl) (List.replicate 32 0) (List.replicate 16 0) (four gn) (four gn) [83, 50] [0, 0] (List.replicate 16 0) (List.replicate 32 0) (List.replicate 4 0) (four gn)) ∧ Row ((w8.alloc (.cells #[.int .u8 0, .int .u8 0, .int .u8 0, .int .u8 0, .int .u8 0, .int .u8 0, .int .u8 0, .int .u8 0, .int .u8 0, .int .u8 0, .int .u8 0, .int .u8 0, .int .u8 0, .int .u8 0, .int .u8 0, .int .u8 0, .int .u8 0, .int .u8 0, .int .u8 0, .int .u8 0, .int .u8 0, .int .u8 0, .int .u8 0, .int .u8 0, .int .u8 0, .int .u8 0, .int .u8 0, .int .u8 0, .int .u8 0, .int .u8 0, .int .u8 0, .int .u8 0] 83)).setRow w8.heap.size (bq.map (Value.int .u8)).toArray) w8.heap.size 83 bq) := ⟨(HE8.out.low (below_new w8 _)).oth (Wr.setRow _ _ _) (Nat.ne_of_gt HE8.out.row.lt) (by have := HE8.out.row.lt; omega) (by have := HE8.out.row.lt; omega), setRow_heap _ _ _ _ _ _ HN.out⟩
      clear HN HSZ HEQ HOK HE8
      generalize ((w8.alloc (.cells #[.int .u8 0, .int .u8 0, .int .u8 0, .int .u8 0, .int .u8 0, .int .u8 0, .int .u8 0, .int .u8 0, .int .u8 0, .int .u8 0, .int .u8 0, .int .u8 0, .int .u8 0, .int .u8 0, .int .u8 0, .int .u8 0, .int .u8 0, .int .u8 0, .int .u8 0, .int .u8 0, .int .u8 0, .int .u8 0, .int .u8 0, .int .u8 0, .int .u8 0, .int .u8 0, .int .u8 0, .int .u8 0, .int .u8 0, .int .u8 0, .int .u8 0, .int .u8 0] 83)).setRow w8.heap.size (bq.map (Value.int .u8)).toArray) = w10 at *
      generalize w8.heap.size = q at *
      refine wp_region_any (by kernel_rfl) ?_
      refine wpAny_slotsU (fun _ _ _ => True) (frame := (fun (c0 c1 c2 c3 c4 c5 c6 c7 c8 c9 c10 c11 c12 c13 c14 c15 c16 c17 c18 c19 c20 c21 c22 c23 c24 c25 c26 c27 c28 c29 c30 c31 c32 c33 c34 c35 c36 c37 c38 c39 c40 c41 c42 c43 c44 c45 c46 c47 c48 c49 c50 c51 c52 c53 c54 c55 c56 c57 c58 c63 c64 c65 c66 c67 c68 c69 c70 c71 c72 c73 c74 c75 c76 c77 c78 c79 c80 c81 c82 c83 c84 c85 c86 c87 c88 : Value) => fun (t : Nat → Value) => ({ tmps := List.toArray (c0 :: c1 :: c2 :: c3 :: c4 :: c5 :: c6 :: c7 :: c8 :: c9 :: c10 :: c11 :: c12 :: c13 :: c14 :: c15 :: c16 :: c17 :: c18 :: c19 :: c20 :: c21 :: c22 :: c23 :: c24 :: c25 :: c26 :: c27 :: c28 :: c29 :: c30 :: c31 :: c32 :: c33 :: c34 :: c35 :: c36 :: c37 :: c38 :: c39 :: c40 :: c41 :: c42 :: c43 :: c44 :: c45 :: c46 :: c47 :: c48 :: c49 :: c50 :: c51 :: c52 :: c53 :: c54 :: c55 :: c56 :: c57 :: c58 :: t 0 :: t 1 :: t 2 :: t 3 :: c63 :: c64 :: c65 :: c66 :: c67 :: c68 :: c69 :: c70 :: c71 :: c72 :: c73 :: c74 :: c75 :: c76 :: c77 :: c78 :: c79 :: c80 :: c81 :: c82 :: c83 :: c84 :: c85 :: c86 :: c87 :: c88 :: []), defers := [] } : Act)) _ _ _ _ _ _ _ _ _ _ _ _ _ _ _ _ _ _ _ _ _ _ _ _ _ _ _ _ _ _ _ _ _ _ _ _ _ _ _ _ _ _ _ _ _ _ _ _ _ _ _ _ _ _ _ _ _ _ _ _ _ _ _ _ _ _ _ _ _ _ _ _ _ _ _ _ _ _ _ _ _ _ _ _ _)
        (Ext := fun L u w' => if L 3 = true then EN w w' (seg (four gn) [83, 49] [(nD : Int), 0] (four tl) bq (List.replicate 16 0) (four gn) (four gn) [83, 50] [0, 0] (List.replicate 16 0) (List.replicate 32 0) (List.replicate 4 0) (four gn)) else EN w w' (seg (four gn) [83, 49] [(nD : Int), 0] (four tl) (List.replicate 32 0) (List.replicate 16 0) (four gn) (four gn) [83, 50] [0, 0] (List.replicate 16 0) (List.replicate 32 0) (List.replicate 4 0) (four gn)) ∧ Row w' q 83 bq) (Good := fun i L w' v => if i = 0 then v = .pointer (some ⟨w.heap.size + 1, 0, none⟩) else if i = 1 then v = .slice (some ⟨w.heap.size + 1, 12, none⟩) 52 52 else if i = 2 then v = .slice (some ⟨q, 0, none⟩) 32 32 else if i = 3 then L 3 = true else True) ?hstab (by kernel_rfl) ?hop ?hdone _ _ ((fun (x0 x1 x2 x3 : Value) => fun (i : Nat) => if i = 0 then x0 else if i = 1 then x1 else if i = 2 then x2 else if i = 3 then x3 else undef) _ _ _ _) _ (by simp) ?ext ?start (by simp)
      case start => intro i hi h; exact absurd h (by rw [Array.getD_eq_getD_getElem?, Array.getElem?_replicate]; split <;> simp)
      case ext =>
        rw [if_neg (by show ¬ (Array.getD _ _ _ = true); rw [Array.getD_eq_getD_getElem?, Array.getElem?_replicate]; split <;> simp)]
        exact ⟨HX9.out.1.drew, HX9.out.2⟩
      case hstab =>
        intro j L w9 w' i v hM hij hLi h
        by_cases hl : j = 3
        · subst hl
          simp at h ⊢
          unfold updK; simp [h]
        · simp only [if_neg hl] at h ⊢
          exact h
      case hop =>
        intro i o L t w' ho hLi hx hdep K hK
        have hi : i < 4 := (Array.getElem?_eq_some_iff.1 ho).1
        obtain rfl | rfl | rfl | rfl : i = 0 ∨ i = 1 ∨ i = 2 ∨ i = 3 := by omega
        all_goals (simp at ho; subst ho)
        · clear hdep
          have hK' := hK w' (.pointer (some ⟨w.heap.size + 1, 0, none⟩)) (by simp) (by simpa [updK] using hx) trivial
          clear hK
          rw [if_pos (by rfl)]
          go_simp
          simpa [upd] using hK'
        · have d0 : t 0 = .pointer (some ⟨w.heap.size + 1, 0, none⟩) := by simpa using (hdep ⟨0, .data⟩ (by simp) rfl).2
          clear hdep
          have hK' := hK w' (.slice (some ⟨w.heap.size + 1, 12, none⟩) 52 52) (by simp) (by simpa [updK] using hx) trivial
          clear hK
          rw [if_pos (by rfl)]
          go_simp
          simpa [upd, d0] using hK'
        · clear hdep
          have hK' := hK w' (.slice (some ⟨q, 0, none⟩) 32 32) (by simp) (by simpa [updK] using hx) trivial
          clear hK
          rw [if_pos (by rfl)]
          go_simp
          simpa [upd] using hK'
        · have d1 : t 1 = .slice (some ⟨w.heap.size + 1, 12, none⟩) 52 52 := by simpa using (hdep ⟨1, .data⟩ (by simp) rfl).2
          have d2 : t 2 = .slice (some ⟨q, 0, none⟩) 32 32 := by simpa using (hdep ⟨2, .data⟩ (by simp) rfl).2
          clear hdep
          rw [hLi, if_neg (by decide)] at hx
          have hL : SegL (four gn) [83, 49] [(nD : Int), 0] (four tl) (List.replicate 32 0) (List.replicate 16 0) (four gn) (four gn) [83, 50] [0, 0] (List.replicate 16 0) (List.replicate 32 0) (List.replicate 4 0) (four gn) := by constructor <;> simp [four]
          rw [if_pos (by rfl)]
          refine wp_copyG (.tmp 60) (.tmp 61) rfl (some ⟨w.heap.size + 1, 12, none⟩) (some ⟨q, 0, none⟩) (w.heap.size + 1) 12 52 52 32 32 d1 d2 _ 45 hx.1.row bq (by rw [HB.out.1]; rfl) (fun _ => ⟨rfl, _, rfl, fun j hj => ?_⟩) (by rw [HB.out.1, List.size_toArray, List.length_map, hL.len]; decide) ?_
          · rw [Addr.add_lit, Nat.zero_add, Row.cell hx.2 j hj]
          · intro w2 h2 hw2
            have hrow : Row w2 (w.heap.size + 1) 45 (seg (four gn) [83, 49] [(nD : Int), 0] (four tl) bq (List.replicate 16 0) (four gn) (four gn) [83, 50] [0, 0] (List.replicate 16 0) (List.replicate 32 0) (List.replicate 4 0) (four gn)) := by
              unfold Row; rw [h2, HB.out.1, ← (hL.putB bq HB.out.1).1]; simp [List.map_take, List.map_drop]
            exact hK w2 _ (by simp [updK]) (by rw [if_pos (by simp [updK])]; exact hx.1.wr hw2 hrow) trivial
      case hdone =>
        intro L t w13 hx hg
        have hlast : L 3 = true := by simpa using hg 3 (by decide)
        rw [if_pos hlast] at hx
        clear hg hlast
        have HE13 := hid_of hx
        clear hx HX9
        have hdn : Hid (EN w w13 (seg (four gn) [83, 49] [(nD : Int), 0] (four tl) bq (denL (D.take 0) 0 8) (four gn) (four gn) [83, 50] [0, 0] (denL (D.take 0) 8 8) (List.replicate 32 0) (List.replicate 4 0) (four gn))) := by show EN _ _ _; rw [List.take_zero, denL_nil, denL_nil]; exact HE13.out
        have k2 : w13.cell? ⟨h, 2, none⟩ = some (.slice aD nD cD) := (HE13.out.below.cell (p := ⟨h, 2, none⟩) HC.out.1).trans HC.out.2.2.2.1
        clear HE13
        go_wp2_with fail
        clear k2
        go_loopw [68] (fun i wz => ∃ k : Nat, k ≤ nD ∧ i = .int .i64 k ∧ Hid (EN w wz (seg (four gn) [83, 49] [(nD : Int), 0] (four tl) bq (denL (D.take k) 0 8) (four gn) (four gn) [83, 50] [0, 0] (denL (D.take k) 8 8) (List.replicate 32 0) (List.replicate 4 0) (four gn)))) (fun i _ => nD - (intOf i).toNat)
        case atStart => exact ⟨0, Nat.zero_le _, rfl, hdn⟩
        case round =>
          obtain ⟨k, hk, rfl, HK⟩ := hrel
          clear hdn
          by_cases hlt : k < nD
          · obtain h0 | ⟨b, off, rfl, hbl, hcl⟩ := HA.out.1.below HK.out.below
            · exfalso; have := HL.out.1; rw [h0] at this; simp at this; omega
            have hck := hcl k (by rw [HL.out.1]; exact hlt)
            clear hcl hbl
            obtain ⟨x, hxd⟩ : ∃ x, x = D.getD k 0 := ⟨_, rfl⟩
            rw [← hxd] at hck
            have HXD : Hid (x = D.getD k 0 ∧ (D.getD k 0 % 256 = D.getD k 0 ∧ D.getD k 0 / 256 % 256 = 0)) := by
              have h1 := HP.out.2.2.2.1 k (by rw [HL.out.1]; exact hlt)
              unfold okI at h1
              exact ⟨hxd, by omega, by omega⟩
            clear hxd
            have hk16 : k < 16 := by have := HP.out.2.2.2.2.1; have := HL.out.1; omega
            go_wp2_with fail
            clear hck
            refine (denyP_any (w.heap.size + 1) k _ hk16).mono ?_
            rintro e w9 ⟨c, rfl, hw9⟩
            subst w9
            have hL : SegL (four gn) [83, 49] [(nD : Int), 0] (four tl) bq (denL (D.take k) 0 8) (four gn) (four gn) [83, 50] [0, 0] (denL (D.take k) 8 8) (List.replicate 32 0) (List.replicate 4 0) (four gn) := by constructor <;> simp [four, HB.out.1, denL_len]
            by_cases h8 : k < 8
            · rw [if_pos h8]
              have cc0 := HK.out.row.cell (44 + 2 * k) (by rw [hL.len]; omega)
              have cf0 := HK.out.row.frozen (44 + 2 * k)
              have H1 := hL.setD (2 * k) (by omega) (x % 256)
              have HE1 := HK.out.set H1.1
              have cc1 := HE1.row.cell (44 + 2 * k + 1) (by rw [H1.2.len]; omega)
              have cf1 := HE1.row.frozen (44 + 2 * k + 1)
              have H2 := H1.2.setD (2 * k + 1) (by omega) (x / 256 % 256)
              have HE2 := hid_of (HE1.set (o := 44 + 2 * k + 1) H2.1)
              have hdp := den_put D 0 k (by rw [HL.out.1]; exact hlt) (Nat.zero_le _) (by omega) HXD.out.2
              rw [Nat.sub_zero, ← HXD.out.1] at hdp
              rw [hdp, ← den_out D 8 k (by omega)] at HE2
              clear hdp H1 H2 HE1 hL HXD HK
              go_wp2_with fail
              clear cc0 cf0 cc1 cf1
              go_roundw
              case rel => exact ⟨k + 1, by omega, by go_num, HE2.out⟩
              case measure => simp [intOf]; omega
            · rw [if_neg h8]
              have hpe : 56 + 2 * k = 72 + 2 * (k - 8) := by omega
              have cc0 := HK.out.row.cell (56 + 2 * k) (by rw [hL.len]; omega)
              have cf0 := HK.out.row.frozen (56 + 2 * k)
              have H1 := hL.setD' (2 * (k - 8)) (by omega) (x % 256)
              rw [← hpe] at H1
              have HE1 := HK.out.set H1.1
              have cc1 := HE1.row.cell (56 + 2 * k + 1) (by rw [H1.2.len]; omega)
              have cf1 := HE1.row.frozen (56 + 2 * k + 1)
              have H2 := H1.2.setD' (2 * (k - 8) + 1) (by omega) (x / 256 % 256)
              rw [← Nat.add_assoc, ← hpe] at H2
              have HE2 := hid_of (HE1.set (o := 56 + 2 * k + 1) H2.1)
              have hdp := den_put D 8 k (by rw [HL.out.1]; exact hlt) (by omega) (by omega) HXD.out.2
              rw [← HXD.out.1] at hdp
              rw [hdp, ← den_out D 0 k (by omega)] at HE2
              clear hdp H1 H2 HE1 hL HXD HK hpe
              go_wp2_with fail
              clear cc0 cf0 cc1 cf1
              go_roundw
              case rel => exact ⟨k + 1, by omega, by go_num, HE2.out⟩
              case measure => simp [intOf]; omega
          · have hke : k = nD := by omega
            subst hke
            have HZ : Hid (EN w wr (seg (four gn) [83, 49] [(k : Int), 0] (four tl) bq (denL D 0 8) (four gn) (four gn) [83, 50] [0, 0] (denL D 8 8) (List.replicate 32 0) (List.replicate 4 0) (four gn))) := by
              have := HK.out
              rw [show D.take k = D from List.take_of_length_le (by rw [HL.out.1]; omega)] at this
              exact this
            clear HK
            have hL : SegL (four gn) [83, 49] [(k : Int), 0] (four tl) bq (denL D 0 8) (four gn) (four gn) [83, 50] [0, 0] (denL D 8 8) (List.replicate 32 0) (List.replicate 4 0) (four gn) := by constructor <;> simp [four, HB.out.1, denL_len]
            have hdr : ∀ z ∈ D, 0 ≤ z ∧ z < 256 := fun z hz => by
              obtain ⟨i, hi, rfl⟩ := List.getElem_of_mem hz
              have := HP.out.2.2.2.1 i hi
              unfold okI at this
              rw [show D.getD i 0 = D[i] by simp [List.getD, hi]] at this
              exact ⟨this.1, this.2.1⟩
            have hz32 : Byte (List.replicate 32 0) := fun z hz => by simp at hz; omega
            have hz4 : Byte (List.replicate 4 0) := fun z hz => by simp at hz; omega
            have hk16 : k ≤ 16 := by have := HP.out.2.2.2.2.1; have := HL.out.1; omega
            have HBY : Hid (Byte (seg (four gn) [83, 49] [(k : Int), 0] (four tl) bq (denL D 0 8) (four gn) (four gn) [83, 50] [0, 0] (denL D 8 8) (List.replicate 32 0) (List.replicate 4 0) (four gn))) := (four_byte gn HU.out.1).app ((byte2 (by decide) (by decide)).app ((byte2 (by omega) (by decide)).app ((four_byte tl HU.out.2).app (HB.out.2.app ((den_byte D 0 8 hdr).app ((four_byte gn HU.out.1).app ((four_byte gn HU.out.1).app ((byte2 (by decide) (by decide)).app ((byte2 (by decide) (by decide)).app ((den_byte D 8 8 hdr).app (hz32.app (hz4.app (four_byte gn HU.out.1)))))))))))))
            clear hdr hz32 hz4 hk16
            have A := hid_of (ssum_any (w.heap.size + 1) _ wr HZ.out.row hL.len HBY.out)
            obtain ⟨cr, hcr⟩ : ∃ cr, cr = crc ((seg (four gn) [83, 49] [(k : Int), 0] (four tl) bq (denL D 0 8) (four gn) (four gn) [83, 50] [0, 0] (denL D 8 8) (List.replicate 32 0) (List.replicate 4 0) (four gn)).take 120) := ⟨_, rfl⟩
            have HS : Hid (seg (four gn) [83, 49] [(k : Int), 0] (four tl) bq (denL D 0 8) (four gn) (four gn) [83, 50] [0, 0] (denL D 8 8) (List.replicate 32 0) (four cr) (four gn) = snL gn tl D U) := by
              show _ = _
              rw [hcr, ← HBQ.out, ← HL.out.1]; exact seg_end gn tl D U _
            have HU2 : Hid (U32 cr) := by show U32 cr; rw [hcr]; exact crc_bd _
            rw [← hcr] at A
            have HL6 := hid_of hL
            clear hcr hL HBY HBQ
            go_wp2_with fail
            refine A.out.mono ?_
            rintro e w20 ⟨rfl, hb20⟩
            have HE20 : Hid (EN w w20 (seg (four gn) [83, 49] [(k : Int), 0] (four tl) bq (denL D 0 8) (four gn) (four gn) [83, 50] [0, 0] (denL D 8 8) (List.replicate 32 0) (List.replicate 4 0) (four gn))) := HZ.out.low hb20
            clear A HZ hb20
            go_wp2_with fail
            have A := setNo_any (w.heap.size + 1) 64 45 56 cr _ w20 HE20.out.row (by rw [HL6.out.len]; decide) (by decide) HU2.out
            rw [show 64 + 56 = 120 from rfl, (HL6.out.put120 cr HU2.out).1] at A
            refine A.mono ?_
            rintro e w21 ⟨rfl, hr21, hw21⟩
            have HE21 : Hid (EN w w21 (seg (four gn) [83, 49] [(k : Int), 0] (four tl) bq (denL D 0 8) (four gn) (four gn) [83, 50] [0, 0] (denL D 8 8) (List.replicate 32 0) (four cr) (four gn)) ∧ (seg (four gn) [83, 49] [(k : Int), 0] (four tl) bq (denL D 0 8) (four gn) (four gn) [83, 50] [0, 0] (denL D 8 8) (List.replicate 32 0) (four cr) (four gn)).length = 128) := ⟨HE20.out.wr hw21 hr21, (HL6.out.put120 cr HU2.out).2.len⟩
            clear A hr21 hw21 HE20 HL6 HU2
            generalize hzz : seg (four gn) [83, 49] [(k : Int), 0] (four tl) bq (denL D 0 8) (four gn) (four gn) [83, 50] [0, 0] (denL D 8 8) (List.replicate 32 0) (four cr) (four gn) = zz at HE21 HS
            clear hzz
            have HRW : Hid (w21.heap[w.heap.size + 1]? = some (.cells (zz.map (Value.int .u8)).toArray 45 (0, 0))) := HE21.out.1.row
            have HRB : Hid (w21.heap[w.heap.size]? = some (.cells Try.zeroCells45 45 (0, 0))) := HE21.out.1.rb
            have hsz : (zz.map (Value.int .u8)).toArray.size = 128 := by rw [List.size_toArray, List.length_map]; exact HE21.out.2
            have HSZ : Hid ((Try.prog.info? 45).map (·.size) = some (zz.map (Value.int .u8)).toArray.size) := by show _ = _; rw [hsz]; kernel_rfl
            have HEQ : Hid ((Try.zeroCells45).size = (zz.map (Value.int .u8)).toArray.size) := by show _ = _; rw [hsz]; kernel_rfl
            have HOK : Hid ((zz.map (Value.int .u8)).toArray.all (fun x => x.oneCell') = true) := by show _ = _; simp [Value.oneCell']
            have HF : Hid (Below w.heap.size w (w21.setRow w.heap.size (zz.map (Value.int .u8)).toArray)) := HE21.out.1.below.trans ((Wr.setRow _ _ _).below (Nat.le_refl _))
            clear hsz HE21
            go_wp2_with (first
              | (refine wpList_load_row rfl 45 (.tmp 3) rfl (w.heap.size + 1) rfl 45 _ (0, 0) _ HRW.out Try.underlying45 rfl HSZ.out ?_)
              | (refine wpList_store_row rfl 45 (.tmp 2) (.tmp 88) rfl w.heap.size (zz.map (Value.int .u8)).toArray rfl rfl 45 _ HRB.out HSZ.out HEQ.out HOK.out ?_)
              | fail)
            exact bodyPost_ret (v := .agg (zz.map (Value.int .u8)).toArray) (results_cell_row rfl _ _ w.heap.size 45 _ (0, 0) _ rfl (setRow_heap _ _ _ _ _ _ HRB.out) Try.underlying45 rfl HSZ.out) rfl ⟨by rw [HS.out], HF.out⟩
end Go.Proofs.Ytmnoelfabldpfaa
