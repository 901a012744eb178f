/-
  Own work: the code of a snap, by the model (written by wip/mksnu.py).
-/
import Derived.Test.YtmnoelfabldpfaaMSnT
import Derived.Test.YtmnoelfabldpfaaMSnB
import Derived.Test.YtmnoelfabldpfaaMSnB
namespace Go.Proofs.Ytmnoelfabldpfaa
open Go.ChangeShapes Go.WideShapes Go.ChangeAt Go.RowKit
set_option linter.unusedVariables false

/-- A constant of two bytes, just made. -/
def CnS (lo : Nat) (w : World) (v : Value) (x y : Int) : Prop := ∃ g fr, v = .slice (some ⟨g, 0, none⟩) 2 2 ∧ lo ≤ g ∧ w.heap[g]? = some (Obj.cells #[.int .u8 x, .int .u8 y] 5 fr)
theorem CnS.mono {lo : Nat} {w w' : World} {v : Value} {x y : Int} (h : CnS lo w v x y) (hm : Mono w w') : CnS lo w' v x y := by
  obtain ⟨g, fr, e, h1, h2⟩ := h; obtain ⟨fr', h3⟩ := hm.block g _ _ _ h2; exact ⟨g, fr', e, h1, h3⟩
/-- A list of texts. -/
def PtL (w : World) (v : Value) (zss : List (List Int)) : Prop := ∃ g vs, v = .slice (some ⟨g, 0, none⟩) zss.length zss.length ∧ g < w.heap.size ∧ ∀ i, i < zss.length → w.cell? ⟨g, i, none⟩ = some (List.getD vs i undef) ∧ Part w (List.getD vs i undef) (zss.getD i [])
theorem PtL.mono {w w' : World} {v : Value} {zss : List (List Int)} (h : PtL w v zss) (hm : Mono w w') : PtL w' v zss := by
  obtain ⟨g, vs, e, h1, h2⟩ := h
  exact ⟨g, vs, e, by have := hm.size; omega, fun i hi => ⟨by rw [hm.cell ⟨g, i, none⟩ h1]; exact (h2 i hi).1, (h2 i hi).2.mono hm⟩⟩
theorem PtL.new (w : World) (T : TypeId) (ps : List (Value × List Int)) (h : ∀ p ∈ ps, Part w p.1 p.2) : PtL (w.alloc (.cells (ps.map (·.1)).toArray T)) (.slice (some ⟨w.heap.size, 0, none⟩) ps.length ps.length) (ps.map (·.2)) := by
  refine ⟨w.heap.size, ps.map (·.1), by simp, by simp, fun i hi => ?_⟩
  have hi' : i < ps.length := by simpa using hi
  refine ⟨by rw [cell_of_row _ _ _ _ _ _ (heap_alloc_new w _)]; simp [hi'], ?_⟩
  have := (h ps[i] (List.getElem_mem hi')).mono (Mono.of_below (below_new w (.cells (ps.map (·.1)).toArray T)))
  simpa [hi'] using this
/-- The world while the statement runs: the parameter's box stands. -/
structure XM (w : World) (sc : Array Value) (W w' : World) : Prop where
  below : Below W.heap.size W w'
  mono : Mono W w'
  ww : Below w.heap.size w W
  bx : W.heap[w.heap.size]? = some (.cells sc 26 (0, 0))
section
variable {w W w' w'' : World} {sc : Array Value}
theorem XM.all (h : XM w sc W w') : Below w.heap.size w w' := h.ww.trans (h.below.mono h.ww.size)
theorem XM.drew (h : XM w sc W w') : XM w sc W w'.drew := ⟨⟨h.below.os, h.below.tape, h.below.output, h.below.size, h.below.block⟩, ⟨h.mono.size, h.mono.cell, h.mono.block⟩, h.ww, h.bx⟩
theorem XM.step (h : XM w sc W w') (hb : Below W.heap.size w' w'') (hm : Mono w' w'') : XM w sc W w'' :=
  ⟨h.below.trans hb, ⟨Nat.le_trans h.mono.size hm.size, fun a ha => (hm.cell a (Nat.lt_of_lt_of_le ha h.mono.size)).trans (h.mono.cell a ha), fun b cs t fr hh => by obtain ⟨fr', h1⟩ := h.mono.block b cs t fr hh; exact hm.block b cs t fr' h1⟩, h.ww, h.bx⟩
theorem XM.grow (h : XM w sc W w') (hb : Below w'.heap.size w' w'') : XM w sc W w'' := h.step (hb.mono h.below.size) (Mono.of_below hb)
theorem XM.cellX (h : XM w sc W w') (i : Nat) : w'.cell? ⟨w.heap.size, i, none⟩ = sc[i]? := by
  have hl : w.heap.size < W.heap.size := (Array.getElem?_eq_some_iff.1 h.bx).1
  rw [h.mono.cell ⟨w.heap.size, i, none⟩ hl, cell_of_row W _ i _ _ _ h.bx]
end
theorem P5_len {gn : Int} {D : List Int} : ([four gn, [83, 50], [0, 0], denL D 8 8, List.replicate 32 0] : List (List Int)).flatten.length = 56 := by simp [four, denL_len]
theorem BODY_len {gn tl : Int} {D U : List Int} {nD : Nat} : (([([four gn, [83, 49], [(nD : Int), 0], four tl, bitsL U 32, denL D 0 8, four gn]).flatten, ([four gn, [83, 50], [0, 0], denL D 8 8, List.replicate 32 0] : List (List Int)).flatten] : List (List Int)).flatten).length = 120 := by simp [four, bitsL_len, denL_len]
theorem bits_byte (xs : List Int) : Byte (bitsL xs 32) := fun z hz => by
  unfold bitsL at hz
  obtain ⟨i, _, rfl⟩ := List.mem_map.1 hz
  have := bv_bd xs i 8
  exact ⟨this.1, by have := this.2; omega⟩
theorem den_byte (xs : List Int) (f k : Nat) (h : ∀ z ∈ xs, 0 ≤ z ∧ z < 256) : Byte (denL xs f k) := fun z hz => by
  unfold denL at hz
  obtain ⟨l, hl, hz⟩ := List.mem_flatten.1 hz
  obtain ⟨i, _, rfl⟩ := List.mem_map.1 hl
  unfold den2 at hz
  split at hz
  · rename_i hi
    simp only [List.mem_cons, List.not_mem_nil, or_false] at hz
    rcases hz with rfl | rfl
    · exact h _ (getD_mem hi)
    · omega
  · simp at hz; omega
theorem Byte.app {xs ys : List Int} (h1 : Byte xs) (h2 : Byte ys) : Byte (xs ++ ys) := fun z hz => by
  rcases List.mem_append.1 hz with h | h
  · exact h1 z h
  · exact h2 z h
theorem Byte.nil : Byte [] := fun z hz => by simp at hz
theorem byte2 {x y : Int} (h1 : 0 ≤ x ∧ x < 256) (h2 : 0 ≤ y ∧ y < 256) : Byte [x, y] := fun z hz => by
  simp at hz; rcases hz with rfl | rfl
  · exact h1
  · exact h2
theorem BODY_byte {gn tl : Int} {D U : List Int} {nD : Nat} (ug : U32 gn) (ut : U32 tl) (h : ∀ z ∈ D, 0 ≤ z ∧ z < 256) (hn : nD ≤ 16) : Byte (([([four gn, [83, 49], [(nD : Int), 0], four tl, bitsL U 32, denL D 0 8, four gn]).flatten, ([four gn, [83, 50], [0, 0], denL D 8 8, List.replicate 32 0] : List (List Int)).flatten] : List (List Int)).flatten) := by
  have hz : Byte (List.replicate 32 0) := fun z hz => by simp at hz; omega
  simp only [List.flatten_cons, List.flatten_nil, List.append_nil]
  exact ((four_byte gn ug).app ((byte2 (by decide) (by decide)).app ((byte2 (by omega) (by decide)).app ((four_byte tl ut).app ((bits_byte U).app ((den_byte D 0 8 h).app (four_byte gn ug))))))).app ((four_byte gn ug).app ((byte2 (by decide) (by decide)).app ((byte2 (by decide) (by decide)).app ((den_byte D 8 8 h).app hz))))
theorem END_len {gn tl cr : Int} {D U : List Int} {nD : Nat} : (([([([four gn, [83, 49], [(nD : Int), 0], four tl, bitsL U 32, denL D 0 8, four gn]).flatten, ([four gn, [83, 50], [0, 0], denL D 8 8, List.replicate 32 0] : List (List Int)).flatten] : List (List Int)).flatten, four cr, four gn] : List (List Int)).flatten).length = 128 := by simp [four, bitsL_len, denL_len]
theorem hid_of {p : Prop} (h : p) : Hid p := h
/-- the 128 bytes of a snap. -/
noncomputable def snL (gn tl : Int) (D U : List Int) : List Int := ([([([four gn, [83, 49], [(D.length : Int), 0], four tl, bitsL U 32, denL D 0 8, four gn]).flatten, ([four gn, [83, 50], [0, 0], denL D 8 8, List.replicate 32 0] : List (List Int)).flatten] : List (List Int)).flatten, four (crc (([([four gn, [83, 49], [(D.length : Int), 0], four tl, bitsL U 32, denL D 0 8, four gn]).flatten, ([four gn, [83, 50], [0, 0], denL D 8 8, List.replicate 32 0] : List (List Int)).flatten] : List (List Int)).flatten)), four gn] : List (List Int)).flatten
theorem P7_len {gn tl : Int} {D U : List Int} {nD : Nat} (h : D.length = nD) : ([four gn, [83, 49], [(nD : Int), 0], four tl, bitsL U 32, denL D 0 8, four gn]).flatten.length = 64 := by simp [four, bitsL_len, denL_len]
set_option maxRecDepth 100000 in
set_option maxHeartbeats 8000000 in
theorem sesn_any (gn tl : Int) (aD aU : Option Addr) (nD cD nU cU : Nat) (D U : List Int) (w : World) (hD : D.length = nD) (hU : U.length = nU) (mD : nD ≤ 1048576) (mU : nU ≤ 1048576) (haD : At .i64 w aD D) (haU : At .i64 w aU U) (ug : U32 gn) (ut : U32 tl) (hs : SnP gn tl D U) :
    Calls Try.prog 14 #[.agg #[.int .u32 gn, .int .u32 tl, .slice aD nD cD, .slice aU nU cU]] w fun e w' => ∃ v, e = .returned v ∧ Own w' w.heap.size v (snL gn tl D U) ∧ Below w.heap.size w w' := by
  have b0 : Below w.heap.size w (w.alloc (.cells #[.int .u32 gn, .int .u32 tl, .slice aD nD cD, .slice aU nU cU] 26)) := (Below.refl _ _).alloc (Nat.le_refl _) _
  have HC := gsn_any gn tl aD aU nD cD nU cU D U (w.alloc (.cells #[.int .u32 gn, .int .u32 tl, .slice aD nD cD, .slice aU nU cU] 26)) hD hU mD mU (haD.below b0) (haU.below b0)
  rw [snB_yes hs] at HC
  have HO0 : Hid (OE w 26 #[.int .u32 gn, .int .u32 tl, .slice aD nD cD, .slice aU nU cU] (w.alloc (.cells #[.int .u32 gn, .int .u32 tl, .slice aD nD cD, .slice aU nU cU] 26))) := OE.start _ _ _
  have HA : Hid (At .i64 w aD D ∧ At .i64 w aU U) := ⟨haD, haU⟩
  have HL : Hid (D.length = nD ∧ U.length = nU) := ⟨hD, hU⟩
  have HU : Hid (U32 gn ∧ U32 tl) := ⟨ug, ut⟩
  have HDR : Hid (∀ z ∈ D, 0 ≤ z ∧ z < 256) := fun z hz => by
    obtain ⟨i, hi, rfl⟩ := List.getElem_of_mem hz
    have := hs.2.2.2.1 i hi
    unfold okI at this
    rw [show D.getD i 0 = D[i] by simp [List.getD, hi]] at this
    exact ⟨this.1, this.2.1⟩
  have hn16 : nD ≤ 16 := by have := hs.2.2.2.2.1; omega
  have hnd : (nD : Int) % 256 = nD := by omega
  clear haD haU hD hU b0 hs ug ut
  go_enter Try.func14, Try.ntmps14
  go_wp2_with fail
  generalize (w.alloc (.cells #[.int .u32 gn, .int .u32 tl, .slice aD nD cD, .slice aU nU cU] 26)) = w0 at *
  refine HC.mono ?_
  rintro e w1 ⟨rfl, hb1⟩
  have HO1 : Hid (OE w 26 #[.int .u32 gn, .int .u32 tl, .slice aD nD cD, .slice aU nU cU] w1) := HO0.out.call hb1
  have x0 : w1.cell? ⟨w.heap.size, 0, none⟩ = some (.int .u32 gn) := by rw [cell_of_row w1 _ 0 _ _ _ HO1.out.b0]; rfl
  clear HC HO0 hb1
  go_wp2_with fail
  refine (four_any gn _ HU.out.1).mono ?_
  rintro e w2 ⟨rfl, hw2⟩
  have HO2 : Hid (OE w 26 #[.int .u32 gn, .int .u32 tl, .slice aD nD cD, .slice aU nU cU] w2) := by show OE _ _ _ _; rw [hw2]; exact HO1.out.call (below_new w1 _)
  have HGP : Hid (Part w2 (.slice (some ⟨w1.heap.size, 0, none⟩) 4 4) (four gn)) := by show Part _ _ _; rw [hw2]; exact part_new w1 #[.int .u8 (gn % 256), .int .u8 (gn / 256 % 256), .int .u8 (gn / 65536 % 256), .int .u8 (gn / 16777216)] (four gn) _ rfl _ rfl _
  have HXM : Hid (XM w #[.int .u32 gn, .int .u32 tl, .slice aD nD cD, .slice aU nU cU] w2 w2) := ⟨Below.refl _ _, Mono.refl _, HO2.out.below, HO2.out.b0⟩
  clear x0 hw2 HO1
  generalize w1.heap.size = G at *
  go_wp2_with fail
  refine wp_region_any (by kernel_rfl) ?_
  refine wpAny_slotsU (fun _ a b => Mono a b) (frame := (fun (c0 c1 c2 c3 c5 c6 c7 c8 c9 c10 c11 c12 c13 c34 c35 c36 c37 c38 c39 c40 c41 c42 c43 c44 c45 c46 c47 c48 c49 c50 c51 c52 c53 c54 : Value) => fun (t : Nat → Value) => ({ tmps := List.toArray (c0 :: c1 :: c2 :: c3 :: t 20 :: c5 :: c6 :: c7 :: c8 :: c9 :: c10 :: c11 :: c12 :: c13 :: t 0 :: t 1 :: t 2 :: t 3 :: t 4 :: t 5 :: t 6 :: t 7 :: t 8 :: t 9 :: t 10 :: t 11 :: t 12 :: t 13 :: t 14 :: t 15 :: t 16 :: t 17 :: t 18 :: t 19 :: c34 :: c35 :: c36 :: c37 :: c38 :: c39 :: c40 :: c41 :: c42 :: c43 :: c44 :: c45 :: c46 :: c47 :: c48 :: c49 :: c50 :: c51 :: c52 :: c53 :: c54 :: []), defers := [] } : Act)) _ _ _ _ _ _ _ _ _ _ _ _ _ _ _ _ _ _ _ _ _ _ _ _ _ _ _ _ _ _ _ _ _ _)
    (Ext := fun L u w' => XM w #[.int .u32 gn, .int .u32 tl, .slice aD nD cD, .slice aU nU cU] w2 w') (Good := fun i L w' v => if i = 0 then v = .slice (some ⟨G, 0, none⟩) 4 4 else if i = 1 then CnS w2.heap.size w' v 83 49 else if i = 2 then Part w' v [83, 49] else if i = 3 then v = .pointer (some ⟨w.heap.size, 2, none⟩) else if i = 4 then v = .slice aD nD cD else if i = 5 then v = .int .i64 nD else if i = 6 then v = .int .u8 (nD : Int) else if i = 7 then Part w' v [(nD : Int), 0] else if i = 8 then v = .pointer (some ⟨w.heap.size, 1, none⟩) else if i = 9 then v = .int .u32 tl else if i = 10 then Part w' v (four tl) else if i = 11 then v = .pointer (some ⟨w.heap.size, 3, none⟩) else if i = 12 then v = .slice aU nU cU else if i = 13 then Part w' v (bitsL U 32) else if i = 14 then v = .pointer (some ⟨w.heap.size, 2, none⟩) else if i = 15 then v = .slice aD nD cD else if i = 16 then Part w' v (denL D 0 8) else if i = 17 then v = .slice (some ⟨G, 0, none⟩) 4 4 else if i = 18 then PtL w' v [four gn, [83, 49], [(nD : Int), 0], four tl, bitsL U 32, denL D 0 8, four gn] else if i = 19 then Part w' v ([four gn, [83, 49], [(nD : Int), 0], four tl, bitsL U 32, denL D 0 8, four gn]).flatten else if i = 20 then Part w' v ([four gn, [83, 49], [(nD : Int), 0], four tl, bitsL U 32, denL D 0 8, four gn]).flatten else True) ?hstab (by kernel_rfl) ?hop ?hdone _ _ ((fun (x0 x1 x2 x3 x4 x5 x6 x7 x8 x9 x10 x11 x12 x13 x14 x15 x16 x17 x18 x19 x20 : Value) => fun (i : Nat) => if i = 0 then x0 else if i = 1 then x1 else if i = 2 then x2 else if i = 3 then x3 else if i = 4 then x4 else if i = 5 then x5 else if i = 6 then x6 else if i = 7 then x7 else if i = 8 then x8 else if i = 9 then x9 else if i = 10 then x10 else if i = 11 then x11 else if i = 12 then x12 else if i = 13 then x13 else if i = 14 then x14 else if i = 15 then x15 else if i = 16 then x16 else if i = 17 then x17 else if i = 18 then x18 else if i = 19 then x19 else if i = 20 then x20 else undef) _ _ _ _ _ _ _ _ _ _ _ _ _ _ _ _ _ _ _ _ _) _ (by simp) ?ext ?start (by simp)
  case start => intro i hi h; exact absurd h (by rw [Array.getD_eq_getD_getElem?, Array.getElem?_replicate]; split <;> simp)
  case ext => exact HXM.out.drew
  case hstab =>
    intro j L w9 w' i v hM _ _ h
    by_cases h1 : j = 1
    · subst h1
      simp at h ⊢
      exact h.mono hM
    by_cases h2 : j = 2
    · subst h2
      simp at h ⊢
      exact h.mono hM
    by_cases h7 : j = 7
    · subst h7
      simp at h ⊢
      exact h.mono hM
    by_cases h10 : j = 10
    · subst h10
      simp at h ⊢
      exact h.mono hM
    by_cases h13 : j = 13
    · subst h13
      simp at h ⊢
      exact h.mono hM
    by_cases h16 : j = 16
    · subst h16
      simp at h ⊢
      exact h.mono hM
    by_cases h18 : j = 18
    · subst h18
      simp at h ⊢
      exact h.mono hM
    by_cases h19 : j = 19
    · subst h19
      simp at h ⊢
      exact h.mono hM
    by_cases h20 : j = 20
    · subst h20
      simp at h ⊢
      exact h.mono hM
    simp only [if_neg h1, if_neg h2, if_neg h7, if_neg h10, if_neg h13, if_neg h16, if_neg h18, if_neg h19, if_neg h20] at h ⊢
    exact h
  case hop =>
    intro i o L t w' ho hLi hx hdep K hK
    have hi : i < 21 := (Array.getElem?_eq_some_iff.1 ho).1
    obtain rfl | rfl | rfl | rfl | rfl | rfl | rfl | rfl | rfl | rfl | rfl | rfl | rfl | rfl | rfl | rfl | rfl | rfl | rfl | rfl | rfl : i = 0 ∨ i = 1 ∨ i = 2 ∨ i = 3 ∨ i = 4 ∨ i = 5 ∨ i = 6 ∨ i = 7 ∨ i = 8 ∨ i = 9 ∨ i = 10 ∨ i = 11 ∨ i = 12 ∨ i = 13 ∨ i = 14 ∨ i = 15 ∨ i = 16 ∨ i = 17 ∨ i = 18 ∨ i = 19 ∨ i = 20 := by omega
    all_goals (simp at ho; subst ho)
    · clear hdep
      have hK' := hK w' (.slice (some ⟨G, 0, none⟩) 4 4) (by simp) hx (Mono.refl _)
      clear hK
      rw [if_pos (by rfl)]
      go_simp
      simpa [upd] using hK'
    · clear hdep
      have bb := below_new w' (.cells #[.int .u8 83, .int .u8 49] 5)
      have hK' := hK (w'.alloc (.cells #[.int .u8 83, .int .u8 49] 5)) (.slice (some ⟨w'.heap.size, 0, none⟩) 2 2) (by simpa using ⟨w'.heap.size, (0, 0), rfl, hx.below.size, heap_alloc_new w' _⟩) (hx.grow bb) (Mono.of_below bb)
      clear hK bb
      rw [if_pos (by rfl)]
      go_simp
      simpa [upd] using hK'
    · have f1 : CnS w2.heap.size w' (t 1) 83 49 := by simpa using (hdep ⟨1, .data⟩ (by simp) rfl).2
      clear hdep
      obtain ⟨g, fr, d1, hBg, hh⟩ := f1
      have hcv := run_convert_const w' g _ 2 2 fr hh
      have hm := freeze_mono w' g 2
      have hgl : g < w'.heap.size := (Array.getElem?_eq_some_iff.1 hh).1
      have hp : Part w' (.slice (some ⟨g, 0, none⟩) 2 2) [83, 49] := ⟨g, 0, 2, rfl, hgl, fun i hi => by
        rw [cell_of_row _ _ (0 + i) _ _ fr hh]
        have : i = 0 ∨ i = 1 := by simp at hi; omega
        rcases this with rfl | rfl <;> rfl⟩
      have hK' := hK (w'.freeze ⟨g, 2, none⟩ 1) (.slice (some ⟨g, 0, none⟩) 2 2) (by simpa using hp.mono hm) (hx.step (freeze_below w' g 2 _ (by omega)) hm) hm
      clear hK hp hm
      rw [if_pos (by rfl)]
      go_simp
      simpa [upd, d1] using hK'
    · clear hdep
      have hK' := hK w' (.pointer (some ⟨w.heap.size, 2, none⟩)) (by simp) hx (Mono.refl _)
      clear hK
      rw [if_pos (by rfl)]
      go_simp
      simpa [upd] using hK'
    · have d3 : t 3 = .pointer (some ⟨w.heap.size, 2, none⟩) := by simpa using (hdep ⟨3, .data⟩ (by simp) rfl).2
      clear hdep
      have cc : w'.cell? ⟨w.heap.size, 2, none⟩ = some (.slice aD nD cD) := by rw [hx.cellX 2]; rfl
      have hK' := hK w' (.slice aD nD cD) (by simp) hx (Mono.refl _)
      clear hK
      rw [if_pos (by rfl)]
      go_simp
      simpa [upd, d3] using hK'
    · have d4 : t 4 = .slice aD nD cD := by simpa using (hdep ⟨4, .data⟩ (by simp) rfl).2
      clear hdep
      have hK' := hK w' (.int .i64 nD) (by simp) hx (Mono.refl _)
      clear hK
      rw [if_pos (by rfl)]
      go_simp
      simpa [upd, d4] using hK'
    · have d5 : t 5 = .int .i64 nD := by simpa using (hdep ⟨5, .data⟩ (by simp) rfl).2
      clear hdep
      have hK' := hK w' (.int .u8 (nD : Int)) (by simp) hx (Mono.refl _)
      clear hK
      rw [if_pos (by rfl)]
      go_simp
      simpa [upd, d5, IntKind.wrap_u8, hnd] using hK'
    · have d6 : t 6 = .int .u8 (nD : Int) := by simpa using (hdep ⟨6, .data⟩ (by simp) rfl).2
      clear hdep
      have bb := below_new w' (.cells #[.int .u8 (nD : Int), .int .u8 0] 5)
      have hK' := hK (w'.alloc (.cells #[.int .u8 (nD : Int), .int .u8 0] 5)) (.slice (some ⟨w'.heap.size, 0, none⟩) 2 2) (by simpa using part_new w' #[.int .u8 (nD : Int), .int .u8 0] [(nD : Int), 0] 5 rfl 2 rfl 2) (hx.grow bb) (Mono.of_below bb)
      clear hK bb
      rw [if_pos (by rfl)]
      go_simp
      simpa [upd, d6] using hK'
    · clear hdep
      have hK' := hK w' (.pointer (some ⟨w.heap.size, 1, none⟩)) (by simp) hx (Mono.refl _)
      clear hK
      rw [if_pos (by rfl)]
      go_simp
      simpa [upd] using hK'
    · have d8 : t 8 = .pointer (some ⟨w.heap.size, 1, none⟩) := by simpa using (hdep ⟨8, .data⟩ (by simp) rfl).2
      clear hdep
      have cc : w'.cell? ⟨w.heap.size, 1, none⟩ = some (.int .u32 tl) := by rw [hx.cellX 1]; rfl
      have hK' := hK w' (.int .u32 tl) (by simp) hx (Mono.refl _)
      clear hK
      rw [if_pos (by rfl)]
      go_simp
      simpa [upd, d8] using hK'
    · have d9 : t 9 = .int .u32 tl := by simpa using (hdep ⟨9, .data⟩ (by simp) rfl).2
      clear hdep
      have A := four_any tl w' HU.out.2
      have hK' : ∀ ww v, Part ww v (four tl) → Below w'.heap.size w' ww → K _ ww := fun ww v hv hb => hK ww v (by simpa using hv) (hx.grow hb) (Mono.of_below hb)
      clear hK
      rw [if_pos (by rfl)]
      go_simp
      try simp only [d9]
      refine A.mono ?_
      rintro e w9 ⟨rfl, rfl⟩
      have hK2 := hK' (w'.alloc (.cells #[.int .u8 (tl % 256), .int .u8 (tl / 256 % 256), .int .u8 (tl / 65536 % 256), .int .u8 (tl / 16777216)] 5)) (.slice (some ⟨w'.heap.size, 0, none⟩) 4 4) (part_new w' #[.int .u8 (tl % 256), .int .u8 (tl / 256 % 256), .int .u8 (tl / 65536 % 256), .int .u8 (tl / 16777216)] (four tl) 5 rfl 4 rfl 4) (below_new w' (.cells #[.int .u8 (tl % 256), .int .u8 (tl / 256 % 256), .int .u8 (tl / 65536 % 256), .int .u8 (tl / 16777216)] 5))
      clear hK' A
      go_simp
      simpa [upd, d9] using hK2
    · clear hdep
      have hK' := hK w' (.pointer (some ⟨w.heap.size, 3, none⟩)) (by simp) hx (Mono.refl _)
      clear hK
      rw [if_pos (by rfl)]
      go_simp
      simpa [upd] using hK'
    · have d11 : t 11 = .pointer (some ⟨w.heap.size, 3, none⟩) := by simpa using (hdep ⟨11, .data⟩ (by simp) rfl).2
      clear hdep
      have cc : w'.cell? ⟨w.heap.size, 3, none⟩ = some (.slice aU nU cU) := by rw [hx.cellX 3]; rfl
      have hK' := hK w' (.slice aU nU cU) (by simp) hx (Mono.refl _)
      clear hK
      rw [if_pos (by rfl)]
      go_simp
      simpa [upd, d11] using hK'
    · have d12 : t 12 = .slice aU nU cU := by simpa using (hdep ⟨12, .data⟩ (by simp) rfl).2
      clear hdep
      have A := bits_any aU nU cU U w' HL.out.2 mU (HA.out.2.below hx.all)
      have hK' : ∀ ww v, Part ww v (bitsL U 32) → Below w'.heap.size w' ww → K _ ww := fun ww v hv hb => hK ww v (by simpa using hv) (hx.grow hb) (Mono.of_below hb)
      clear hK
      rw [if_pos (by rfl)]
      go_simp
      try simp only [d12]
      refine A.mono ?_
      rintro e w9 ⟨v9, rfl, ho9, hb9⟩
      have hK2 := hK' _ _ ho9.part hb9
      clear hK' A
      go_simp
      simpa [upd, d12] using hK2
    · clear hdep
      have hK' := hK w' (.pointer (some ⟨w.heap.size, 2, none⟩)) (by simp) hx (Mono.refl _)
      clear hK
      rw [if_pos (by rfl)]
      go_simp
      simpa [upd] using hK'
    · have d14 : t 14 = .pointer (some ⟨w.heap.size, 2, none⟩) := by simpa using (hdep ⟨14, .data⟩ (by simp) rfl).2
      clear hdep
      have cc : w'.cell? ⟨w.heap.size, 2, none⟩ = some (.slice aD nD cD) := by rw [hx.cellX 2]; rfl
      have hK' := hK w' (.slice aD nD cD) (by simp) hx (Mono.refl _)
      clear hK
      rw [if_pos (by rfl)]
      go_simp
      simpa [upd, d14] using hK'
    · have d15 : t 15 = .slice aD nD cD := by simpa using (hdep ⟨15, .data⟩ (by simp) rfl).2
      clear hdep
      have A := den_any aD nD cD D 0 8 w' HL.out.1 mD (HA.out.1.below hx.all) HDR.out (by decide)
      have hK' : ∀ ww v, Part ww v (denL D 0 8) → Below w'.heap.size w' ww → K _ ww := fun ww v hv hb => hK ww v (by simpa using hv) (hx.grow hb) (Mono.of_below hb)
      clear hK
      rw [if_pos (by rfl)]
      go_simp
      try simp only [d15]
      refine A.mono ?_
      rintro e w9 ⟨v9, rfl, ho9, hb9⟩
      have hK2 := hK' _ _ ho9.part hb9
      clear hK' A
      go_simp
      simpa [upd, d15] using hK2
    · clear hdep
      have hK' := hK w' (.slice (some ⟨G, 0, none⟩) 4 4) (by simp) hx (Mono.refl _)
      clear hK
      rw [if_pos (by rfl)]
      go_simp
      simpa [upd] using hK'
    · have d0 : t 0 = .slice (some ⟨G, 0, none⟩) 4 4 := by simpa using (hdep ⟨0, .data⟩ (by simp) rfl).2
      have f2 : Part w' (t 2) [83, 49] := by simpa using (hdep ⟨2, .data⟩ (by simp) rfl).2
      have f7 : Part w' (t 7) [(nD : Int), 0] := by simpa using (hdep ⟨7, .data⟩ (by simp) rfl).2
      have f10 : Part w' (t 10) (four tl) := by simpa using (hdep ⟨10, .data⟩ (by simp) rfl).2
      have f13 : Part w' (t 13) (bitsL U 32) := by simpa using (hdep ⟨13, .data⟩ (by simp) rfl).2
      have f16 : Part w' (t 16) (denL D 0 8) := by simpa using (hdep ⟨16, .data⟩ (by simp) rfl).2
      have d17 : t 17 = .slice (some ⟨G, 0, none⟩) 4 4 := by simpa using (hdep ⟨17, .data⟩ (by simp) rfl).2
      clear hdep
      have p0 : Part w' (.slice (some ⟨G, 0, none⟩) 4 4) (four gn) := HGP.out.mono hx.mono
      have q := PtL.new w' 22 [(.slice (some ⟨G, 0, none⟩) 4 4, four gn), (t 2, [83, 49]), (t 7, [(nD : Int), 0]), (t 10, four tl), (t 13, bitsL U 32), (t 16, denL D 0 8), (.slice (some ⟨G, 0, none⟩) 4 4, four gn)] (by
        intro p hp
        simp at hp
        rcases hp with rfl | rfl | rfl | rfl | rfl | rfl | rfl
        · exact p0
        · exact f2
        · exact f7
        · exact f10
        · exact f13
        · exact f16
        · exact p0)
      obtain ⟨b2, o2, c2, e2, _⟩ := f2
      obtain ⟨b7, o7, c7, e7, _⟩ := f7
      obtain ⟨b10, o10, c10, e10, _⟩ := f10
      obtain ⟨b13, o13, c13, e13, _⟩ := f13
      obtain ⟨b16, o16, c16, e16, _⟩ := f16
      have bb := below_new w' (.cells #[.slice (some ⟨G, 0, none⟩) 4 4, t 2, t 7, t 10, t 13, t 16, .slice (some ⟨G, 0, none⟩) 4 4] 22)
      have hK' := hK (w'.alloc (.cells #[.slice (some ⟨G, 0, none⟩) 4 4, t 2, t 7, t 10, t 13, t 16, .slice (some ⟨G, 0, none⟩) 4 4] 22)) (.slice (some ⟨w'.heap.size, 0, none⟩) 7 7) (by simpa using q) (hx.grow bb) (Mono.of_below bb)
      clear hK bb p0 q
      rw [if_pos (by rfl)]
      go_simp
      simpa [upd, d0, d17, e2, e7, e10, e13, e16] using hK'
    · have f18 : PtL w' (t 18) [four gn, [83, 49], [(nD : Int), 0], four tl, bitsL U 32, denL D 0 8, four gn] := by simpa using (hdep ⟨18, .data⟩ (by simp) rfl).2
      clear hdep
      obtain ⟨g, vs, d18, hg, hc⟩ := f18
      have A := cat_any g 7 7 vs [four gn, [83, 49], [(nD : Int), 0], four tl, bitsL U 32, denL D 0 8, four gn] w' rfl hg (fun i hi => (hc i (by simpa using hi)).1) (fun i hi => (hc i (by simpa using hi)).2) (by rw [P7_len HL.out.1]; decide) (by decide)
      have hK' : ∀ ww v, Part ww v ([four gn, [83, 49], [(nD : Int), 0], four tl, bitsL U 32, denL D 0 8, four gn]).flatten → Below w'.heap.size w' ww → K _ ww := fun ww v hv hb => hK ww v (by simpa using hv) (hx.grow hb) (Mono.of_below hb)
      clear hK hc
      rw [if_pos (by rfl)]
      go_simp
      try simp only [d18]
      refine A.mono ?_
      rintro e w9 ⟨v9, rfl, ho9, hb9⟩
      have hK2 := hK' w9 v9 ho9.part hb9
      clear hK' A
      go_simp
      simpa [upd, d18] using hK2
    · have f19 : Part w' (t 19) ([four gn, [83, 49], [(nD : Int), 0], four tl, bitsL U 32, denL D 0 8, four gn]).flatten := by simpa using (hdep ⟨19, .data⟩ (by simp) rfl).2
      clear hdep
      have hK' := hK w' (t 19) (by simpa using f19) hx (Mono.refl _)
      clear hK
      rw [if_pos (by rfl)]
      go_simp
      simpa [upd] using hK'
  case hdone =>
    intro L t wA hx hg
    have f20 : Part wA (t 20) ([four gn, [83, 49], [(nD : Int), 0], four tl, bitsL U 32, denL D 0 8, four gn]).flatten := by simpa using hg 20 (by decide)
    clear hg
    obtain ⟨b1, o1, c1, e1, hl1, hc1⟩ := f20
    have P1A : Part wA (t 20) ([four gn, [83, 49], [(nD : Int), 0], four tl, bitsL U 32, denL D 0 8, four gn]).flatten := ⟨b1, o1, c1, e1, hl1, hc1⟩
    rw [e1] at P1A
    generalize hv1 : Value.slice (some ⟨b1, o1, none⟩) ([four gn, [83, 49], [(nD : Int), 0], four tl, bitsL U 32, denL D 0 8, four gn]).flatten.length c1 = v1 at P1A e1
    have e1' : t 20 = .slice (some ⟨b1, o1, none⟩) 64 c1 := by rw [e1, ← hv1, P7_len HL.out.1]
    have P1 : Hid (Part wA (.slice (some ⟨b1, o1, none⟩) 64 c1) ([four gn, [83, 49], [(nD : Int), 0], four tl, bitsL U 32, denL D 0 8, four gn]).flatten) := by show Part _ _ _; rw [← P7_len (gn := gn) (tl := tl) (U := U) HL.out.1, hv1]; exact P1A
    simp only [e1']
    clear e1 e1' hv1 P1A hl1 hc1
    have hh1 := heap_alloc_new wA (.cells #[.int .u8 83, .int .u8 50] 5)
    have hcv : (convert 22 22 (.slice (some ⟨wA.heap.size, 0, none⟩) 2 2)).run Try.prog (wA.alloc (.cells #[.int .u8 83, .int .u8 50] 5)) = .ok (.slice (some ⟨wA.heap.size, 0, none⟩) 2 2) ((wA.alloc (.cells #[.int .u8 83, .int .u8 50] 5)).freeze ⟨wA.heap.size, 2, none⟩ 1) := run_convert_const (wA.alloc (.cells #[.int .u8 83, .int .u8 50] 5)) wA.heap.size _ 2 2 (0, 0) hh1
    have hfs : ((wA.alloc (.cells #[.int .u8 83, .int .u8 50] 5)).freeze ⟨wA.heap.size, 2, none⟩ 1).heap.size = wA.heap.size + 1 := by rw [freeze_size]; simp
    have bA1 := below_new wA (.cells #[.int .u8 83, .int .u8 50] 5)
    have hmF := freeze_mono (wA.alloc (.cells #[.int .u8 83, .int .u8 50] 5)) wA.heap.size 2
    have bB := below_new ((wA.alloc (.cells #[.int .u8 83, .int .u8 50] 5)).freeze ⟨wA.heap.size, 2, none⟩ 1) (.cells #[.int .u8 0, .int .u8 0] 5)
    have HXB : Hid (XM w #[.int .u32 gn, .int .u32 tl, .slice aD nD cD, .slice aU nU cU] w2 (((wA.alloc (.cells #[.int .u8 83, .int .u8 50] 5)).freeze ⟨wA.heap.size, 2, none⟩ 1).alloc (.cells #[.int .u8 0, .int .u8 0] 5))) := ((hx.grow bA1).step (freeze_below (wA.alloc (.cells #[.int .u8 83, .int .u8 50] 5)) wA.heap.size 2 _ hx.below.size) hmF).grow bB
    have HPB : Hid (Part (((wA.alloc (.cells #[.int .u8 83, .int .u8 50] 5)).freeze ⟨wA.heap.size, 2, none⟩ 1).alloc (.cells #[.int .u8 0, .int .u8 0] 5)) (.slice (some ⟨b1, o1, none⟩) 64 c1) ([four gn, [83, 49], [(nD : Int), 0], four tl, bitsL U 32, denL D 0 8, four gn]).flatten ∧ Part (((wA.alloc (.cells #[.int .u8 83, .int .u8 50] 5)).freeze ⟨wA.heap.size, 2, none⟩ 1).alloc (.cells #[.int .u8 0, .int .u8 0] 5)) (.slice (some ⟨wA.heap.size, 0, none⟩) 2 2) [83, 50] ∧ Part (((wA.alloc (.cells #[.int .u8 83, .int .u8 50] 5)).freeze ⟨wA.heap.size, 2, none⟩ 1).alloc (.cells #[.int .u8 0, .int .u8 0] 5)) (.slice (some ⟨wA.heap.size + 1, 0, none⟩) 2 2) [0, 0] ∧ Part (((wA.alloc (.cells #[.int .u8 83, .int .u8 50] 5)).freeze ⟨wA.heap.size, 2, none⟩ 1).alloc (.cells #[.int .u8 0, .int .u8 0] 5)) (.slice (some ⟨G, 0, none⟩) 4 4) (four gn)) :=
      ⟨((P1.out.mono (Mono.of_below bA1)).mono hmF).mono (Mono.of_below bB), ((part_new wA #[.int .u8 83, .int .u8 50] [83, 50] 5 rfl 2 rfl 2).mono hmF).mono (Mono.of_below bB), hfs ▸ part_new ((wA.alloc (.cells #[.int .u8 83, .int .u8 50] 5)).freeze ⟨wA.heap.size, 2, none⟩ 1) #[.int .u8 0, .int .u8 0] [0, 0] 5 rfl 2 rfl 2, HGP.out.mono HXB.out.mono⟩
    have zc : (((wA.alloc (.cells #[.int .u8 83, .int .u8 50] 5)).freeze ⟨wA.heap.size, 2, none⟩ 1).alloc (.cells #[.int .u8 0, .int .u8 0] 5)).cell? ⟨w.heap.size, 2, none⟩ = some (.slice aD nD cD) := by rw [HXB.out.cellX 2]; rfl
    clear bA1 hmF bB hx hh1 P1
    go_wp2_with fail
    clear hcv hfs zc
    generalize (((wA.alloc (.cells #[.int .u8 83, .int .u8 50] 5)).freeze ⟨wA.heap.size, 2, none⟩ 1).alloc (.cells #[.int .u8 0, .int .u8 0] 5)) = wB at *
    generalize wA.heap.size = q0 at *
    refine (den_any aD nD cD D 8 8 wB HL.out.1 mD (HA.out.1.below HXB.out.all) HDR.out (by decide)).mono ?_
    rintro e wC ⟨v4, rfl, ho4, hb4⟩
    obtain ⟨b4, o4, c4, e4, _⟩ := ho4.part
    rw [denL_len] at e4
    have P4 : Part wC (.slice (some ⟨b4, o4, none⟩) 16 c4) (denL D 8 8) := by rw [← e4]; exact ho4.part
    subst e4
    have HXC : Hid (XM w #[.int .u32 gn, .int .u32 tl, .slice aD nD cD, .slice aU nU cU] w2 wC) := HXB.out.grow hb4
    have HPC : Hid (Part wC (.slice (some ⟨b1, o1, none⟩) 64 c1) ([four gn, [83, 49], [(nD : Int), 0], four tl, bitsL U 32, denL D 0 8, four gn]).flatten ∧ Part wC (.slice (some ⟨q0, 0, none⟩) 2 2) [83, 50] ∧ Part wC (.slice (some ⟨q0 + 1, 0, none⟩) 2 2) [0, 0] ∧ Part wC (.slice (some ⟨G, 0, none⟩) 4 4) (four gn) ∧ Part wC (.slice (some ⟨b4, o4, none⟩) 16 c4) (denL D 8 8)) := ⟨HPB.out.1.below hb4, HPB.out.2.1.below hb4, HPB.out.2.2.1.below hb4, HPB.out.2.2.2.below hb4, P4⟩
    clear ho4 hb4 P4 HPB HXB
    go_wp2_with fail
    refine (zeros_any 32 wC (by decide) (by decide)).mono ?_
    rintro e wD ⟨v5, rfl, ho5, hb5⟩
    have HXD : Hid (XM w #[.int .u32 gn, .int .u32 tl, .slice aD nD cD, .slice aU nU cU] w2 wD) := HXC.out.grow hb5
    obtain ⟨b5, o5, c5, e5, _⟩ := ho5.part
    rw [List.length_replicate, show (32 : Int).toNat = 32 from rfl] at e5
    have P5 : Part wD (.slice (some ⟨b5, o5, none⟩) 32 c5) (List.replicate 32 0) := by rw [← e5]; exact ho5.part
    subst e5
    have HPD : Hid (Part wD (.slice (some ⟨b1, o1, none⟩) 64 c1) (([four gn, [83, 49], [(nD : Int), 0], four tl, bitsL U 32, denL D 0 8, four gn]).flatten) ∧ Part wD (.slice (some ⟨q0, 0, none⟩) 2 2) ([83, 50]) ∧ Part wD (.slice (some ⟨q0 + 1, 0, none⟩) 2 2) ([0, 0]) ∧ Part wD (.slice (some ⟨G, 0, none⟩) 4 4) (four gn) ∧ Part wD (.slice (some ⟨b4, o4, none⟩) 16 c4) (denL D 8 8) ∧ Part wD (.slice (some ⟨b5, o5, none⟩) 32 c5) (List.replicate 32 0)) := ⟨HPC.out.1.below hb5, HPC.out.2.1.below hb5, HPC.out.2.2.1.below hb5, HPC.out.2.2.2.1.below hb5, HPC.out.2.2.2.2.below hb5, P5⟩
    clear ho5 hb5 P5 HXC HPC
    have AE : Calls Try.prog 31 #[.slice (some ⟨wD.heap.size, 0, none⟩) 5 5] (wD.alloc (.cells #[.slice (some ⟨G, 0, none⟩) 4 4, .slice (some ⟨q0, 0, none⟩) 2 2, .slice (some ⟨q0 + 1, 0, none⟩) 2 2, .slice (some ⟨b4, o4, none⟩) 16 c4, .slice (some ⟨b5, o5, none⟩) 32 c5] 22)) fun e w' => ∃ v, e = .returned v ∧ Own w' (wD.alloc (.cells #[.slice (some ⟨G, 0, none⟩) 4 4, .slice (some ⟨q0, 0, none⟩) 2 2, .slice (some ⟨q0 + 1, 0, none⟩) 2 2, .slice (some ⟨b4, o4, none⟩) 16 c4, .slice (some ⟨b5, o5, none⟩) 32 c5] 22)).heap.size v ([four gn, [83, 50], [0, 0], denL D 8 8, List.replicate 32 0] : List (List Int)).flatten ∧ Below (wD.alloc (.cells #[.slice (some ⟨G, 0, none⟩) 4 4, .slice (some ⟨q0, 0, none⟩) 2 2, .slice (some ⟨q0 + 1, 0, none⟩) 2 2, .slice (some ⟨b4, o4, none⟩) 16 c4, .slice (some ⟨b5, o5, none⟩) 32 c5] 22)).heap.size (wD.alloc (.cells #[.slice (some ⟨G, 0, none⟩) 4 4, .slice (some ⟨q0, 0, none⟩) 2 2, .slice (some ⟨q0 + 1, 0, none⟩) 2 2, .slice (some ⟨b4, o4, none⟩) 16 c4, .slice (some ⟨b5, o5, none⟩) 32 c5] 22)) w' := by
      have q := PtL.new wD 22 [(.slice (some ⟨G, 0, none⟩) 4 4, four gn), (.slice (some ⟨q0, 0, none⟩) 2 2, [83, 50]), (.slice (some ⟨q0 + 1, 0, none⟩) 2 2, [0, 0]), (.slice (some ⟨b4, o4, none⟩) 16 c4, denL D 8 8), (.slice (some ⟨b5, o5, none⟩) 32 c5, List.replicate 32 0)] (by
        intro p hp
        simp only [List.mem_cons, List.not_mem_nil, or_false] at hp
        rcases hp with rfl | rfl | rfl | rfl | rfl
        · exact HPD.out.2.2.2.1
        · exact HPD.out.2.1
        · exact HPD.out.2.2.1
        · exact HPD.out.2.2.2.2.1
        · exact HPD.out.2.2.2.2.2)
      obtain ⟨g, vs, d, hg, hc⟩ := q
      simp only [Value.slice.injEq, Option.some.injEq, Addr.mk.injEq] at d
      obtain ⟨⟨d, _⟩, _⟩ := d
      subst d
      exact cat_any _ 5 5 vs [four gn, [83, 50], [0, 0], denL D 8 8, List.replicate 32 0] _ rfl hg (fun i hi => (hc i (by simpa using hi)).1) (fun i hi => (hc i (by simpa using hi)).2) (by rw [P5_len]; decide) (by decide)
    have bb := hid_of (below_new wD (.cells #[.slice (some ⟨G, 0, none⟩) 4 4, .slice (some ⟨q0, 0, none⟩) 2 2, .slice (some ⟨q0 + 1, 0, none⟩) 2 2, .slice (some ⟨b4, o4, none⟩) 16 c4, .slice (some ⟨b5, o5, none⟩) 32 c5] 22))
    have AE := hid_of AE
    go_wp2_with fail
    have bb := bb.out
    refine AE.out.mono ?_
    rintro e wE ⟨v6, rfl, ho6, hb6⟩
    have hbb : Below wD.heap.size wD wE := bb.trans (hb6.mono bb.size)
    have HXE : Hid (XM w #[.int .u32 gn, .int .u32 tl, .slice aD nD cD, .slice aU nU cU] w2 wE) := HXD.out.grow hbb
    obtain ⟨b6, o6, c6, e6, _⟩ := ho6.part
    rw [P5_len] at e6
    have P6 : Part wE (.slice (some ⟨b6, o6, none⟩) 56 c6) (([four gn, [83, 50], [0, 0], denL D 8 8, List.replicate 32 0] : List (List Int)).flatten) := by rw [← e6]; exact ho6.part
    subst e6
    have HPE : Hid (Part wE (.slice (some ⟨b1, o1, none⟩) 64 c1) (([four gn, [83, 49], [(nD : Int), 0], four tl, bitsL U 32, denL D 0 8, four gn]).flatten) ∧ Part wE (.slice (some ⟨q0, 0, none⟩) 2 2) ([83, 50]) ∧ Part wE (.slice (some ⟨q0 + 1, 0, none⟩) 2 2) ([0, 0]) ∧ Part wE (.slice (some ⟨G, 0, none⟩) 4 4) (four gn) ∧ Part wE (.slice (some ⟨b4, o4, none⟩) 16 c4) (denL D 8 8) ∧ Part wE (.slice (some ⟨b5, o5, none⟩) 32 c5) (List.replicate 32 0) ∧ Part wE (.slice (some ⟨b6, o6, none⟩) 56 c6) (([four gn, [83, 50], [0, 0], denL D 8 8, List.replicate 32 0] : List (List Int)).flatten)) := ⟨HPD.out.1.below hbb, HPD.out.2.1.below hbb, HPD.out.2.2.1.below hbb, HPD.out.2.2.2.1.below hbb, HPD.out.2.2.2.2.1.below hbb, HPD.out.2.2.2.2.2.below hbb, P6⟩
    clear ho6 hb6 bb hbb P6 AE HXD HPD
    have AF : Calls Try.prog 31 #[.slice (some ⟨wE.heap.size, 0, none⟩) 2 2] (wE.alloc (.cells #[.slice (some ⟨b1, o1, none⟩) 64 c1, .slice (some ⟨b6, o6, none⟩) 56 c6] 22)) fun e w' => ∃ v, e = .returned v ∧ Own w' (wE.alloc (.cells #[.slice (some ⟨b1, o1, none⟩) 64 c1, .slice (some ⟨b6, o6, none⟩) 56 c6] 22)).heap.size v ([([four gn, [83, 49], [(nD : Int), 0], four tl, bitsL U 32, denL D 0 8, four gn]).flatten, ([four gn, [83, 50], [0, 0], denL D 8 8, List.replicate 32 0] : List (List Int)).flatten] : List (List Int)).flatten ∧ Below (wE.alloc (.cells #[.slice (some ⟨b1, o1, none⟩) 64 c1, .slice (some ⟨b6, o6, none⟩) 56 c6] 22)).heap.size (wE.alloc (.cells #[.slice (some ⟨b1, o1, none⟩) 64 c1, .slice (some ⟨b6, o6, none⟩) 56 c6] 22)) w' := by
      have q := PtL.new wE 22 [(.slice (some ⟨b1, o1, none⟩) 64 c1, ([four gn, [83, 49], [(nD : Int), 0], four tl, bitsL U 32, denL D 0 8, four gn]).flatten), (.slice (some ⟨b6, o6, none⟩) 56 c6, ([four gn, [83, 50], [0, 0], denL D 8 8, List.replicate 32 0] : List (List Int)).flatten)] (by
        intro p hp
        simp only [List.mem_cons, List.not_mem_nil, or_false] at hp
        rcases hp with rfl | rfl
        · exact HPE.out.1
        · exact HPE.out.2.2.2.2.2.2)
      obtain ⟨g, vs, d, hg, hc⟩ := q
      simp only [Value.slice.injEq, Option.some.injEq, Addr.mk.injEq] at d
      obtain ⟨⟨d, _⟩, _⟩ := d
      subst d
      exact cat_any _ 2 2 vs [([four gn, [83, 49], [(nD : Int), 0], four tl, bitsL U 32, denL D 0 8, four gn]).flatten, ([four gn, [83, 50], [0, 0], denL D 8 8, List.replicate 32 0] : List (List Int)).flatten] _ rfl hg (fun i hi => (hc i (by simpa using hi)).1) (fun i hi => (hc i (by simpa using hi)).2) (by rw [BODY_len]; decide) (by decide)
    have bb := hid_of (below_new wE (.cells #[.slice (some ⟨b1, o1, none⟩) 64 c1, .slice (some ⟨b6, o6, none⟩) 56 c6] 22))
    have AF := hid_of AF
    go_wp2_with fail
    have bb := bb.out
    refine AF.out.mono ?_
    rintro e wF ⟨v7, rfl, ho7, hb7⟩
    have hbb : Below wE.heap.size wE wF := bb.trans (hb7.mono bb.size)
    have HXF : Hid (XM w #[.int .u32 gn, .int .u32 tl, .slice aD nD cD, .slice aU nU cU] w2 wF) := HXE.out.grow hbb
    obtain ⟨b7, o7, c7, e7, _⟩ := ho7.part
    rw [BODY_len] at e7
    have P7 : Part wF (.slice (some ⟨b7, o7, none⟩) 120 c7) (([([four gn, [83, 49], [(nD : Int), 0], four tl, bitsL U 32, denL D 0 8, four gn]).flatten, ([four gn, [83, 50], [0, 0], denL D 8 8, List.replicate 32 0] : List (List Int)).flatten] : List (List Int)).flatten) := by rw [← e7]; exact ho7.part
    subst e7
    have HPF : Hid (Part wF (.slice (some ⟨b1, o1, none⟩) 64 c1) (([four gn, [83, 49], [(nD : Int), 0], four tl, bitsL U 32, denL D 0 8, four gn]).flatten) ∧ Part wF (.slice (some ⟨q0, 0, none⟩) 2 2) ([83, 50]) ∧ Part wF (.slice (some ⟨q0 + 1, 0, none⟩) 2 2) ([0, 0]) ∧ Part wF (.slice (some ⟨G, 0, none⟩) 4 4) (four gn) ∧ Part wF (.slice (some ⟨b4, o4, none⟩) 16 c4) (denL D 8 8) ∧ Part wF (.slice (some ⟨b5, o5, none⟩) 32 c5) (List.replicate 32 0) ∧ Part wF (.slice (some ⟨b6, o6, none⟩) 56 c6) (([four gn, [83, 50], [0, 0], denL D 8 8, List.replicate 32 0] : List (List Int)).flatten) ∧ Part wF (.slice (some ⟨b7, o7, none⟩) 120 c7) (([([four gn, [83, 49], [(nD : Int), 0], four tl, bitsL U 32, denL D 0 8, four gn]).flatten, ([four gn, [83, 50], [0, 0], denL D 8 8, List.replicate 32 0] : List (List Int)).flatten] : List (List Int)).flatten)) := ⟨HPE.out.1.below hbb, HPE.out.2.1.below hbb, HPE.out.2.2.1.below hbb, HPE.out.2.2.2.1.below hbb, HPE.out.2.2.2.2.1.below hbb, HPE.out.2.2.2.2.2.1.below hbb, HPE.out.2.2.2.2.2.2.below hbb, P7⟩
    clear ho7 hb7 bb hbb P7 AF HXE HPE
    have hAt : At .u8 wF (some ⟨b7, o7, none⟩) (([([four gn, [83, 49], [(nD : Int), 0], four tl, bitsL U 32, denL D 0 8, four gn]).flatten, ([four gn, [83, 50], [0, 0], denL D 8 8, List.replicate 32 0] : List (List Int)).flatten] : List (List Int)).flatten) := by
      obtain ⟨b, o, c, e, hl, hc⟩ := HPF.out.2.2.2.2.2.2.2
      rw [BODY_len] at e
      simp only [Value.slice.injEq, Option.some.injEq, Addr.mk.injEq] at e
      obtain ⟨⟨rfl, rfl, _⟩, _⟩ := e
      exact .inr ⟨b7, o7, rfl, hl, hc⟩
    have CC := crcS_any (some ⟨b7, o7, none⟩) 120 c7 (([([four gn, [83, 49], [(nD : Int), 0], four tl, bitsL U 32, denL D 0 8, four gn]).flatten, ([four gn, [83, 50], [0, 0], denL D 8 8, List.replicate 32 0] : List (List Int)).flatten] : List (List Int)).flatten) wF BODY_len (by decide) hAt (BODY_byte HU.out.1 HU.out.2 HDR.out hn16)
    clear hAt
    obtain ⟨cr, hcr⟩ : ∃ cr, cr = crc (([([four gn, [83, 49], [(nD : Int), 0], four tl, bitsL U 32, denL D 0 8, four gn]).flatten, ([four gn, [83, 50], [0, 0], denL D 8 8, List.replicate 32 0] : List (List Int)).flatten] : List (List Int)).flatten) := ⟨_, rfl⟩
    rw [← hcr] at CC
    have HU2 : Hid (U32 cr) := by show U32 cr; rw [hcr]; exact crc_bd _
    have HCR := hid_of hcr
    clear hcr
    have CC := hid_of CC
    go_wp2_with fail
    refine CC.out.mono ?_
    rintro e w9 ⟨rfl, h9⟩
    subst w9
    clear CC
    go_wp2_with fail
    refine (four_any cr _ HU2.out).mono ?_
    rintro e wG ⟨rfl, hwG⟩
    have hbG : Below wF.heap.size wF wG := by rw [hwG]; exact below_new wF _
    have HXG : Hid (XM w #[.int .u32 gn, .int .u32 tl, .slice aD nD cD, .slice aU nU cU] w2 wG) := HXF.out.grow hbG
    have P8 : Part wG (.slice (some ⟨wF.heap.size, 0, none⟩) 4 4) (four cr) := by rw [hwG]; exact part_new wF #[.int .u8 (cr % 256), .int .u8 (cr / 256 % 256), .int .u8 (cr / 65536 % 256), .int .u8 (cr / 16777216)] (four cr) 5 rfl 4 rfl 4
    have HPG : Hid (Part wG (.slice (some ⟨b1, o1, none⟩) 64 c1) (([four gn, [83, 49], [(nD : Int), 0], four tl, bitsL U 32, denL D 0 8, four gn]).flatten) ∧ Part wG (.slice (some ⟨q0, 0, none⟩) 2 2) ([83, 50]) ∧ Part wG (.slice (some ⟨q0 + 1, 0, none⟩) 2 2) ([0, 0]) ∧ Part wG (.slice (some ⟨G, 0, none⟩) 4 4) (four gn) ∧ Part wG (.slice (some ⟨b4, o4, none⟩) 16 c4) (denL D 8 8) ∧ Part wG (.slice (some ⟨b5, o5, none⟩) 32 c5) (List.replicate 32 0) ∧ Part wG (.slice (some ⟨b6, o6, none⟩) 56 c6) (([four gn, [83, 50], [0, 0], denL D 8 8, List.replicate 32 0] : List (List Int)).flatten) ∧ Part wG (.slice (some ⟨b7, o7, none⟩) 120 c7) (([([four gn, [83, 49], [(nD : Int), 0], four tl, bitsL U 32, denL D 0 8, four gn]).flatten, ([four gn, [83, 50], [0, 0], denL D 8 8, List.replicate 32 0] : List (List Int)).flatten] : List (List Int)).flatten) ∧ Part wG (.slice (some ⟨wF.heap.size, 0, none⟩) 4 4) (four cr)) := ⟨HPF.out.1.below hbG, HPF.out.2.1.below hbG, HPF.out.2.2.1.below hbG, HPF.out.2.2.2.1.below hbG, HPF.out.2.2.2.2.1.below hbG, HPF.out.2.2.2.2.2.1.below hbG, HPF.out.2.2.2.2.2.2.1.below hbG, HPF.out.2.2.2.2.2.2.2.below hbG, P8⟩
    clear hbG hwG P8 HXF HPF HU2
    generalize wF.heap.size = q8 at *
    have AH : Calls Try.prog 31 #[.slice (some ⟨wG.heap.size, 0, none⟩) 3 3] (wG.alloc (.cells #[.slice (some ⟨b7, o7, none⟩) 120 c7, .slice (some ⟨q8, 0, none⟩) 4 4, .slice (some ⟨G, 0, none⟩) 4 4] 22)) fun e w' => ∃ v, e = .returned v ∧ Own w' (wG.alloc (.cells #[.slice (some ⟨b7, o7, none⟩) 120 c7, .slice (some ⟨q8, 0, none⟩) 4 4, .slice (some ⟨G, 0, none⟩) 4 4] 22)).heap.size v ([([([four gn, [83, 49], [(nD : Int), 0], four tl, bitsL U 32, denL D 0 8, four gn]).flatten, ([four gn, [83, 50], [0, 0], denL D 8 8, List.replicate 32 0] : List (List Int)).flatten] : List (List Int)).flatten, four cr, four gn] : List (List Int)).flatten ∧ Below (wG.alloc (.cells #[.slice (some ⟨b7, o7, none⟩) 120 c7, .slice (some ⟨q8, 0, none⟩) 4 4, .slice (some ⟨G, 0, none⟩) 4 4] 22)).heap.size (wG.alloc (.cells #[.slice (some ⟨b7, o7, none⟩) 120 c7, .slice (some ⟨q8, 0, none⟩) 4 4, .slice (some ⟨G, 0, none⟩) 4 4] 22)) w' := by
      have q := PtL.new wG 22 [(.slice (some ⟨b7, o7, none⟩) 120 c7, ([([four gn, [83, 49], [(nD : Int), 0], four tl, bitsL U 32, denL D 0 8, four gn]).flatten, ([four gn, [83, 50], [0, 0], denL D 8 8, List.replicate 32 0] : List (List Int)).flatten] : List (List Int)).flatten), (.slice (some ⟨q8, 0, none⟩) 4 4, four cr), (.slice (some ⟨G, 0, none⟩) 4 4, four gn)] (by
        intro p hp
        simp only [List.mem_cons, List.not_mem_nil, or_false] at hp
        rcases hp with rfl | rfl | rfl
        · exact HPG.out.2.2.2.2.2.2.2.1
        · exact HPG.out.2.2.2.2.2.2.2.2
        · exact HPG.out.2.2.2.1)
      obtain ⟨g, vs, d, hg, hc⟩ := q
      simp only [Value.slice.injEq, Option.some.injEq, Addr.mk.injEq] at d
      obtain ⟨⟨d, _⟩, _⟩ := d
      subst d
      exact cat_any _ 3 3 vs [([([four gn, [83, 49], [(nD : Int), 0], four tl, bitsL U 32, denL D 0 8, four gn]).flatten, ([four gn, [83, 50], [0, 0], denL D 8 8, List.replicate 32 0] : List (List Int)).flatten] : List (List Int)).flatten, four cr, four gn] _ rfl hg (fun i hi => (hc i (by simpa using hi)).1) (fun i hi => (hc i (by simpa using hi)).2) (by rw [END_len]; decide) (by decide)
    have bb := hid_of (below_new wG (.cells #[.slice (some ⟨b7, o7, none⟩) 120 c7, .slice (some ⟨q8, 0, none⟩) 4 4, .slice (some ⟨G, 0, none⟩) 4 4] 22))
    have AH := hid_of AH
    go_wp2_with fail
    have bb := bb.out
    refine AH.out.mono ?_
    rintro e wH ⟨v8, rfl, ho8, hb8⟩
    have hbb : Below wG.heap.size wG wH := bb.trans (hb8.mono bb.size)
    have HXH : Hid (XM w #[.int .u32 gn, .int .u32 tl, .slice aD nD cD, .slice aU nU cU] w2 wH) := HXG.out.grow hbb
    have HO8 := hid_of (ho8.lower (B' := w.heap.size) (Nat.le_trans HXG.out.all.size bb.size))
    clear ho8 hb8 bb hbb AH HXG HPG
    go_wp2_with fail
    go_ret
    refine ⟨_, rfl, ?_, HXH.out.all⟩
    unfold snL
    rw [HL.out.1, ← HCR.out]
    exact HO8.out
end Go.Proofs.Ytmnoelfabldpfaa
