/-
  Own work: EncodeSnap, by the program.
-/
import Derived.Test.YthghkfncpdnpoacSnX
namespace Go.Proofs.Ythghkfncpdnpoac
open Go.ChangeShapes Go.WideShapes Go.ChangeAt Go.RowKit
set_option linter.unusedVariables false

theorem ies_no (gn tl : Int) (aD aU : Option Addr) (nD cD nU cU : Nat) (D U : List Int) (w : World) (hD : D.length = nD) (hU : U.length = nU) (mD : nD ≤ 1048576) (mU : nU ≤ 1048576) (haD : At .i64 w aD D) (haU : At .i64 w aU U) (hs : snB gn tl D U = false) :
    Calls Try.prog 34 #[.agg #[.int .u32 gn, .int .u32 tl, .slice aD nD cD, .slice aU nU cU]] w fun e w' => e = .returned (.slice none 0 0) ∧ Below w.heap.size w w' := by
  have b0 : Below w.heap.size w (w.alloc (.cells #[.int .u32 gn, .int .u32 tl, .slice aD nD cD, .slice aU nU cU] 53)) := (Below.refl _ _).alloc (Nat.le_refl _) _
  have hh := heap_alloc_new w (.cells #[.int .u32 gn, .int .u32 tl, .slice aD nD cD, .slice aU nU cU] 53)
  have HC := snv_any w.heap.size gn tl aD aU nD cD nU cU D U (w.alloc (.cells #[.int .u32 gn, .int .u32 tl, .slice aD nD cD, .slice aU nU cU] 53)) (by simp) (by rw [cell_of_row _ _ 0 _ _ _ hh]; rfl) (by rw [cell_of_row _ _ 1 _ _ _ hh]; rfl) (by rw [cell_of_row _ _ 2 _ _ _ hh]; rfl) (by rw [cell_of_row _ _ 3 _ _ _ hh]; rfl) hD hU mD mU (haD.below b0) (haU.below b0)
  rw [hs] at HC
  have HB := hid_of b0
  clear haD haU hD hU b0 hs hh
  go_enter Try.func34, Try.ntmps34
  go_wp2_with fail
  refine HC.mono ?_
  rintro e w1 ⟨rfl, hb1⟩
  have HB1 := hid_of (HB.out.trans (hb1.mono HB.out.size))
  clear HC hb1 HB
  go_wp2
  go_ret
  exact ⟨rfl, HB1.out⟩
set_option maxRecDepth 100000 in
set_option maxHeartbeats 2000000 in
theorem ies_yes (gn tl : Int) (aD aU : Option Addr) (nD cD nU cU : Nat) (D U : List Int) (w : World) (hD : D.length = nD) (hU : U.length = nU) (mD : nD ≤ 1048576) (mU : nU ≤ 1048576) (haD : At .i64 w aD D) (haU : At .i64 w aU U) (ug : U32 gn) (ut : U32 tl) (hs : SnP gn tl D U) :
    Calls Try.prog 34 #[.agg #[.int .u32 gn, .int .u32 tl, .slice aD nD cD, .slice aU nU cU]] w fun e w' => ∃ v, e = .returned v ∧ OwnL w.heap.size w' v (snL gn tl D U) ∧ Below w.heap.size w w' := by
  have b0 : Below w.heap.size w (w.alloc (.cells #[.int .u32 gn, .int .u32 tl, .slice aD nD cD, .slice aU nU cU] 53)) := (Below.refl _ _).alloc (Nat.le_refl _) _
  have hh := heap_alloc_new w (.cells #[.int .u32 gn, .int .u32 tl, .slice aD nD cD, .slice aU nU cU] 53)
  have HC := snv_any w.heap.size gn tl aD aU nD cD nU cU D U (w.alloc (.cells #[.int .u32 gn, .int .u32 tl, .slice aD nD cD, .slice aU nU cU] 53)) (by simp) (by rw [cell_of_row _ _ 0 _ _ _ hh]; rfl) (by rw [cell_of_row _ _ 1 _ _ _ hh]; rfl) (by rw [cell_of_row _ _ 2 _ _ _ hh]; rfl) (by rw [cell_of_row _ _ 3 _ _ _ hh]; rfl) hD hU mD mU (haD.below b0) (haU.below b0)
  rw [snB_yes hs] at HC
  have HO0 : Hid (OE w 53 #[.int .u32 gn, .int .u32 tl, .slice aD nD cD, .slice aU nU cU] (w.alloc (.cells #[.int .u32 gn, .int .u32 tl, .slice aD nD cD, .slice aU nU cU] 53))) := OE.start _ _ _
  have HA : Hid (At .i64 w aD D ∧ At .i64 w aU U) := ⟨haD, haU⟩
  have HL : Hid (D.length = nD ∧ U.length = nU) := ⟨hD, hU⟩
  have HU : Hid (U32 gn ∧ U32 tl) := ⟨ug, ut⟩
  have HP : Hid (SnP gn tl D U) := hs
  clear haD haU hD hU b0 hs hh ug ut
  go_enter Try.func34, Try.ntmps34
  go_wp2_with fail
  generalize (w.alloc (.cells #[.int .u32 gn, .int .u32 tl, .slice aD nD cD, .slice aU nU cU] 53)) = w0 at *
  refine HC.mono ?_
  rintro e w1 ⟨rfl, hb1⟩
  have HO1 : Hid (OE w 53 #[.int .u32 gn, .int .u32 tl, .slice aD nD cD, .slice aU nU cU] w1) := HO0.out.call hb1
  clear HC HO0 hb1
  go_wp2_with fail
  refine (encd_any w.heap.size gn tl aD aU nD cD nU cU D U w1 (Array.getElem?_eq_some_iff.1 HO1.out.b0).1 (by rw [cell_of_row _ _ 0 _ _ _ HO1.out.b0]; rfl) (by rw [cell_of_row _ _ 1 _ _ _ HO1.out.b0]; rfl) (by rw [cell_of_row _ _ 2 _ _ _ HO1.out.b0]; rfl) (by rw [cell_of_row _ _ 3 _ _ _ HO1.out.b0]; rfl) HL.out.1 HL.out.2 mD mU (HA.out.1.below HO1.out.below) (HA.out.2.below HO1.out.below) HU.out.1 HU.out.2 HP.out).mono ?_
  rintro e w2 ⟨rfl, hb2⟩
  have HB2 : Hid (Below w.heap.size w w2) := (HO1.out.call hb2).below
  have HZL : Hid ((snL gn tl D U).length = 128) := by show _ = _; unfold snL; exact END_len
  clear hb2 HO1
  generalize hzz : snL gn tl D U = zz at *
  have HZZ := hid_of hzz
  clear hzz
  have HN : Hid ((w2.alloc (.cells Try.zeroCells113 113)).heap[w2.heap.size]? = some (.cells Try.zeroCells113 113 (0, 0))) := heap_alloc_new w2 _
  have hsz : (zz.map (Value.int .u8)).toArray.size = 128 := by rw [List.size_toArray, List.length_map]; exact HZL.out
  have HSZ : Hid ((Try.prog.info? 113).map (·.size) = some (zz.map (Value.int .u8)).toArray.size) := by show _ = _; rw [hsz]; kernel_rfl
  have HEQ : Hid ((Try.zeroCells113).size = (zz.map (Value.int .u8)).toArray.size) := by show _ = _; rw [hsz]; kernel_rfl
  have HOK : Hid ((zz.map (Value.int .u8)).toArray.all (fun x => x.oneCell') = true) := by show _ = _; simp [Value.oneCell']
  have HR : Hid (Row ((w2.alloc (.cells Try.zeroCells113 113)).setRow w2.heap.size (zz.map (Value.int .u8)).toArray) w2.heap.size 113 zz) := setRow_heap _ _ _ _ _ _ HN.out
  have HB3 : Hid (Below w.heap.size w ((w2.alloc (.cells Try.zeroCells113 113)).setRow w2.heap.size (zz.map (Value.int .u8)).toArray)) := HB2.out.trans ((((Below.refl _ _).alloc (Nat.le_refl _) _).trans ((Wr.setRow _ _ _).below (Nat.le_refl _))).mono HB2.out.size)
  clear hsz HB2
  go_upto_region 4 with (first
    | (refine wpList_store_row rfl 113 (.tmp 3) (.tmp 6) rfl w2.heap.size (zz.map (Value.int .u8)).toArray rfl rfl 113 _ HN.out HSZ.out HEQ.out HOK.out ?_)
    | fail)
  clear HN HSZ HEQ HOK
  generalize ((w2.alloc (.cells Try.zeroCells113 113)).setRow w2.heap.size (zz.map (Value.int .u8)).toArray) = w3 at *
  generalize w2.heap.size = q at *
  go_wp2_with fail
  refine (text_any q zz w3 HR.out HZL.out).mono ?_
  rintro e w4 ⟨v, rfl, ho, hb4⟩
  have HF : Hid (OwnL w.heap.size w4 v zz ∧ Below w.heap.size w w4) := ⟨by obtain ⟨B, hB, h⟩ := ho; exact ⟨B, Nat.le_trans HB3.out.size hB, h⟩, HB3.out.trans (hb4.mono HB3.out.size)⟩
  clear ho hb4
  go_wp2
  go_ret
  exact ⟨_, rfl, HZZ.out ▸ HF.out.1, HF.out.2⟩
end Go.Proofs.Ythghkfncpdnpoac
