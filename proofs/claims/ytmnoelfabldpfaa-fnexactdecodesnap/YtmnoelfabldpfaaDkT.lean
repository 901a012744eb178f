/-
  Own work: DecodeSnap, by the model, for every text (written by wip/mkdks.py).
-/
import Derived.Test.YtmnoelfabldpfaaDkS
namespace Go.Proofs.Ytmnoelfabldpfaa
open Go.ChangeShapes Go.WideShapes Go.ChangeAt Go.RowKit
set_option linter.unusedVariables false

set_option maxRecDepth 100000 in
set_option maxHeartbeats 2000000 in
theorem sdk_any (a : Option Addr) (n cap : Nat) (zs : List Int) (w : World) (hn : zs.length = n) (hm : n ≤ 1048576) (ha : At .u8 w a zs) (hz : Byte zs) :
    Calls Try.prog 5 #[.slice a n cap] w fun e w' => ∃ v, e = .returned v ∧ DVW w.heap.size w' v (dkF zs) ∧ Below w.heap.size w w' := by
  have HBX : Hid (BXS w (w.alloc (.cells #[.bool false, .int .u32 0, .int .u32 0, .slice none 0 0, .slice none 0 0] 28))) := BXS.start w
  have HSR : Hid ((Try.prog.info? 28).map (·.size) = some 5) := by show _ = _; kernel_rfl
  by_cases h128 : n = 128
  · subst h128
    obtain ⟨b, off, rfl, hb, hc⟩ := ha.get (by omega)
    by_cases h16 : zs.getD 6 0 ≤ 16
    · exact sdk_yes b off cap zs w hn hz hb hc h16
    · have HF : Hid (dkF zs = dkNo) := dkF_cnt h16
      have c6 : (w.alloc (.cells #[.bool false, .int .u32 0, .int .u32 0, .slice none 0 0, .slice none 0 0] 28)).cell? ⟨b, off + 6, none⟩ = some (.int .u8 (zs.getD 6 0)) := ((below_new w _).cell (p := ⟨b, off + 6, none⟩) hb).trans (hc 6 (by omega))
      have b6 := hz.get 6
      have hc6 : zs.getD 6 0 > 16 := by omega
      clear hn ha hz hc h16
      generalize zs.getD 6 0 = z6 at c6 hc6 b6
      obtain ⟨b60, b61⟩ := b6
      go_enter Try.func5, Try.ntmps5
      go_wp2_with (first
        | (refine wpList_store_row rfl 28 (.tmp 2) (.tmp 17) rfl w.heap.size #[.bool false, .int .u32 0, .int .u32 0, .slice none 0 0, .slice none 0 0] rfl rfl 28 _ HBX.out.box HSR.out rfl (all5s _ _ _ _ _ _ _ _ _) ?_)
        | fail)
      (try simp only [Exit.inBlock, Exit.then])
      refine bodyPost_ret (v := .agg #[.bool false, .int .u32 0, .int .u32 0, .slice none 0 0, .slice none 0 0]) (results_cell_row rfl _ _ w.heap.size 28 _ (0, 0) _ rfl (setRow_heap _ _ _ _ _ _ HBX.out.box) Try.underlying28 rfl HSR.out) rfl ⟨_, rfl, ?_, HBX.out.below.trans ((Wr.setRow _ _ _).below (Nat.le_refl _))⟩
      rw [HF.out]
      exact DVW.no _ _
  · have HF : Hid (dkF zs = dkNo) := dkF_len (by omega)
    have hne : ((n : Int) != 128) = true := by simp; omega
    clear hn ha hz
    go_enter Try.func5, Try.ntmps5
    go_wp2_with (first
      | (refine wpList_store_row rfl 28 (.tmp 2) (.tmp 17) rfl w.heap.size #[.bool false, .int .u32 0, .int .u32 0, .slice none 0 0, .slice none 0 0] rfl rfl 28 _ HBX.out.box HSR.out rfl (all5s _ _ _ _ _ _ _ _ _) ?_)
      | fail)
    (try simp only [Exit.inBlock, Exit.then])
    refine bodyPost_ret (v := .agg #[.bool false, .int .u32 0, .int .u32 0, .slice none 0 0, .slice none 0 0]) (results_cell_row rfl _ _ w.heap.size 28 _ (0, 0) _ rfl (setRow_heap _ _ _ _ _ _ HBX.out.box) Try.underlying28 rfl HSR.out) rfl ⟨_, rfl, ?_, HBX.out.below.trans ((Wr.setRow _ _ _).below (Nat.le_refl _))⟩
    rw [HF.out]
    exact DVW.no _ _
end Go.Proofs.Ytmnoelfabldpfaa
