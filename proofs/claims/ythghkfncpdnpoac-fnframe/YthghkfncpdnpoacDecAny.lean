/-
  Own work: DecodeFrame of the program and of the model, at every text.
-/
import Derived.Test.YthghkfncpdnpoacSDec
namespace Go.Proofs.Ythghkfncpdnpoac
open Go.ChangeShapes Go.WideShapes Go.ChangeAt Go.RowKit
set_option linter.unusedVariables false

theorem decV_len {zs : List Int} (h : zs.length ≠ 64) : decV zs = fNo := decV_no (by unfold decB; simp [h])
theorem decV_form (zs : List Int) : ∃ x s k a b, decV zs = .agg #[.bool x, .int .u32 s, .int .i64 k, .int .u32 a, .int .u32 b] := by
  cases h : decB zs
  · exact ⟨_, _, _, _, _, decV_no h⟩
  · exact ⟨_, _, _, _, _, decV_yes h⟩

set_option maxHeartbeats 1000000 in
theorem idec_any (a : Option Addr) (n cap : Nat) (zs : List Int) (w : World) (hn : zs.length = n) (hm : n ≤ 1048576) (hz : Byte zs) (ha : At .u8 w a zs) :
    Calls Try.prog 10 #[.slice a n cap] w fun e w' => e = .returned (decV zs) ∧ Below w.heap.size w w' := by
  by_cases h64 : n = 64
  · subst h64; exact idec_64 a cap zs w hn hz ha
  · rw [decV_len (by omega)]
    have ht : ((n : Int) != 64) = true := by rw [bne_iff_ne]; omega
    have hsF : (Try.prog.info? 28).map (·.size) = some 5 := by kernel_rfl
    have HSF : Hid _ := hsF
    clear hsF
    go_enter Try.func10, Try.ntmps10
    go_wp2_with (refine wpList_store_row rfl 28 (.tmp 2) (.tmp 8) rfl w.heap.size #[.bool false, .int .u32 0, .int .i64 0, .int .u32 0, .int .u32 0] rfl rfl 28 _ (heap_alloc_new w _) HSF.out rfl (all5 _ _ _ _ _) ?_)
    (try simp only [Exit.inBlock, Exit.then])
    refine bodyPost_ret (v := fNo) (results_cell_row rfl _ _ w.heap.size 28 _ (0, 0) _ rfl (setRow_heap _ _ _ _ _ _ (heap_alloc_new w _)) Try.underlying28 rfl HSF.out) rfl ⟨rfl, ?_⟩
    exact (below_new w _).trans ((Wr.setRow _ _ _).below (Nat.le_refl _))

set_option maxHeartbeats 1000000 in
theorem sdec_any (a : Option Addr) (n cap : Nat) (zs : List Int) (w : World) (hn : zs.length = n) (hm : n ≤ 1048576) (hz : Byte zs) (ha : At .u8 w a zs) :
    Calls Try.prog 13 #[.slice a n cap] w fun e w' => e = .returned (decV zs) ∧ Below w.heap.size w w' := by
  by_cases h64 : n = 64
  · subst h64
    obtain ⟨b, off, rfl, hb, hc⟩ := ha.get (by omega)
    exact sdec_64 b off cap zs w hn hz hb hc
  · rw [decV_len (by omega)]
    have ht : ((n : Int) != 64) = true := by rw [bne_iff_ne]; omega
    have hsF : (Try.prog.info? 28).map (·.size) = some 5 := by kernel_rfl
    have HSF : Hid _ := hsF
    clear hsF
    go_enter Try.func13, Try.ntmps13
    go_wp2_with (refine wpList_store_row rfl 28 (.tmp 2) (.tmp 7) rfl w.heap.size #[.bool false, .int .u32 0, .int .i64 0, .int .u32 0, .int .u32 0] rfl rfl 28 _ (heap_alloc_new w _) HSF.out rfl (all5 _ _ _ _ _) ?_)
    (try simp only [Exit.inBlock, Exit.then])
    refine bodyPost_ret (v := fNo) (results_cell_row rfl _ _ w.heap.size 28 _ (0, 0) _ rfl (setRow_heap _ _ _ _ _ _ (heap_alloc_new w _)) Try.underlying28 rfl HSF.out) rfl ⟨rfl, ?_⟩
    exact (below_new w _).trans ((Wr.setRow _ _ _).below (Nat.le_refl _))
end Go.Proofs.Ythghkfncpdnpoac
