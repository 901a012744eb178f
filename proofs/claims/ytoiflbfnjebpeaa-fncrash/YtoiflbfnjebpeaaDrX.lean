/-
  Own work: a drawn device (4): l1AnyDev (written by wip/mkdrx.py).
-/
import Derived.Test.YtoiflbfnjebpeaaDrW
namespace Go.Proofs.Ytoiflbfnjebpeaa
open Go.ChangeShapes Go.WideShapes Go.ChangeAt Go.RowKit
set_option linter.unusedVariables false

def AnyPost (w : World) (g : Nat) (x : Option Addr) (n cap : Nat) (e : Ending) (w' : World) : Prop :=
  ∃ v zs ps f d, e = .returned v ∧ DX w.heap.size w' v zs ps f d ∧ BdS zs ps f ∧ CurB w' g x n cap ∧ WrG g w w'

set_option maxRecDepth 100000 in
set_option maxHeartbeats 4000000 in
theorem anyDev_any (g : Nat) (x : Option Addr) (n cap : Nat) (w : World) (hc : CurB w g x n cap) (ht : CurT w g x n) (hg : g < w.heap.size) :
    Calls Try.prog 52 #[.pointer (some ⟨g, 0, none⟩)] w (AnyPost w g x n cap) := by
  have HSD : Hid _ := Try.sizeDv
  have hb0 := (Below.refl w.heap.size w).alloc (Nat.le_refl _) (.cells #[.slice none 0 0, .slice none 0 0, .int .i64 0, .bool false] 25)
  have hc0 : CurB (w.alloc (.cells #[.slice none 0 0, .slice none 0 0, .int .i64 0, .bool false] 25)) g x n cap := hc.keepS (hb0.block g hg)
  have ht0 := ht.wr (w' := w.alloc (.cells #[.slice none 0 0, .slice none 0 0, .int .i64 0, .bool false] 25)) (fun k hk => hb0.block k (by omega))
  have hr0 : (w.alloc (.cells #[.slice none 0 0, .slice none 0 0, .int .i64 0, .bool false] 25)).heap[w.heap.size]? = some (.cells #[.slice none 0 0, .slice none 0 0, .int .i64 0, .bool false] 25 (0, 0)) := heap_alloc_new w _
  have hz0 : (w.alloc (.cells #[.slice none 0 0, .slice none 0 0, .int .i64 0, .bool false] 25)).heap.size = w.heap.size + 1 := by simp
  have hwr0 : WrG g w (w.alloc (.cells #[.slice none 0 0, .slice none 0 0, .int .i64 0, .bool false] 25)) := WrG.of_below hb0
  clear hb0 hc ht
  go_enter Try.func52, Try.ntmps52
  go_wp2_with fail
  generalize w.alloc (.cells #[.slice none 0 0, .slice none 0 0, .int .i64 0, .bool false] 25) = w1 at *
  refine (dev_any g x n cap _ hc0 ht0 (by omega)).mono ?_
  rintro e w2 ⟨v, zs, ps, f, d, rfl, dx2, bd, hc2, hw2⟩
  have hs2 := hw2.size
  have hbn : Below w2.heap.size w2 (w2.alloc (.cells #[.slice none 0 0, .slice none 0 0, .int .i64 0, .bool false] 25)) := (Below.refl _ _).alloc (Nat.le_refl _) _
  obtain ⟨da, dc, ca, cc, E0, rfl, _⟩ := id dx2
  obtain ⟨L, hL⟩ : ∃ L, L = zs.length := ⟨_, rfl⟩
  obtain ⟨M, hM⟩ : ∃ M, M = ps.length := ⟨_, rfl⟩
  rw [← hL, ← hM] at dx2 ⊢
  have st0 : DS w (w2.alloc (.cells #[.slice none 0 0, .slice none 0 0, .int .i64 0, .bool false] 25)) g x n cap w.heap.size w2.heap.size (.slice none 0 0) (.slice none 0 0) [] [] 0 false := by
    have hr2 : w2.heap[w.heap.size]? = some (.cells #[.slice none 0 0, .slice none 0 0, .int .i64 0, .bool false] 25 (0, 0)) := by rw [hw2.block _ (by omega) (by omega)]; exact hr0
    exact ⟨hc2.keepS (hbn.block g (by omega)), (ht0.wr (fun k hk => hw2.block k (by omega) (by omega))).wr (fun k hk => hbn.block k (by omega)), by rw [hbn.block _ (by omega)]; exact hr2, heap_alloc_new w2 _, (hwr0.trans hw2).trans (WrG.of_below hbn),
      ⟨none, 0, none, 0, w.heap.size, rfl, .inl rfl, .inl rfl, (fun ad e => by cases e), Nat.le_refl _, by have := hbn.size; omega, ⟨[], POwn.nil _ _, rfl⟩, Nat.le_refl _⟩, hg, Nat.le_refl _, by omega, by omega⟩
  have HST := hid_ofD (st0.setRow ((dx2.mono (B' := w.heap.size) (by omega)).below hbn))
  have HN2 : Hid ((w2.alloc (.cells #[.slice none 0 0, .slice none 0 0, .int .i64 0, .bool false] 25)).heap[w2.heap.size]? = some (.cells #[.slice none 0 0, .slice none 0 0, .int .i64 0, .bool false] 25 (0, 0))) := heap_alloc_new w2 _
  have HBD := hid_ofD bd
  have HLM := hid_ofD (And.intro hL hM)
  clear st0 dx2 hbn hc2 hw2 bd hc0 ht0 hr0 hwr0 hL hM
  go_wp2_with (refine wpList_store_row rfl 25 (.tmp 3) (.tmp 5) rfl w2.heap.size #[.slice da L dc, .slice ca M cc, .int .i64 f, .bool d] rfl rfl 25 _ HN2.out HSD.out rfl (all4x _ _ _ _ _ _ _ _) ?_)
  clear HN2
  generalize (w2.alloc (.cells #[.slice none 0 0, .slice none 0 0, .int .i64 0, .bool false] 25)).setRow w2.heap.size #[.slice da L dc, .slice ca M cc, .int .i64 f, .bool d] = w3 at *
  generalize w2.heap.size = F at *
  go_wp2_with fail
  refine (once_any g x n cap 12 _ HST.out.cur HST.out.txt (by decide) (by decide)).mono ?_
  rintro e W ⟨ob, rfl, hc4, hw4⟩
  have HS4 := hid_ofD (HST.out.far hw4.wrG hc4)
  clear HST hc4 hw4
  obtain ⟨⟨y0, y1, y2, y3⟩, yf⟩ := HS4.out.cells
  clear yf
  cases ob with
  | false =>
    obtain ⟨e1, e2, e3⟩ := ds_endR HS4.out
    have HF : Hid (AnyPost w g x n cap (.returned (.agg #[.slice da L dc, .slice ca M cc, .int .i64 f, .bool d])) (W.setRow w.heap.size #[.slice da L dc, .slice ca M cc, .int .i64 f, .bool d])) := ⟨_, zs, ps, f, d, rfl, e1, HBD.out.s, e2, e3⟩
    clear e1 e2 e3
    go_wp2_with (first
      | (refine wpList_store_row rfl 25 (.tmp 2) (.tmp 11) rfl w.heap.size #[.slice da L dc, .slice ca M cc, .int .i64 f, .bool d] rfl rfl 25 _ HS4.out.res HSD.out rfl (all4x _ _ _ _ _ _ _ _) ?_)
      | fail)
    (try simp only [Exit.inBlock, Exit.then])
    exact bodyPost_ret (v := .agg #[.slice da L dc, .slice ca M cc, .int .i64 f, .bool d]) (results_cell_row rfl _ _ w.heap.size 25 _ (0, 0) _ rfl (setRow_heap _ _ _ _ _ _ HS4.out.res) Try.underlying25 rfl HSD.out) rfl HF.out
  | true =>
    have A := hid_ofD (spoil_any w g x n cap (.agg #[.slice da L dc, .slice ca M cc, .int .i64 f, .bool d]) zs ps f d W HS4.out.cur HS4.out.txt hg HS4.out.wr HS4.out.dx HBD.out)
    have HRS : Hid (W.heap[w.heap.size]? = some (.cells #[.slice none 0 0, .slice none 0 0, .int .i64 0, .bool false] 25 (0, 0))) := HS4.out.res
    clear HS4
    go_wp2_with fail
    refine A.out.mono ?_
    rintro e w5 ⟨v, zs5, ps5, f5, d5, rfl, dx5, bd5, hc5, hw5, hs5, hk5⟩
    have hR5 : w5.heap[w.heap.size]? = some (.cells #[.slice none 0 0, .slice none 0 0, .int .i64 0, .bool false] 25 (0, 0)) := by rw [hk5 _ _ (Nat.le_refl _) (Array.getElem?_eq_some_iff.1 HRS.out).1 HRS.out]; exact HRS.out
    obtain ⟨da5, dc5, ca5, cc5, E5, rfl, _⟩ := id dx5
    have HF : Hid (AnyPost w g x n cap (.returned (.agg #[.slice da5 zs5.length dc5, .slice ca5 ps5.length cc5, .int .i64 f5, .bool d5])) (w5.setRow w.heap.size #[.slice da5 zs5.length dc5, .slice ca5 ps5.length cc5, .int .i64 f5, .bool d5])) :=
      ⟨_, zs5, ps5, f5, d5, rfl, dx5.keepD hR5 (dev_cs _ _ _ _ _ _ _ _) (fun j hj => setRow_other _ _ _ _ hj) (by rw [size_setRow]; exact Nat.le_refl _), bd5, hc5.keepS (setRow_other _ _ _ _ (by omega)),
        ⟨hw5.os, hw5.tape, hw5.output, by rw [size_setRow]; exact hw5.size, fun j hj hg => (setRow_other _ _ _ _ (by omega)).trans (hw5.block j hj hg)⟩⟩
    have HR5 := hid_ofD hR5
    clear A dx5 bd5 hc5 hw5 hk5 hR5 HRS y0 y1 y2 y3
    generalize zs5.length = L5 at *
    generalize ps5.length = M5 at *
    go_wp2_with (first
      | (refine wpList_store_row rfl 25 (.tmp 2) (.tmp 10) rfl w.heap.size #[.slice da5 L5 dc5, .slice ca5 M5 cc5, .int .i64 f5, .bool d5] rfl rfl 25 _ HR5.out HSD.out rfl (all4x _ _ _ _ _ _ _ _) ?_)
      | fail)
    (try simp only [Exit.inBlock, Exit.then])
    exact bodyPost_ret (v := .agg #[.slice da5 L5 dc5, .slice ca5 M5 cc5, .int .i64 f5, .bool d5]) (results_cell_row rfl _ _ w.heap.size 25 _ (0, 0) _ rfl (setRow_heap _ _ _ _ _ _ HR5.out) Try.underlying25 rfl HSD.out) rfl HF.out
end Go.Proofs.Ytoiflbfnjebpeaa
