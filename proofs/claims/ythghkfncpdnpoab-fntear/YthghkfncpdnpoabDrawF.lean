/-
  Own work: a drawn frame: some frame whose numbers are in range.
-/
import Derived.Test.YthghkfncpdnpoabDraw
namespace Go.Proofs.Ythghkfncpdnpoab
open Go.ChangeShapes Go.WideShapes Go.ChangeAt Go.RowKit
set_option linter.unusedVariables false

theorem Try.sizeFrame : (Try.prog.info? 29).map (·.size) = some 4 := by kernel_rfl
theorem all4f (s k a b : Int) : (#[Value.int .u32 s, .int .i64 k, .int .u32 a, .int .u32 b].all (fun v => v.oneCell')) = true := by simp [Value.oneCell']

/-- Where the drawing of a frame stands. -/
structure DF (w w' : World) (g : Nat) (x : Option Addr) (n cap R F : Nat) (s k a b : Int) : Prop where
  cur : CurB w' g x n cap
  txt : CurT w' g x n
  res : w'.heap[R]? = some (.cells #[.int .u32 0, .int .i64 0, .int .u32 0, .int .u32 0] 29 (0, 0))
  fr : w'.heap[F]? = some (.cells #[.int .u32 s, .int .i64 k, .int .u32 a, .int .u32 b] 29 (0, 0))
  wr : WrG g w w'
  us : U32 s
  ua : U32 a
  ub : U32 b
  gl : g < w.heap.size
  rl : w.heap.size ≤ R
  fl : R < F
theorem DF.call {w w' w'' : World} {g : Nat} {x : Option Addr} {n cap R F : Nat} {s k a b : Int} (h : DF w w' g x n cap R F s k a b) (hc : CurB w'' g x n cap) (hw : Wr g w' w'') : DF w w'' g x n cap R F s k a b :=
  ⟨hc, h.txt.wr (fun j hj => hw.block j (by omega)), by rw [hw.block R (by have := h.gl; have := h.rl; omega)]; exact h.res, by rw [hw.block F (by have := h.gl; have := h.rl; have := h.fl; omega)]; exact h.fr, h.wr.trans hw.wrG, h.us, h.ua, h.ub, h.gl, h.rl, h.fl⟩
theorem DF.cells {w w' : World} {g : Nat} {x : Option Addr} {n cap R F : Nat} {s k a b : Int} (h : DF w w' g x n cap R F s k a b) :
    (w'.cell? ⟨F, 0, none⟩ = some (.int .u32 s) ∧ w'.cell? ⟨F, 1, none⟩ = some (.int .i64 k) ∧ w'.cell? ⟨F, 2, none⟩ = some (.int .u32 a) ∧ w'.cell? ⟨F, 3, none⟩ = some (.int .u32 b)) ∧
    (∀ i, w'.frozen? ⟨F, i, none⟩ = false) :=
  ⟨⟨cell_of_row _ _ _ _ _ _ h.fr, cell_of_row _ _ _ _ _ _ h.fr, cell_of_row _ _ _ _ _ _ h.fr, cell_of_row _ _ _ _ _ _ h.fr⟩, fun i => frozen_of_row _ _ _ _ _ h.fr⟩
theorem DF.turn {w w' : World} {g : Nat} {x : Option Addr} {n cap R F : Nat} {s k a b : Int} (h : DF w w' g x n cap R F s k a b) (i : Nat) (v : Value) (s' k' a' b' : Int) (hs : (#[Value.int .u32 s, .int .i64 k, .int .u32 a, .int .u32 b].setIfInBounds i v) = #[.int .u32 s', .int .i64 k', .int .u32 a', .int .u32 b'])
    (us : U32 s') (ua : U32 a') (ub : U32 b') : DF w (w'.setCell ⟨F, i, none⟩ v) g x n cap R F s' k' a' b' := by
  have hne := h.gl
  have hne2 := h.rl
  have hne3 := h.fl
  obtain ⟨i0, h0, p1, p2, p3, p4, p5⟩ := h.cur
  refine ⟨⟨i0, h0, p1, p2, p3, p4, by rw [heap_setCell_other _ _ _ _ (by show g ≠ F; omega)]; exact p5⟩, h.txt.wr (fun j hj => heap_setCell_other _ _ _ _ (by show j ≠ F; omega)), ?_, ?_, ⟨h.wr.os, h.wr.tape, h.wr.output, by simp only [World.setCell, Array.size_modify]; exact h.wr.size, fun j hj hg => (heap_setCell_other _ _ _ _ (by show j ≠ F; omega)).trans (h.wr.block j hj hg)⟩, us, ua, ub, h.gl, h.rl, h.fl⟩
  · rw [heap_setCell_other _ _ _ _ (by show R ≠ F; omega)]; exact h.res
  · rw [heap_setCell_same w' F i _ _ v h.fr, hs]

def FrPost (w : World) (g : Nat) (x : Option Addr) (n cap : Nat) (e : Ending) (w' : World) : Prop :=
  ∃ s k a b : Int, e = .returned (.agg #[.int .u32 s, .int .i64 k, .int .u32 a, .int .u32 b]) ∧ U32 s ∧ U32 a ∧ U32 b ∧ CurB w' g x n cap ∧ WrG g w w'

theorem df_end {w w' : World} {g : Nat} {x : Option Addr} {n cap F : Nat} {s k a b : Int} (h : DF w w' g x n cap w.heap.size F s k a b) (hz : (Try.prog.info? 29).map (·.size) = some 4) {act : Act}
    (hp : act.tmps.getD 2 undef = .pointer (some ⟨w.heap.size, 0, none⟩)) (hd : act.defers = []) :
    bodyPost Try.prog Try.f52 (FrPost w g x n cap) Exit.ret act (w'.setRow w.heap.size #[.int .u32 s, .int .i64 k, .int .u32 a, .int .u32 b]) := by
  refine bodyPost_ret (v := .agg #[.int .u32 s, .int .i64 k, .int .u32 a, .int .u32 b]) (results_cell_row rfl _ _ w.heap.size 29 _ (0, 0) _ hp (setRow_heap _ _ _ _ _ _ h.res) Try.underlying29 rfl hz) hd ⟨s, k, a, b, rfl, h.us, h.ua, h.ub, ?_, ?_⟩
  · obtain ⟨i0, h0, p1, p2, p3, p4, p5⟩ := h.cur
    exact ⟨i0, h0, p1, p2, p3, p4, by rw [setRow_other _ _ _ _ (by have := h.gl; omega)]; exact p5⟩
  · exact ⟨h.wr.os, h.wr.tape, h.wr.output, by rw [size_setRow]; exact h.wr.size, fun j hj hg => (setRow_other _ _ _ _ (by omega)).trans (h.wr.block j hj hg)⟩

set_option maxHeartbeats 1600000 in
theorem drawF_any (g : Nat) (x : Option Addr) (n cap : Nat) (w : World) (hc : CurB w g x n cap) (ht : CurT w g x n) (hg : g < w.heap.size) :
    Calls Try.prog 52 #[.pointer (some ⟨g, 0, none⟩)] w (FrPost w g x n cap) := by
  have hb := (Below.refl w.heap.size w).alloc (Nat.le_refl _) (.cells #[.int .u32 0, .int .i64 0, .int .u32 0, .int .u32 0] 29)
  have hc0 : CurB (w.alloc (.cells #[.int .u32 0, .int .i64 0, .int .u32 0, .int .u32 0] 29)) g x n cap := by
    obtain ⟨i0, h0, p1, p2, p3, p4, p5⟩ := hc
    exact ⟨i0, h0, p1, p2, p3, p4, by rw [hb.block g hg]; exact p5⟩
  have ht0 := ht.wr (w' := w.alloc (.cells #[.int .u32 0, .int .i64 0, .int .u32 0, .int .u32 0] 29)) (fun k hk => hb.block k (by omega))
  have hr0 : (w.alloc (.cells #[.int .u32 0, .int .i64 0, .int .u32 0, .int .u32 0] 29)).heap[w.heap.size]? = some (.cells #[.int .u32 0, .int .i64 0, .int .u32 0, .int .u32 0] 29 (0, 0)) := heap_alloc_new w _
  have hz0 : (w.alloc (.cells #[.int .u32 0, .int .i64 0, .int .u32 0, .int .u32 0] 29)).heap.size = w.heap.size + 1 := by simp
  have hwr0 : WrG g w (w.alloc (.cells #[.int .u32 0, .int .i64 0, .int .u32 0, .int .u32 0] 29)) := WrG.of_below hb
  have HZF : Hid _ := Try.sizeFrame
  clear hb hc ht
  go_enter Try.func52, Try.ntmps52
  go_wp2_with fail
  generalize w.alloc (.cells #[.int .u32 0, .int .i64 0, .int .u32 0, .int .u32 0] 29) = w0 at *
  refine (below_any g x n cap 3 _ hc0 ht0 (by decide) (by decide)).mono ?_
  rintro e w1 ⟨k0, rfl, hk0, hk1, hc1, hw1⟩
  have hwz : ((w1.alloc (.cells #[.int .u32 0, .int .i64 0, .int .u32 0, .int .u32 0] 29)).setRow w1.heap.size #[.int .u32 0, .int .i64 (1 + k0), .int .u32 0, .int .u32 0]) = w1.alloc (.cells #[.int .u32 0, .int .i64 (1 + k0), .int .u32 0, .int .u32 0] 29) := World.setRow_alloc_new _ _ _ _
  have s1 := hw1.size
  have hb1 := (Below.refl w1.heap.size w1).alloc (Nat.le_refl _) (.cells #[.int .u32 0, .int .i64 (1 + k0), .int .u32 0, .int .u32 0] 29)
  have st : DF w (w1.alloc (.cells #[.int .u32 0, .int .i64 (1 + k0), .int .u32 0, .int .u32 0] 29)) g x n cap w.heap.size w1.heap.size 0 (1 + k0) 0 0 := by
    obtain ⟨i0, h0, p1, p2, p3, p4, p5⟩ := hc1
    refine ⟨⟨i0, h0, p1, p2, p3, p4, by rw [hb1.block g (by omega)]; exact p5⟩, (ht0.wr (fun j hj => hw1.block j (by omega))).wr (fun j hj => hb1.block j (by omega)), ?_, heap_alloc_new w1 _, (hwr0.trans hw1.wrG).trans (WrG.of_below hb1), ⟨by decide, by decide⟩, ⟨by decide, by decide⟩, ⟨by decide, by decide⟩, hg, Nat.le_refl _, by omega⟩
    rw [hb1.block w.heap.size (by omega), hw1.block w.heap.size (by omega)]; exact hr0
  have HST : Hid _ := st
  have HWZ : Hid _ := hwz
  clear st hwz hb1 hc1 hw1 hc0 ht0 hr0 hwr0 hz0 s1
  go_wp2_with (refine wpList_store_row rfl 29 (.tmp 3) (.tmp 11) rfl w1.heap.size #[.int .u32 0, .int .i64 (1 + k0), .int .u32 0, .int .u32 0] rfl rfl 29 _ (heap_alloc_new w1 _) HZF.out rfl (all4f _ _ _ _) ?_)
  (try rw [HWZ.out])
  have st := HST.out
  clear HST HWZ
  generalize w1.alloc (.cells #[.int .u32 0, .int .i64 (1 + k0), .int .u32 0, .int .u32 0] 29) = w2 at *
  generalize w1.heap.size = F at *
  generalize (1 + k0 : Int) = kk at *
  refine (below_any g x n cap 6 _ st.cur st.txt (by decide) (by decide)).mono ?_
  rintro e w3 ⟨k1, rfl, hk10, hk11, hc3, hw3⟩
  have st3 := st.call hc3 hw3
  clear st hc3 hw3
  go_wp2_with fail
  refine (below_any g x n cap 20 _ st3.cur st3.txt (by decide) (by decide)).mono ?_
  rintro e w4 ⟨k2, rfl, hk20, hk21, hc4, hw4⟩
  have st4 := st3.call hc4 hw4
  clear st3 hc4 hw4
  obtain ⟨⟨q0, q1, q2, q3⟩, qf⟩ := st4.cells
  have qf0 := qf 0
  have HST : Hid _ := st4
  clear st4 qf q1 q2 q3
  have h3 : k1 = 0 ∨ k1 = 1 ∨ (k1 ≠ 0 ∧ k1 ≠ 1) := by omega
  rcases h3 with rfl | rfl | ⟨h0, h1⟩
  · go_wp2_with fail
    have st5 : DF w ((w4.setCell ⟨F, 0, none⟩ (.int .u32 (1 + k2))).setCell ⟨F, 0, none⟩ (.int .u32 (4294967295 - k2))) g x n cap w.heap.size F (4294967295 - k2) kk 0 0 := (HST.out.turn 0 (.int .u32 (1 + k2)) (1 + k2) kk 0 0 rfl ⟨by omega, by omega⟩ HST.out.ua HST.out.ub).turn 0 (.int .u32 (4294967295 - k2)) (4294967295 - k2) kk 0 0 rfl ⟨by omega, by omega⟩ HST.out.ua HST.out.ub
    clear HST q0 qf0
    generalize (w4.setCell ⟨F, 0, none⟩ (.int .u32 (1 + k2))).setCell ⟨F, 0, none⟩ (.int .u32 (4294967295 - k2)) = w5 at *
    refine (below_any g x n cap 300 _ st5.cur st5.txt (by decide) (by decide)).mono ?_
    rintro e w6 ⟨k3, rfl, hk30, hk31, hc6, hw6⟩
    have st6 := st5.call hc6 hw6
    clear st5 hc6 hw6
    go_wp2_with fail
    refine (below_any g x n cap 3 _ st6.cur st6.txt (by decide) (by decide)).mono ?_
    rintro e w7 ⟨k4, rfl, hk40, hk41, hc7, hw7⟩
    have st7 := st6.call hc7 hw7
    clear st6 hc7 hw7
    obtain ⟨⟨q0, q1, q2, q3⟩, qf⟩ := st7.cells
    have qf2 := qf 2
    have qf3 := qf 3
    have HST : Hid (DF w ((w7.setCell ⟨F, 2, none⟩ (.int .u32 k3)).setCell ⟨F, 3, none⟩ (.int .u32 k4)) g x n cap w.heap.size F (4294967295 - k2) kk k3 k4) :=
      (st7.turn 2 (.int .u32 k3) (4294967295 - k2) kk k3 0 rfl st7.us ⟨by omega, by omega⟩ st7.ub).turn 3 (.int .u32 k4) (4294967295 - k2) kk k3 k4 rfl st7.us ⟨by omega, by omega⟩ ⟨by omega, by omega⟩
    clear st7 qf q0 q1
    go_wp2_with fail
    have st8 := HST.out
    clear HST q2 q3 qf2 qf3
    generalize (w7.setCell ⟨F, 2, none⟩ (.int .u32 k3)).setCell ⟨F, 3, none⟩ (.int .u32 k4) = w8 at *
    refine (once_any g x n cap 4 _ st8.cur st8.txt (by decide) (by decide)).mono ?_
    rintro e w9 ⟨bb, rfl, hc9, hw9⟩
    have st9 := st8.call hc9 hw9
    clear st8 hc9 hw9
    obtain ⟨⟨q0, q1, q2, q3⟩, qf⟩ := st9.cells
    have qf3 := qf 3
    cases bb
    · have HST : Hid _ := st9
      clear st9 qf
      go_wp2_with (refine wpList_store_row rfl 29 (.tmp 2) (.tmp 48) rfl w.heap.size #[.int .u32 (4294967295 - k2), .int .i64 kk, .int .u32 k3, .int .u32 k4] rfl rfl 29 _ HST.out.res HZF.out rfl (all4f _ _ _ _) ?_)
      (try simp only [Exit.inBlock, Exit.then])
      exact df_end HST.out HZF.out rfl rfl
    · have HST : Hid (DF w (w9.setCell ⟨F, 3, none⟩ (.int .u32 (4294967295 - k3))) g x n cap w.heap.size F (4294967295 - k2) kk k3 (4294967295 - k3)) := st9.turn 3 _ (4294967295 - k2) kk k3 (4294967295 - k3) rfl st9.us st9.ua ⟨by omega, by omega⟩
      clear st9 qf
      go_wp2_with (refine wpList_store_row rfl 29 (.tmp 2) (.tmp 48) rfl w.heap.size #[.int .u32 (4294967295 - k2), .int .i64 kk, .int .u32 k3, .int .u32 (4294967295 - k3)] rfl rfl 29 _ HST.out.res HZF.out rfl (all4f _ _ _ _) ?_)
      (try simp only [Exit.inBlock, Exit.then])
      exact df_end HST.out HZF.out rfl rfl
  · go_wp2_with fail
    have st5 : DF w ((w4.setCell ⟨F, 0, none⟩ (.int .u32 (1 + k2))).setCell ⟨F, 0, none⟩ (.int .u32 (k2 * 16777215))) g x n cap w.heap.size F (k2 * 16777215) kk 0 0 := (HST.out.turn 0 (.int .u32 (1 + k2)) (1 + k2) kk 0 0 rfl ⟨by omega, by omega⟩ HST.out.ua HST.out.ub).turn 0 (.int .u32 (k2 * 16777215)) (k2 * 16777215) kk 0 0 rfl ⟨by omega, by omega⟩ HST.out.ua HST.out.ub
    clear HST q0 qf0
    generalize (w4.setCell ⟨F, 0, none⟩ (.int .u32 (1 + k2))).setCell ⟨F, 0, none⟩ (.int .u32 (k2 * 16777215)) = w5 at *
    refine (below_any g x n cap 300 _ st5.cur st5.txt (by decide) (by decide)).mono ?_
    rintro e w6 ⟨k3, rfl, hk30, hk31, hc6, hw6⟩
    have st6 := st5.call hc6 hw6
    clear st5 hc6 hw6
    go_wp2_with fail
    refine (below_any g x n cap 3 _ st6.cur st6.txt (by decide) (by decide)).mono ?_
    rintro e w7 ⟨k4, rfl, hk40, hk41, hc7, hw7⟩
    have st7 := st6.call hc7 hw7
    clear st6 hc7 hw7
    obtain ⟨⟨q0, q1, q2, q3⟩, qf⟩ := st7.cells
    have qf2 := qf 2
    have qf3 := qf 3
    have HST : Hid (DF w ((w7.setCell ⟨F, 2, none⟩ (.int .u32 k3)).setCell ⟨F, 3, none⟩ (.int .u32 k4)) g x n cap w.heap.size F (k2 * 16777215) kk k3 k4) :=
      (st7.turn 2 (.int .u32 k3) (k2 * 16777215) kk k3 0 rfl st7.us ⟨by omega, by omega⟩ st7.ub).turn 3 (.int .u32 k4) (k2 * 16777215) kk k3 k4 rfl st7.us ⟨by omega, by omega⟩ ⟨by omega, by omega⟩
    clear st7 qf q0 q1
    go_wp2_with fail
    have st8 := HST.out
    clear HST q2 q3 qf2 qf3
    generalize (w7.setCell ⟨F, 2, none⟩ (.int .u32 k3)).setCell ⟨F, 3, none⟩ (.int .u32 k4) = w8 at *
    refine (once_any g x n cap 4 _ st8.cur st8.txt (by decide) (by decide)).mono ?_
    rintro e w9 ⟨bb, rfl, hc9, hw9⟩
    have st9 := st8.call hc9 hw9
    clear st8 hc9 hw9
    obtain ⟨⟨q0, q1, q2, q3⟩, qf⟩ := st9.cells
    have qf3 := qf 3
    cases bb
    · have HST : Hid _ := st9
      clear st9 qf
      go_wp2_with (refine wpList_store_row rfl 29 (.tmp 2) (.tmp 48) rfl w.heap.size #[.int .u32 (k2 * 16777215), .int .i64 kk, .int .u32 k3, .int .u32 k4] rfl rfl 29 _ HST.out.res HZF.out rfl (all4f _ _ _ _) ?_)
      (try simp only [Exit.inBlock, Exit.then])
      exact df_end HST.out HZF.out rfl rfl
    · have HST : Hid (DF w (w9.setCell ⟨F, 3, none⟩ (.int .u32 (4294967295 - k3))) g x n cap w.heap.size F (k2 * 16777215) kk k3 (4294967295 - k3)) := st9.turn 3 _ (k2 * 16777215) kk k3 (4294967295 - k3) rfl st9.us st9.ua ⟨by omega, by omega⟩
      clear st9 qf
      go_wp2_with (refine wpList_store_row rfl 29 (.tmp 2) (.tmp 48) rfl w.heap.size #[.int .u32 (k2 * 16777215), .int .i64 kk, .int .u32 k3, .int .u32 (4294967295 - k3)] rfl rfl 29 _ HST.out.res HZF.out rfl (all4f _ _ _ _) ?_)
      (try simp only [Exit.inBlock, Exit.then])
      exact df_end HST.out HZF.out rfl rfl
  · have e0 : (k1 == 0) = false := by simpa using h0
    have e1 : (k1 == 1) = false := by simpa using h1
    go_wp2_with fail
    have st5 : DF w (w4.setCell ⟨F, 0, none⟩ (.int .u32 (1 + k2))) g x n cap w.heap.size F (1 + k2) kk 0 0 := HST.out.turn 0 (.int .u32 (1 + k2)) (1 + k2) kk 0 0 rfl ⟨by omega, by omega⟩ HST.out.ua HST.out.ub
    clear HST q0 qf0
    generalize w4.setCell ⟨F, 0, none⟩ (.int .u32 (1 + k2)) = w5 at *
    refine (below_any g x n cap 300 _ st5.cur st5.txt (by decide) (by decide)).mono ?_
    rintro e w6 ⟨k3, rfl, hk30, hk31, hc6, hw6⟩
    have st6 := st5.call hc6 hw6
    clear st5 hc6 hw6
    go_wp2_with fail
    refine (below_any g x n cap 3 _ st6.cur st6.txt (by decide) (by decide)).mono ?_
    rintro e w7 ⟨k4, rfl, hk40, hk41, hc7, hw7⟩
    have st7 := st6.call hc7 hw7
    clear st6 hc7 hw7
    obtain ⟨⟨q0, q1, q2, q3⟩, qf⟩ := st7.cells
    have qf2 := qf 2
    have qf3 := qf 3
    have HST : Hid (DF w ((w7.setCell ⟨F, 2, none⟩ (.int .u32 k3)).setCell ⟨F, 3, none⟩ (.int .u32 k4)) g x n cap w.heap.size F (1 + k2) kk k3 k4) :=
      (st7.turn 2 (.int .u32 k3) (1 + k2) kk k3 0 rfl st7.us ⟨by omega, by omega⟩ st7.ub).turn 3 (.int .u32 k4) (1 + k2) kk k3 k4 rfl st7.us ⟨by omega, by omega⟩ ⟨by omega, by omega⟩
    clear st7 qf q0 q1
    go_wp2_with fail
    have st8 := HST.out
    clear HST q2 q3 qf2 qf3
    generalize (w7.setCell ⟨F, 2, none⟩ (.int .u32 k3)).setCell ⟨F, 3, none⟩ (.int .u32 k4) = w8 at *
    refine (once_any g x n cap 4 _ st8.cur st8.txt (by decide) (by decide)).mono ?_
    rintro e w9 ⟨bb, rfl, hc9, hw9⟩
    have st9 := st8.call hc9 hw9
    clear st8 hc9 hw9
    obtain ⟨⟨q0, q1, q2, q3⟩, qf⟩ := st9.cells
    have qf3 := qf 3
    cases bb
    · have HST : Hid _ := st9
      clear st9 qf
      go_wp2_with (refine wpList_store_row rfl 29 (.tmp 2) (.tmp 48) rfl w.heap.size #[.int .u32 (1 + k2), .int .i64 kk, .int .u32 k3, .int .u32 k4] rfl rfl 29 _ HST.out.res HZF.out rfl (all4f _ _ _ _) ?_)
      (try simp only [Exit.inBlock, Exit.then])
      exact df_end HST.out HZF.out rfl rfl
    · have HST : Hid (DF w (w9.setCell ⟨F, 3, none⟩ (.int .u32 (4294967295 - k3))) g x n cap w.heap.size F (1 + k2) kk k3 (4294967295 - k3)) := st9.turn 3 _ (1 + k2) kk k3 (4294967295 - k3) rfl st9.us st9.ua ⟨by omega, by omega⟩
      clear st9 qf
      go_wp2_with (refine wpList_store_row rfl 29 (.tmp 2) (.tmp 48) rfl w.heap.size #[.int .u32 (1 + k2), .int .i64 kk, .int .u32 k3, .int .u32 (4294967295 - k3)] rfl rfl 29 _ HST.out.res HZF.out rfl (all4f _ _ _ _) ?_)
      (try simp only [Exit.inBlock, Exit.then])
      exact df_end HST.out HZF.out rfl rfl

def DrPost (w : World) (e : Ending) (w' : World) : Prop :=
  ∃ s k a b : Int, e = .returned (.agg #[.int .u32 s, .int .i64 k, .int .u32 a, .int .u32 b]) ∧ U32 s ∧ U32 a ∧ U32 b ∧ Below w.heap.size w w'

structure DE (w w' : World) (g : Nat) (x : Option Addr) (n cap R F : Nat) (s k a b : Int) : Prop where
  cur : CurB w' g x n cap
  txt : CurT w' g x n
  res : w'.heap[R]? = some (.cells #[.int .u32 0, .int .i64 0, .int .u32 0, .int .u32 0] 29 (0, 0))
  fr : w'.heap[F]? = some (.cells #[.int .u32 s, .int .i64 k, .int .u32 a, .int .u32 b] 29 (0, 0))
  wr : Below w.heap.size w w'
  us : U32 s
  ua : U32 a
  ub : U32 b
  rl : w.heap.size ≤ R
  gl : R < g
  fl : g < F
theorem DE.call {w w' w'' : World} {g : Nat} {x : Option Addr} {n cap R F : Nat} {s k a b : Int} (h : DE w w' g x n cap R F s k a b) (hc : CurB w'' g x n cap) (hw : Wr g w' w'') : DE w w'' g x n cap R F s k a b := by
  have h1 := h.rl
  have h2 := h.gl
  have h3 := h.fl
  exact ⟨hc, h.txt.wr (fun j hj => hw.block j (by omega)), by rw [hw.block R (by omega)]; exact h.res, by rw [hw.block F (by omega)]; exact h.fr, h.wr.trans (hw.below (by omega)), h.us, h.ua, h.ub, h.rl, h.gl, h.fl⟩
theorem de_end {w w' : World} {g : Nat} {x : Option Addr} {n cap R F : Nat} {s k a b : Int} (h : DE w w' g x n cap R F s k a b) (hz : (Try.prog.info? 29).map (·.size) = some 4) {act : Act}
    (hp : act.tmps.getD 2 undef = .pointer (some ⟨R, 0, none⟩)) (hd : act.defers = []) :
    bodyPost Try.prog Try.f23 (DrPost w) Exit.ret act (w'.setRow R #[.int .u32 s, .int .i64 k, .int .u32 a, .int .u32 b]) := by
  refine bodyPost_ret (v := .agg #[.int .u32 s, .int .i64 k, .int .u32 a, .int .u32 b]) (results_cell_row rfl _ _ R 29 _ (0, 0) _ hp (setRow_heap _ _ _ _ _ _ h.res) Try.underlying29 rfl hz) hd ⟨s, k, a, b, rfl, h.us, h.ua, h.ub, ?_⟩
  exact h.wr.trans ((Wr.setRow _ _ _).below h.rl)

set_option maxHeartbeats 1600000 in
theorem drawEnc_any (x : Option Addr) (n cap : Nat) (zs : List Int) (w : World) (hl : zs.length = n) (hn : n ≤ 1048576) (hz : Byte zs) (ha : At .u8 w x zs) :
    Calls Try.prog 23 #[.slice x n cap] w (DrPost w) := by
  have HZF : Hid _ := Try.sizeFrame
  have hb := (Below.refl w.heap.size w).alloc (Nat.le_refl _) (.cells #[.int .u32 0, .int .i64 0, .int .u32 0, .int .u32 0] 29)
  have ha0 := ha.below hb
  have hr0 : (w.alloc (.cells #[.int .u32 0, .int .i64 0, .int .u32 0, .int .u32 0] 29)).heap[w.heap.size]? = some (.cells #[.int .u32 0, .int .i64 0, .int .u32 0, .int .u32 0] 29 (0, 0)) := heap_alloc_new w _
  have hz0 : (w.alloc (.cells #[.int .u32 0, .int .i64 0, .int .u32 0, .int .u32 0] 29)).heap.size = w.heap.size + 1 := by simp
  have HA : Hid _ := ha
  clear ha
  go_enter Try.func23, Try.ntmps23
  go_wp2_with fail
  generalize w.alloc (.cells #[.int .u32 0, .int .i64 0, .int .u32 0, .int .u32 0] 29) = w0 at *
  refine (new_any x n cap zs _ hl hn hz ha0).mono ?_
  rintro e w1 ⟨rfl, hc1, hb1, hs1⟩
  have hg : w0.heap.size = w.heap.size + 1 := hz0
  have ht1 : CurT w1 w0.heap.size x n := by
    refine ⟨hn, zs, hl, hz, ?_⟩
    rcases HA.out with h | ⟨b, off, e, hbl, hcl⟩
    · exact .inl h
    · exact .inr ⟨b, off, e, by omega, fun i hi => by rw [hb1.cell (p := ⟨b, off + i, none⟩) (by show b < w0.heap.size; omega), hb.cell (p := ⟨b, off + i, none⟩) hbl]; exact hcl i hi⟩
  have hr1 : w1.heap[w.heap.size]? = some (.cells #[.int .u32 0, .int .i64 0, .int .u32 0, .int .u32 0] 29 (0, 0)) := by rw [hb1.block _ (by omega)]; exact hr0
  have hB1 : Below w.heap.size w w1 := hb.trans (hb1.mono hb.size)
  have hgl : w.heap.size < w0.heap.size := by omega
  have hgl2 : w0.heap.size < w1.heap.size := by omega
  clear hg hs1 hb1 ha0 hr0 hb hz0
  generalize w0.heap.size = g at *
  go_wp2_with fail
  refine (drawF_any g x n cap _ hc1 ht1 hgl2).mono ?_
  rintro e w2 ⟨s, k, a, b, rfl, us, ua, ub, hc2, hw2⟩
  have hb2 := (Below.refl w2.heap.size w2).alloc (Nat.le_refl _) (.cells #[.int .u32 s, .int .i64 k, .int .u32 a, .int .u32 b] 29)
  have s2 := hw2.size
  have st : DE w (w2.alloc (.cells #[.int .u32 s, .int .i64 k, .int .u32 a, .int .u32 b] 29)) g x n cap w.heap.size w2.heap.size s k a b := by
    obtain ⟨i0, h0, p1, p2, p3, p4, p5⟩ := hc2
    refine ⟨⟨i0, h0, p1, p2, p3, p4, by rw [hb2.block g (by omega)]; exact p5⟩, (ht1.wr (fun j hj => hw2.block j (by omega) (by omega))).wr (fun j hj => hb2.block j (by omega)), ?_, heap_alloc_new w2 _, hB1.trans (((hw2.below w.heap.size (by omega) hB1.size)).trans (hb2.mono (by omega))), us, ua, ub, Nat.le_refl _, hgl, by omega⟩
    rw [hb2.block _ (by omega), hw2.block _ (by omega) (by omega)]; exact hr1
  have hwz : ((w2.alloc (.cells #[.int .u32 0, .int .i64 0, .int .u32 0, .int .u32 0] 29)).setRow w2.heap.size #[.int .u32 s, .int .i64 k, .int .u32 a, .int .u32 b]) = w2.alloc (.cells #[.int .u32 s, .int .i64 k, .int .u32 a, .int .u32 b] 29) := World.setRow_alloc_new _ _ _ _
  have HST : Hid _ := st
  have HWZ : Hid _ := hwz
  clear st hwz hb2 hc2 hw2 hc1 ht1 hr1 hB1 s2
  go_wp2_with (refine wpList_store_row rfl 29 (.tmp 4) (.tmp 8) rfl w2.heap.size #[.int .u32 s, .int .i64 k, .int .u32 a, .int .u32 b] rfl rfl 29 _ (heap_alloc_new w2 _) HZF.out rfl (all4f _ _ _ _) ?_)
  (try rw [HWZ.out])
  have st := HST.out
  clear HST HWZ
  generalize w2.alloc (.cells #[.int .u32 s, .int .i64 k, .int .u32 a, .int .u32 b] 29) = w3 at *
  generalize w2.heap.size = F at *
  refine (once_any g x n cap 8 _ st.cur st.txt (by decide) (by decide)).mono ?_
  rintro e w4 ⟨bb, rfl, hc4, hw4⟩
  have st4 := st.call hc4 hw4
  clear st hc4 hw4
  cases bb
  · have q0 : w4.cell? ⟨F, 0, none⟩ = some (.int .u32 s) := cell_of_row _ _ _ _ _ _ st4.fr
    have q1 : w4.cell? ⟨F, 1, none⟩ = some (.int .i64 k) := cell_of_row _ _ _ _ _ _ st4.fr
    have q2 : w4.cell? ⟨F, 2, none⟩ = some (.int .u32 a) := cell_of_row _ _ _ _ _ _ st4.fr
    have q3 : w4.cell? ⟨F, 3, none⟩ = some (.int .u32 b) := cell_of_row _ _ _ _ _ _ st4.fr
    have HST : Hid _ := st4
    clear st4
    go_wp2_with (refine wpList_store_row rfl 29 (.tmp 2) (.tmp 15) rfl w.heap.size #[.int .u32 s, .int .i64 k, .int .u32 a, .int .u32 b] rfl rfl 29 _ HST.out.res HZF.out rfl (all4f _ _ _ _) ?_)
    (try simp only [Exit.inBlock, Exit.then])
    exact de_end HST.out HZF.out rfl rfl
  · go_wp2_with fail
    refine (below_any g x n cap 8 _ st4.cur st4.txt (by decide) (by decide)).mono ?_
    rintro e w5 ⟨k5, rfl, hk50, hk51, hc5, hw5⟩
    have st5 := st4.call hc5 hw5
    clear st4 hc5 hw5
    have q0 : w5.cell? ⟨F, 0, none⟩ = some (.int .u32 s) := cell_of_row _ _ _ _ _ _ st5.fr
    have q1 : w5.cell? ⟨F, 1, none⟩ = some (.int .i64 k) := cell_of_row _ _ _ _ _ _ st5.fr
    have q2 : w5.cell? ⟨F, 2, none⟩ = some (.int .u32 a) := cell_of_row _ _ _ _ _ _ st5.fr
    have q3 : w5.cell? ⟨F, 3, none⟩ = some (.int .u32 b) := cell_of_row _ _ _ _ _ _ st5.fr
    have qf1 := frozen_of_row w5 F 1 _ _ st5.fr
    have HST : Hid (DE w (w5.setCell ⟨F, 1, none⟩ (.int .i64 (k5 - 2))) g x n cap w.heap.size F s (k5 - 2) a b) := by
      obtain ⟨i0, h0, p1, p2, p3, p4, p5⟩ := st5.cur
      have h1 := st5.rl
      have h2 := st5.gl
      have h3 := st5.fl
      refine ⟨⟨i0, h0, p1, p2, p3, p4, by rw [heap_setCell_other _ _ _ _ (by show g ≠ F; omega)]; exact p5⟩, st5.txt.wr (fun j hj => heap_setCell_other _ _ _ _ (by show j ≠ F; omega)), ?_, ?_, st5.wr.setCell (by show w.heap.size ≤ F; omega) _, us, ua, ub, h1, h2, h3⟩
      · rw [heap_setCell_other _ _ _ _ (by show w.heap.size ≠ F; omega)]; exact st5.res
      · rw [heap_setCell_same w5 F 1 _ _ _ st5.fr]; rfl
    clear st5
    go_wp2_with (refine wpList_store_row rfl 29 (.tmp 2) (.tmp 15) rfl w.heap.size #[.int .u32 s, .int .i64 (k5 - 2), .int .u32 a, .int .u32 b] rfl rfl 29 _ HST.out.res HZF.out rfl (all4f _ _ _ _) ?_)
    (try simp only [Exit.inBlock, Exit.then])
    exact de_end HST.out HZF.out rfl rfl
end Go.Proofs.Ythghkfncpdnpoab
