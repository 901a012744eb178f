/-
  Own work: the law on DevNew.
-/
import Derived.Test.YthghkfncpdnpoabDNew
namespace Go.Proofs.Ythghkfncpdnpoab.ldnew
open Go.ChangeShapes Go.WideShapes Go.ChangeAt Go.RowKit
set_option linter.unusedVariables false

theorem own : ownKnob Try.prog.godebug = none := by kernel_rfl
theorem laidOut : laidOutB Try.prog = true := by kernel_rfl

set_option maxHeartbeats 400000 in
theorem eqP_nil (w : World) : Calls Try.prog 48 #[.slice none 0 0, .slice none 0 0] w fun e w' => e = .returned (.bool true) ∧ w' = w := by
  go_enter Try.func48, Try.ntmps48
  go_wp2
  refine wp_loop_rounds 1 ?_
  rw [rounds_succ]
  go_wp2
  go_ret
  exact ⟨rfl, rfl⟩
set_option maxHeartbeats 400000 in
theorem markP_nil (k : Int) (w : World) : Calls Try.prog 49 #[.slice none 0 0, .int .i64 k] w fun e w' => e = .returned (.int .i64 k) ∧ w' = w := by
  go_enter Try.func49, Try.ntmps49
  go_wp2
  refine wp_loop_rounds 1 ?_
  rw [rounds_succ]
  go_wp2
  go_ret
  exact ⟨rfl, rfl⟩
set_option maxHeartbeats 400000 in
theorem heldP_nil (k : Int) (w : World) : Calls Try.prog 50 #[.slice none 0 0, .int .i64 k] w fun e w' => e = .returned (.int .i64 k) ∧ w' = w := by
  go_enter Try.func50, Try.ntmps50
  go_wp2
  refine wp_loop_rounds 1 ?_
  rw [rounds_succ]
  go_wp2
  go_ret
  exact ⟨rfl, rfl⟩

theorem below_dN {B : Nat} {a w : World} (h : Below B a w) (n : Nat) : Below B a (w.drewN n) := ⟨h.os, h.tape, h.output, h.size, h.block⟩
theorem box_cell (w : World) (cs : Array Value) (t : TypeId) (i : Nat) (v : Value) (h : cs[i]? = some v) : (w.alloc (.cells cs t)).cell? ⟨w.heap.size, i, none⟩ = some v := by
  rw [cell_of_row _ _ _ _ _ (0, 0) (heap_alloc_new w _)]; exact h

set_option maxHeartbeats 400000 in
theorem eqD0 (a a' : Option Addr) (L c c' : Nat) (zs : List Int) (f : Int) (w : World) (hl : zs.length = L) (hL : L ≤ 1048576) (A : At .u8 w a zs) (A' : At .u8 w a' zs) :
    Calls Try.prog 20 #[.agg #[.slice a L c, .slice none 0 0, .int .i64 f, .bool false], .agg #[.slice a' L c', .slice none 0 0, .int .i64 f, .bool false]] w fun e w' => e = .returned (.bool true) ∧ Below w.heap.size w w' := by
  have e2 : (f != f) = false := by simp
  have hb := newB w (.cells #[.slice a L c, .slice none 0 0, .int .i64 f, .bool false] 38)
  have hb2 := newB (w.alloc (.cells #[.slice a L c, .slice none 0 0, .int .i64 f, .bool false] 38)) (.cells #[.slice a' L c', .slice none 0 0, .int .i64 f, .bool false] 38)
  have hB : Below w.heap.size w ((w.alloc (.cells #[.slice a L c, .slice none 0 0, .int .i64 f, .bool false] 38)).alloc (.cells #[.slice a' L c', .slice none 0 0, .int .i64 f, .bool false] 38)) := hb.trans (hb2.mono (by simp))
  have A2 := A.below hB
  have A2' := A'.below hB
  clear hb hb2
  go_enter Try.func20, Try.ntmps20
  go_wp2_with fail
  refine (eqB_any _ _ L _ _ zs _ hl hL A2 A2').mono ?_
  rintro e w1 ⟨rfl, q, rfl⟩
  clear A2 A2'
  have HB : Hid _ := hB
  clear hB
  go_wp2_with (go_at_call 48; refine (eqP_nil _).mono ?_; rintro e w2 ⟨rfl, rfl⟩)
  go_ret
  exact ⟨rfl, below_dN HB.out _⟩

set_option maxHeartbeats 400000 in
theorem markD0 (a : Option Addr) (L c : Nat) (f k : Int) (w : World) (O : Open w a L) (hk : 0 ≤ k) (hk' : k + L ≤ 1099511627776) (hB : ∀ ad, a = some ad → ad.block < w.heap.size) :
    Calls Try.prog 21 #[.agg #[.slice a L c, .slice none 0 0, .int .i64 f, .bool false], .int .i64 k] w fun e w' => e = .returned (.int .i64 (k + L)) ∧ At .u8 w' a (marks k L) ∧ ∃ w1, w1 = w.alloc (.cells #[.slice a L c, .slice none 0 0, .int .i64 f, .bool false] 38) ∧ WrO a w1 w' := by
  have hb := newB w (.cells #[.slice a L c, .slice none 0 0, .int .i64 f, .bool false] 38)
  have c1 := box_cell w #[.slice a L c, .slice none 0 0, .int .i64 f, .bool false] 38 1 _ rfl
  have O1 : Open (w.alloc (.cells #[.slice a L c, .slice none 0 0, .int .i64 f, .bool false] 38)) a L := by
    rcases O with h | ⟨g, o, h1, h2, h3⟩
    · exact .inl h
    · exact .inr ⟨g, o, h1, by simp; omega, fun i hi => by rw [hb.cell (p := ⟨g, o + i, none⟩) h2, hb.frozen (p := ⟨g, o + i, none⟩) h2]; exact h3 i hi⟩
  obtain ⟨w1, hw1⟩ : ∃ w1, w1 = w.alloc (.cells #[.slice a L c, .slice none 0 0, .int .i64 f, .bool false] 38) := ⟨_, rfl⟩
  have HW : Hid _ := hw1
  rw [← hw1] at O1 c1
  go_enter Try.func21, Try.ntmps21
  go_wp2_with fail
  rw [← HW.out]
  clear hw1 hb
  refine (markB_any a L c k _ O1 hk hk').mono ?_
  rintro e w2 ⟨rfl, A, hwr⟩
  have hc1 : w2.cell? ⟨w.heap.size, 1, none⟩ = some (.slice none 0 0) := by
    rw [World.cell?_of_block (a := ⟨w.heap.size, 1, none⟩) (w := w1) (hwr.block w.heap.size (fun ad e => by have := hB ad e; omega))]; exact c1
  have HA : Hid _ := A
  have HWR : Hid _ := hwr
  clear A hwr O1 O c1
  go_wp2_with (go_at_call 49; refine (markP_nil _ _).mono ?_; rintro e w2 ⟨rfl, rfl⟩)
  go_ret
  exact ⟨rfl, HA.out, w1, HW.out, HWR.out⟩

set_option maxHeartbeats 400000 in
theorem heldD0 (a : Option Addr) (L c : Nat) (f k : Int) (w : World) (A : At .u8 w a (marks k L)) (hk : 0 ≤ k) (hk' : k + L ≤ 1099511627776) :
    Calls Try.prog 22 #[.agg #[.slice a L c, .slice none 0 0, .int .i64 f, .bool false], .int .i64 k] w fun e w' => e = .returned (.int .i64 (k + L)) ∧ w' = w.alloc (.cells #[.slice a L c, .slice none 0 0, .int .i64 f, .bool false] 38) := by
  have hb := newB w (.cells #[.slice a L c, .slice none 0 0, .int .i64 f, .bool false] 38)
  have A1 := A.below hb
  have t1 : ¬ (k + (L : Int)) < 0 := by omega
  clear hb
  go_enter Try.func22, Try.ntmps22
  go_wp2_with fail
  refine (heldB_any a L c k _ A1 hk hk').mono ?_
  rintro e w2 ⟨rfl, rfl⟩
  clear A1 A
  go_wp2_with (go_at_call 50; refine (heldP_nil _ _).mono ?_; rintro e w2 ⟨rfl, rfl⟩)
  go_ret
  exact ⟨rfl, rfl⟩

set_option maxRecDepth 100000 in
set_option maxHeartbeats 1600000 in
theorem walk (n : Int) (w : World) (h0 : -9223372036854775808 ≤ n) (h1 : n ≤ 9223372036854775807) :
    Calls Try.prog 5 #[.int .i64 n] w fun e w' => e = .returned (.bool true) ∧ Below w.heap.size w w' := by
  have HSD : Hid _ := Try.sizeDev
  have hLn := dnL_le n
  go_enter Try.func5, Try.ntmps5
  go_wp2_with fail
  refine (sdn_any n _ h0 h1).mono ?_
  rintro e w1 ⟨asp, cs, rfl, A1, hb1⟩
  have HI := idn_any n
  generalize dnL n = L at *
  generalize dnF n = f at *
  have HII : Hid _ := HI
  clear HI
  have hlz : (List.replicate L (0 : Int)).length = L := by simp
  have HZ : Hid _ := hlz
  clear hlz
  go_wp2_with (refine wpList_store_row rfl 38 (.tmp 3) (.tmp 9) rfl w1.heap.size #[.slice asp L cs, .slice none 0 0, .int .i64 f, .bool false] rfl rfl 38 _ (heap_alloc_new w1 _) HSD.out rfl (all4d _ _ _ _ _ _ _ _) ?_)
  rw [World.setRow_alloc_new]
  have hb2 := newB w1 (.cells #[.slice asp L cs, .slice none 0 0, .int .i64 f, .bool false] 38)
  have hr2 : (w1.alloc (.cells #[.slice asp L cs, .slice none 0 0, .int .i64 f, .bool false] 38)).heap[w1.heap.size]? = some (.cells #[.slice asp L cs, .slice none 0 0, .int .i64 f, .bool false] 38 (0, 0)) := heap_alloc_new w1 _
  have hz2 : w1.heap.size < (w1.alloc (.cells #[.slice asp L cs, .slice none 0 0, .int .i64 f, .bool false] 38)).heap.size := by simp
  generalize w1.alloc (.cells #[.slice asp L cs, .slice none 0 0, .int .i64 f, .bool false] 38) = w2 at *
  have A2 := A1.below hb2
  have hB2 : Below w.heap.size w w2 := hb1.trans (hb2.mono hb1.size)
  have HA1 : Hid _ := A1
  clear A1 hb2
  refine (HII.out w2 h0 h1).mono ?_
  rintro e w3 ⟨ai, ci, rfl, M3, hb3⟩
  obtain ⟨Ai3, O3, L3⟩ := M3
  have A3 := A2.below hb3
  have hr3 : w3.heap[w1.heap.size]? = some (.cells #[.slice asp L cs, .slice none 0 0, .int .i64 f, .bool false] 38 (0, 0)) := by rw [hb3.block _ hz2]; exact hr2
  have hB3 : Below w.heap.size w w3 := hB2.trans (hb3.mono hB2.size)
  have s23 := hb3.size
  have hwZ : ((w3.alloc (.cells #[.slice none 0 0, .slice none 0 0, .int .i64 0, .bool false] 38)).setRow w3.heap.size #[.slice ai L ci, .slice none 0 0, .int .i64 f, .bool false]) = w3.alloc (.cells #[.slice ai L ci, .slice none 0 0, .int .i64 f, .bool false] 38) := World.setRow_alloc_new _ _ _ _
  have H5a : Hid (((w3.alloc (.cells #[.slice none 0 0, .slice none 0 0, .int .i64 0, .bool false] 38)).setRow w3.heap.size #[.slice ai L ci, .slice none 0 0, .int .i64 f, .bool false]).heap[w3.heap.size]? = some (.cells #[.slice ai L ci, .slice none 0 0, .int .i64 f, .bool false] 38 (0, 0))) := by unfold Hid; rw [hwZ]; exact heap_alloc_new w3 _
  have H5b : Hid (((w3.alloc (.cells #[.slice none 0 0, .slice none 0 0, .int .i64 0, .bool false] 38)).setRow w3.heap.size #[.slice ai L ci, .slice none 0 0, .int .i64 f, .bool false]).heap[w1.heap.size]? = some (.cells #[.slice asp L cs, .slice none 0 0, .int .i64 f, .bool false] 38 (0, 0))) := by unfold Hid; rw [hwZ, Below.heap_alloc w3 _ _ (by omega)]; exact hr3
  have HWZ : Hid _ := hwZ
  have HL3 : Hid _ := L3
  clear hwZ A2 hb3 hr2 hr3 L3
  go_wp2_with (first
    | (refine wpList_store_row rfl 38 (.tmp 4) (.tmp 11) rfl w3.heap.size #[.slice ai L ci, .slice none 0 0, .int .i64 f, .bool false] rfl rfl 38 _ (heap_alloc_new w3 _) HSD.out rfl (all4d _ _ _ _ _ _ _ _) ?_)
    | (refine wpList_load_row rfl 38 (.tmp 4) rfl w3.heap.size rfl 38 _ (0, 0) _ H5a.out Try.underlying38 rfl HSD.out ?_)
    | (refine wpList_load_row rfl 38 (.tmp 3) rfl w1.heap.size rfl 38 _ (0, 0) _ H5b.out Try.underlying38 rfl HSD.out ?_))
  have R4a := H5a.out
  have R4b := H5b.out
  rw [HWZ.out] at R4a R4b ⊢
  have hb4 := newB w3 (.cells #[.slice ai L ci, .slice none 0 0, .int .i64 f, .bool false] 38)
  have hz4 : w3.heap.size < (w3.alloc (.cells #[.slice ai L ci, .slice none 0 0, .int .i64 f, .bool false] 38)).heap.size := by simp
  generalize w3.alloc (.cells #[.slice ai L ci, .slice none 0 0, .int .i64 f, .bool false] 38) = w4 at *
  have A4 := A3.below hb4
  have Ai4 := Ai3.below hb4
  have O4 : Open w4 ai (List.replicate L (0 : Int)).length := by
    rcases O3 with h | ⟨g, o, h1, h2, h3⟩
    · exact .inl h
    · exact .inr ⟨g, o, h1, by omega, fun i hi => by rw [hb4.cell (p := ⟨g, o + i, none⟩) h2, hb4.frozen (p := ⟨g, o + i, none⟩) h2]; exact h3 i hi⟩
  rw [HZ.out] at O4
  have hB4 : Below w.heap.size w w4 := hB3.trans (hb4.mono hB3.size)
  clear H5a H5b HWZ A3 Ai3 O3 hb4 hB3 hB2
  refine (eqD0 _ _ L _ _ _ f _ HZ.out (by omega) Ai4 A4).mono ?_
  rintro e w5 ⟨rfl, hb5⟩
  have A5 := A4.below hb5
  have O5 : Open w5 ai L := by
    rcases O4 with h | ⟨g, o, h1, h2, h3⟩
    · exact .inl h
    · exact .inr ⟨g, o, h1, by have := hb5.size; omega, fun i hi => by rw [hb5.cell (p := ⟨g, o + i, none⟩) h2, hb5.frozen (p := ⟨g, o + i, none⟩) h2]; exact h3 i hi⟩
  have R5a : w5.heap[w3.heap.size]? = some (.cells #[.slice ai L ci, .slice none 0 0, .int .i64 f, .bool false] 38 (0, 0)) := by rw [hb5.block _ hz4]; exact R4a
  have R5b : w5.heap[w1.heap.size]? = some (.cells #[.slice asp L cs, .slice none 0 0, .int .i64 f, .bool false] 38 (0, 0)) := by rw [hb5.block _ (by omega)]; exact R4b
  have hB5 : Below w.heap.size w w5 := hB4.trans (hb5.mono hB4.size)
  have s45 := hb5.size
  have HR5a : Hid _ := R5a
  have HR5b : Hid _ := R5b
  clear A4 Ai4 O4 R4a R4b hB4 hb5 R5a R5b
  go_wp2_with (refine wpList_load_row rfl 38 (.tmp 4) rfl w3.heap.size rfl 38 _ (0, 0) _ HR5a.out Try.underlying38 rfl HSD.out ?_)
  refine (markD0 ai L ci f 1 _ O5 (by decide) (by omega) (fun ad e => by have := HL3.out ad e; omega)).mono ?_
  rintro e w7 ⟨rfl, A7, w6, hw6, hwr⟩
  have hb6 : Below w5.heap.size w5 w6 := by rw [hw6]; exact newB _ _
  have s6 : w6.heap.size = w5.heap.size + 1 := by rw [hw6]; simp
  have hne1 : ∀ ad, ai = some ad → w3.heap.size ≠ ad.block := fun ad e => by have := HL3.out ad e; omega
  have hne2 : ∀ ad, ai = some ad → w1.heap.size ≠ ad.block := fun ad e => by have := HL3.out ad e; omega
  have R7a : w7.heap[w3.heap.size]? = some (.cells #[.slice ai L ci, .slice none 0 0, .int .i64 f, .bool false] 38 (0, 0)) := by rw [hwr.block _ hne1, hb6.block _ (by omega)]; exact HR5a.out
  have R7b : w7.heap[w1.heap.size]? = some (.cells #[.slice asp L cs, .slice none 0 0, .int .i64 f, .bool false] 38 (0, 0)) := by rw [hwr.block _ hne2, hb6.block _ (by omega)]; exact HR5b.out
  have As7 : At .u8 w7 asp (List.replicate L 0) := by
    rcases A5 with h | ⟨b, o, h1, h2, h3⟩
    · exact .inl h
    · rcases HA1.out with h | ⟨b', o', e1, e2, _⟩
      · exact .inl h
      · rw [h1] at e1; cases e1
        have hne : ∀ ad, ai = some ad → b ≠ ad.block := fun ad e => by have := HL3.out ad e; omega
        exact .inr ⟨b, o, h1, by rw [hwr.size]; omega, fun i hi => by rw [World.cell?_of_block (a := ⟨b, o + i, none⟩) (w := w6) (hwr.block b hne), hb6.cell (p := ⟨b, o + i, none⟩) h2]; exact h3 i hi⟩
  have hB7 : Below w.heap.size w w7 := hB5.trans ((hb6.mono hB5.size).trans (hwr.below _ (fun ad e => by have := HL3.out ad e; have := hb1.size; omega)))
  have s7 : w5.heap.size ≤ w7.heap.size := by rw [hwr.size]; omega
  have HR7a : Hid _ := R7a
  have HR7b : Hid _ := R7b
  clear hw6 hb6 s6 hne1 hne2 R7a R7b hwr HR5a HR5b hB5 A5 O5
  go_wp2_with (refine wpList_load_row rfl 38 (.tmp 4) rfl w3.heap.size rfl 38 _ (0, 0) _ HR7a.out Try.underlying38 rfl HSD.out ?_)
  refine (heldD0 ai L ci f 1 _ A7 (by decide) (by omega)).mono ?_
  rintro e w8 ⟨rfl, hw8⟩
  have hb8 : Below w7.heap.size w7 w8 := by rw [hw8]; exact newB _ _
  have As8 := As7.below hb8
  have R8b : w8.heap[w1.heap.size]? = some (.cells #[.slice asp L cs, .slice none 0 0, .int .i64 f, .bool false] 38 (0, 0)) := by rw [hb8.block _ (by omega)]; exact HR7b.out
  have hB8 : Below w.heap.size w w8 := hB7.trans (hb8.mono hB7.size)
  have s8 := hb8.size
  have t1 : ¬ (1 + (L : Int)) < 0 := by omega
  have t2 : ((1 + (L : Int)) != 1 + (L : Int)) = false := by simp
  have HR8b : Hid _ := R8b
  clear hw8 hb8 As7 A7 R8b HR7a HR7b hB7
  go_wp2_with fail
  refine (HII.out w8 h0 h1).mono ?_
  rintro e w9 ⟨ah, ch, rfl, M9, hb9⟩
  obtain ⟨Ah9, _, _⟩ := M9
  have As9 := As8.below hb9
  have hr9 : w9.heap[w1.heap.size]? = some (.cells #[.slice asp L cs, .slice none 0 0, .int .i64 f, .bool false] 38 (0, 0)) := by rw [hb9.block _ (by omega)]; exact HR8b.out
  have hB9 : Below w.heap.size w w9 := hB8.trans (hb9.mono hB8.size)
  have s9 := hb9.size
  have hwZ : ((w9.alloc (.cells #[.slice none 0 0, .slice none 0 0, .int .i64 0, .bool false] 38)).setRow w9.heap.size #[.slice ah L ch, .slice none 0 0, .int .i64 f, .bool false]) = w9.alloc (.cells #[.slice ah L ch, .slice none 0 0, .int .i64 f, .bool false] 38) := World.setRow_alloc_new _ _ _ _
  have H5a : Hid (((w9.alloc (.cells #[.slice none 0 0, .slice none 0 0, .int .i64 0, .bool false] 38)).setRow w9.heap.size #[.slice ah L ch, .slice none 0 0, .int .i64 f, .bool false]).heap[w9.heap.size]? = some (.cells #[.slice ah L ch, .slice none 0 0, .int .i64 f, .bool false] 38 (0, 0))) := by unfold Hid; rw [hwZ]; exact heap_alloc_new w9 _
  have H5b : Hid (((w9.alloc (.cells #[.slice none 0 0, .slice none 0 0, .int .i64 0, .bool false] 38)).setRow w9.heap.size #[.slice ah L ch, .slice none 0 0, .int .i64 f, .bool false]).heap[w1.heap.size]? = some (.cells #[.slice asp L cs, .slice none 0 0, .int .i64 f, .bool false] 38 (0, 0))) := by unfold Hid; rw [hwZ, Below.heap_alloc w9 _ _ (by omega)]; exact hr9
  have HWZ : Hid _ := hwZ
  clear hwZ As8 hb9 hr9 HR8b hB8
  go_wp2_with (first
    | (refine wpList_store_row rfl 38 (.tmp 7) (.tmp 28) rfl w9.heap.size #[.slice ah L ch, .slice none 0 0, .int .i64 f, .bool false] rfl rfl 38 _ (heap_alloc_new w9 _) HSD.out rfl (all4d _ _ _ _ _ _ _ _) ?_)
    | (refine wpList_load_row rfl 38 (.tmp 7) rfl w9.heap.size rfl 38 _ (0, 0) _ H5a.out Try.underlying38 rfl HSD.out ?_)
    | (refine wpList_load_row rfl 38 (.tmp 3) rfl w1.heap.size rfl 38 _ (0, 0) _ H5b.out Try.underlying38 rfl HSD.out ?_))
  rw [HWZ.out]
  have hb10 := newB w9 (.cells #[.slice ah L ch, .slice none 0 0, .int .i64 f, .bool false] 38)
  generalize w9.alloc (.cells #[.slice ah L ch, .slice none 0 0, .int .i64 f, .bool false] 38) = w10 at *
  have A10 := As9.below hb10
  have Ah10 := Ah9.below hb10
  have hB10 : Below w.heap.size w w10 := hB9.trans (hb10.mono hB9.size)
  clear H5a H5b HWZ As9 Ah9 hb10 hB9
  refine (eqD0 _ _ L _ _ _ f _ HZ.out (by omega) Ah10 A10).mono ?_
  rintro e w11 ⟨rfl, hb11⟩
  have HB11 : Hid (Below w.heap.size w w11) := hB10.trans (hb11.mono hB10.size)
  clear A10 Ah10 hB10 hb11
  go_wp2
  go_ret
  exact ⟨rfl, HB11.out⟩

theorem i64_of_wf {x : Int} (h : (Lit.int .i64 x).wf = true) : -9223372036854775808 ≤ x ∧ x ≤ 9223372036854775807 := by
  simp [Lit.wf, IntKind.min, IntKind.max, IntKind.signed, IntKind.bits] at h
  exact ⟨by omega, by omega⟩

set_option maxRecDepth 100000 in
theorem lifted (os : Os) (started : os.Started) (H : Type) (enc : TypeId × Value → H) :
    ReturnsInHanded {} Try.checked os 5 .any (Rows.fnExactDevNewSpec.pre6 enc Try.prog Try.f5 Rows.fnExactDevNewRow.domain false) (Rows.fnExactDevNewSpec.post enc Try.prog Try.f5 false true false false) := by
  refine returnsInHanded_of_change (C := Try.checked) own started (by kernel_rfl) Try.func5
    (ChangeSpec.witness6 (enc := enc) (C := Try.checked) false ⟨#[], #[.int .i64 0], []⟩ 8 (by kernel_rfl) (by kernel_rfl) (by kernel_rfl) (by kernel_rfl)) ?_
  intro W base args ds gs before hval0 hW hcnd _
  have hval : ∀ (j : Nat) t v, Try.f5.params[j]? = some t → args[j]? = some v → Value.okWide Try.prog W .any base t v := hval0
  have hW' := hW
  obtain ⟨p, q, hA0, hV, rfl, hfz, hnd⟩ := hW
  have hA : DataW.TrodAll enc Try.prog W 0 (fun _ => true) true Try.f5.params.toList args.toList ds p := hA0
  rw [Try.params5] at hA hval
  obtain ⟨v0, vs0, d0, ds0, p0, q0, hargs, rfl, rfl, h0, r0⟩ := trodAll_cons hA
  obtain ⟨rfl, rfl, rfl⟩ := trodAll_nil r0
  obtain rfl : args = #[v0] := by cases args; simp_all
  obtain ⟨rfl, rfl⟩ := trodVars_none hV
  have k0 := h0
  have lt0 : ∀ x ∈ p0, x.block < W.heap.size := by obtain ⟨m, hm⟩ := k0; exact DataW.trod_lt m _ _ _ hm
  obtain ⟨a0, rfl, rfl, rfl, w0⟩ := open_int Try.underlying2 (hval 0 2 v0 rfl rfl) h0
  clear hA0 hval0
  obtain ⟨b1, b2⟩ := i64_of_wf w0
  refine (walk a0 W b1 b2).mono fun e W' ⟨he, bel⟩ => ?_
  subst he
  exact ⟨_, rfl, _, _, _, [], _, [], hW', trodAll_mk1 (shut_bool Try.underlying4 _), (trodAll_cons_mk (Below.trod laidOut (by kernel_rfl) (of_decide_eq_true (by kernel_rfl)) k0 bel lt0) trodAll_mk0), rfl, bel.frame _, fun h => by cases h⟩

theorem over : Rows.fnExactDevNewRow.holds Try.pinned (OpenSpec.ofChange Rows.fnExactDevNewSpec) :=
  OpenClaim.holds_of_wide 5 Try.f5 rfl rfl rfl rfl rfl rfl rfl ⟨rfl, rfl, rfl, rfl, rfl⟩ rfl rfl rfl rfl rfl (by kernel_rfl) Try.func5 (by kernel_rfl)
    (of_decide_eq_true (by kernel_rfl)) (by unfold Func.isWrapper; first | (rw [if_pos (by decide +kernel)]; kernel_rfl) | (rw [if_neg (by decide +kernel)]; exact ⟨rfl, rfl⟩))
    (fun os started H enc _ => lifted os started H enc)
end Go.Proofs.Ythghkfncpdnpoab.ldnew
namespace Go.Proofs.Ythghkfncpdnpoab
theorem devNew_holds : Rows.FnExactDevNewSaid := ldnew.over
#print axioms devNew_holds
end Go.Proofs.Ythghkfncpdnpoab
