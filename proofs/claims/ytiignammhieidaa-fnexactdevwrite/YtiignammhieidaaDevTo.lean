/-
  Own work: the copy of a device, as the laws make it.
-/
import Derived.Test.YtiignammhieidaaPndTo
namespace Go.Proofs.Ytiignammhieidaa
open Go.ChangeShapes Go.WideShapes Go.ChangeAt Go.RowKit
set_option linter.unusedVariables false

def DAt (w : World) (v : Value) (zs : List Int) (ps : List PD) (f : Int) (d : Bool) : Prop :=
  ∃ da dc ca cc, v = .agg #[.slice da zs.length dc, .slice ca ps.length cc, .int .i64 f, .bool d] ∧ At .u8 w da zs ∧ PAt w ca ps ∧ zs.length ≤ dc
/-- A device in memory of the call's own, from block B on. -/
def DMine (B U : Nat) (w : World) (v : Value) (zs : List Int) (ps : List PD) (f : Int) (d : Bool) : Prop :=
  ∃ da dc ca cc B1, v = .agg #[.slice da zs.length dc, .slice ca ps.length cc, .int .i64 f, .bool d] ∧ At .u8 w da zs ∧ Open w da zs.length ∧ (∀ ad, da = some ad → B ≤ ad.block ∧ ad.block < B1) ∧ B ≤ B1 ∧ B1 ≤ U ∧ U ≤ w.heap.size ∧ PMine B1 U w ca ps ∧ zs.length ≤ dc
theorem DMine.at_ {B U : Nat} {w : World} {v : Value} {zs : List Int} {ps : List PD} {f : Int} {d : Bool} (h : DMine B U w v zs ps f d) : DAt w v zs ps f d := by
  obtain ⟨da, dc, ca, cc, B1, hv, h1, _, _, _, _, _, h2, h3⟩ := h
  exact ⟨da, dc, ca, cc, hv, h1, h2.at_, h3⟩
theorem DAt.below {w w' : World} {v : Value} {zs : List Int} {ps : List PD} {f : Int} {d : Bool} (h : DAt w v zs ps f d) (hb : Below w.heap.size w w') : DAt w' v zs ps f d := by
  obtain ⟨da, dc, ca, cc, hv, h1, h2, h3⟩ := h
  exact ⟨da, dc, ca, cc, hv, h1.below hb, h2.below hb, h3⟩
theorem DMine.below {B U : Nat} {w w' : World} {v : Value} {zs : List Int} {ps : List PD} {f : Int} {d : Bool} (h : DMine B U w v zs ps f d) (hb : Below w.heap.size w w') : DMine B U w' v zs ps f d := by
  obtain ⟨da, dc, ca, cc, B1, hv, h1, h2, h3, h4, h5, h5', h6, h7⟩ := h
  exact ⟨da, dc, ca, cc, B1, hv, h1.below hb, h2.below hb, h3, h4, h5, by have := hb.size; omega, h6.below hb, h7⟩

theorem At.keep {k : IntKind} {w w' : World} {a : Option Addr} {zs : List Int} (h : At k w a zs) (hk : ∀ ad, a = some ad → w'.heap[ad.block]? = w.heap[ad.block]?) (hs : w.heap.size ≤ w'.heap.size) : At k w' a zs := by
  rcases h with h | ⟨b, off, rfl, hl, hc⟩
  · exact .inl h
  · exact .inr ⟨b, off, rfl, by omega, fun i hi => by rw [World.cell?_of_block (a := ⟨b, off + i, none⟩) (w := w) (hk ⟨b, off, none⟩ rfl)]; exact hc i hi⟩
theorem frozen_of_block {w w' : World} {a : Addr} (h : w'.heap[a.block]? = w.heap[a.block]?) : w'.frozen? a = w.frozen? a := by
  unfold World.frozen?; rw [h]
theorem Open.keep {w w' : World} {a : Option Addr} {n : Nat} (h : Open w a n) (hk : ∀ ad, a = some ad → w'.heap[ad.block]? = w.heap[ad.block]?) (hs : w.heap.size ≤ w'.heap.size) : Open w' a n := by
  rcases h with h | ⟨g, o, rfl, h2, h3⟩
  · exact .inl h
  · exact .inr ⟨g, o, rfl, by omega, fun i hi => by
      rw [World.cell?_of_block (a := ⟨g, o + i, none⟩) (w := w) (hk ⟨g, o, none⟩ rfl), frozen_of_block (a := ⟨g, o + i, none⟩) (w := w) (hk ⟨g, o, none⟩ rfl)]; exact h3 i hi⟩
theorem PMine.keep {B U : Nat} {w w' : World} {a : Option Addr} {ps : List PD} (h : PMine B U w a ps) (hk : ∀ k, B ≤ k → k < U → w'.heap[k]? = w.heap[k]?) (hs : w.heap.size ≤ w'.heap.size) : PMine B U w' a ps := by
  rcases h with h | ⟨g, o, X, C, ha, hB, hg, hU, h1, h2⟩
  · exact .inl h
  · refine .inr ⟨g, o, X, C, ha, hB, hg, by omega, fun i hi => ?_, h2⟩
    obtain ⟨p1, p2, p3, p4, p5, p6⟩ := h1 i hi
    exact ⟨by rw [World.cell?_of_block (a := ⟨g, o + i * 2, none⟩) (w := w) (hk _ hB hg)]; exact p1, by rw [frozen_of_block (a := ⟨g, o + i * 2, none⟩) (w := w) (hk _ hB hg)]; exact p2, by rw [World.cell?_of_block (a := ⟨g, o + i * 2 + 1, none⟩) (w := w) (hk _ hB hg)]; exact p3,
      p4.keep (fun ad e => hk _ (p6.1 ad e).1 (p6.1 ad e).2.1) hs, p5.keep (fun ad e => hk _ (p6.1 ad e).1 (p6.1 ad e).2.1) hs,
      p6⟩

theorem row_setCell {w : World} {g i : Nat} {cs cs' : Array Value} {t : TypeId} (v : Value) (h : w.heap[g]? = some (.cells cs t (0, 0))) (he : cs.setIfInBounds i v = cs') : (w.setCell ⟨g, i, none⟩ v).heap[g]? = some (.cells cs' t (0, 0)) := by
  rw [heap_setCell_same w g i cs t v h, he]

set_option maxHeartbeats 1000000 in
theorem toD_any (a : Option Addr) (n cap : Nat) (a' : Option Addr) (n' cap' : Nat) (zs : List Int) (ps : List PD) (f : Int) (d : Bool) (w : World) (hn : zs.length = n) (hn' : ps.length = n') (hm : n ≤ 1048576) (hm' : n' ≤ 1048576) (ha : At .u8 w a zs) (ha' : PAt w a' ps) (hps : ∀ i, (ps.getD i (0, [])).2.length ≤ 1048576) :
    Calls Try.prog 7 #[.agg #[.slice a n cap, .slice a' n' cap', .int .i64 f, .bool d]] w fun e w' => ∃ v, e = .returned v ∧ DMine w.heap.size w'.heap.size w' v zs ps f d ∧ Below w.heap.size w w' := by
  go_enter Try.func7, Try.ntmps7
  go_wp2_with fail
  have hb := (((Below.refl w.heap.size w).alloc (Nat.le_refl _) (.cells #[.slice a n cap, .slice a' n' cap', .int .i64 f, .bool d] 25)).alloc (by simp) (.cells #[.slice none 0 0, .slice none 0 0, .int .i64 0, .bool false] 29)).alloc (by simp; omega) (.cells #[.slice none 0 0, .slice none 0 0, .int .i64 0, .bool false] 29)
  have hz3 : (((w.alloc (.cells #[.slice a n cap, .slice a' n' cap', .int .i64 f, .bool d] 25)).alloc (.cells #[.slice none 0 0, .slice none 0 0, .int .i64 0, .bool false] 29)).alloc (.cells #[.slice none 0 0, .slice none 0 0, .int .i64 0, .bool false] 29)).heap.size = w.heap.size + 3 := by simp
  have h2 : (((w.alloc (.cells #[.slice a n cap, .slice a' n' cap', .int .i64 f, .bool d] 25)).alloc (.cells #[.slice none 0 0, .slice none 0 0, .int .i64 0, .bool false] 29)).alloc (.cells #[.slice none 0 0, .slice none 0 0, .int .i64 0, .bool false] 29)).heap[w.heap.size + 1 + 1]? = some (.cells #[.slice none 0 0, .slice none 0 0, .int .i64 0, .bool false] 29 (0, 0)) := by
    have := heap_alloc_new ((w.alloc (.cells #[.slice a n cap, .slice a' n' cap', .int .i64 f, .bool d] 25)).alloc (.cells #[.slice none 0 0, .slice none 0 0, .int .i64 0, .bool false] 29)) (.cells #[.slice none 0 0, .slice none 0 0, .int .i64 0, .bool false] 29)
    simpa using this
  have h1 : (((w.alloc (.cells #[.slice a n cap, .slice a' n' cap', .int .i64 f, .bool d] 25)).alloc (.cells #[.slice none 0 0, .slice none 0 0, .int .i64 0, .bool false] 29)).alloc (.cells #[.slice none 0 0, .slice none 0 0, .int .i64 0, .bool false] 29)).heap[w.heap.size + 1]? = some (.cells #[.slice none 0 0, .slice none 0 0, .int .i64 0, .bool false] 29 (0, 0)) := by
    rw [((Below.refl _ ((w.alloc (.cells #[.slice a n cap, .slice a' n' cap', .int .i64 f, .bool d] 25)).alloc (.cells #[.slice none 0 0, .slice none 0 0, .int .i64 0, .bool false] 29))).alloc (Nat.le_refl _) _).block _ (by simp)]
    have := heap_alloc_new (w.alloc (.cells #[.slice a n cap, .slice a' n' cap', .int .i64 f, .bool d] 25)) (.cells #[.slice none 0 0, .slice none 0 0, .int .i64 0, .bool false] 29)
    simpa using this
  have h0 : (((w.alloc (.cells #[.slice a n cap, .slice a' n' cap', .int .i64 f, .bool d] 25)).alloc (.cells #[.slice none 0 0, .slice none 0 0, .int .i64 0, .bool false] 29)).alloc (.cells #[.slice none 0 0, .slice none 0 0, .int .i64 0, .bool false] 29)).heap[w.heap.size]? = some (.cells #[.slice a n cap, .slice a' n' cap', .int .i64 f, .bool d] 25 (0, 0)) := by
    rw [((Below.refl _ ((w.alloc (.cells #[.slice a n cap, .slice a' n' cap', .int .i64 f, .bool d] 25)).alloc (.cells #[.slice none 0 0, .slice none 0 0, .int .i64 0, .bool false] 29))).alloc (Nat.le_refl _) _).block _ (by simp; omega),
      ((Below.refl _ (w.alloc (.cells #[.slice a n cap, .slice a' n' cap', .int .i64 f, .bool d] 25))).alloc (Nat.le_refl _) _).block _ (by simp)]
    exact heap_alloc_new w _
  generalize (((w.alloc (.cells #[.slice a n cap, .slice a' n' cap', .int .i64 f, .bool d] 25)).alloc (.cells #[.slice none 0 0, .slice none 0 0, .int .i64 0, .bool false] 29)).alloc (.cells #[.slice none 0 0, .slice none 0 0, .int .i64 0, .bool false] 29)) = w3 at *
  have ha3 := ha.below hb
  have hp3 := ha'.below hb
  have HZ3 : Hid _ := hz3
  clear hz3
  refine (toB_any a n cap zs w3 hn hm ha3).mono ?_
  rintro e w4 ⟨rfl, ho4, hb4⟩
  have s4 := hb4.size
  have k2 : w4.heap[w.heap.size + 1 + 1]? = some (.cells #[.slice none 0 0, .slice none 0 0, .int .i64 0, .bool false] 29 (0, 0)) := by rw [hb4.block _ (by have := HZ3.out; omega)]; exact h2
  have k1 : w4.heap[w.heap.size + 1]? = some (.cells #[.slice none 0 0, .slice none 0 0, .int .i64 0, .bool false] 29 (0, 0)) := by rw [hb4.block _ (by have := HZ3.out; omega)]; exact h1
  have k0 : w4.heap[w.heap.size]? = some (.cells #[.slice a n cap, .slice a' n' cap', .int .i64 f, .bool d] 25 (0, 0)) := by rw [hb4.block _ (by have := HZ3.out; omega)]; exact h0
  have hv : Row w4 w3.heap.size 5 zs := owns_row ho4
  have c20 := cell_of_row w4 (w.heap.size + 1 + 1) 0 _ _ _ k2
  have f20 := frozen_of_row w4 (w.heap.size + 1 + 1) 0 _ _ k2
  have c01 := cell_of_row w4 w.heap.size 1 _ _ _ k0
  simp at c20 c01
  have hp4 := hp3.below hb4
  have m2 := row_setCell (i := 0) (.slice (some ⟨w3.heap.size, 0, none⟩) n n) k2 rfl
  have m1 := (heap_setCell_other w4 ⟨w.heap.size + 1 + 1, 0, none⟩ (w.heap.size + 1) (.slice (some ⟨w3.heap.size, 0, none⟩) n n) (by simp)).trans k1
  have m0 := (heap_setCell_other w4 ⟨w.heap.size + 1 + 1, 0, none⟩ (w.heap.size) (.slice (some ⟨w3.heap.size, 0, none⟩) n n) (by simp; omega)).trans k0
  have hv5 : Row (w4.setCell ⟨w.heap.size + 1 + 1, 0, none⟩ (.slice (some ⟨w3.heap.size, 0, none⟩) n n)) w3.heap.size 5 zs := by
    unfold Row; rw [heap_setCell_other _ _ _ _ (by have := HZ3.out; simp; omega)]; exact hv
  have hB4 : Below w.heap.size w w4 := hb.trans (hb4.mono (by have := HZ3.out; omega))
  have hB5 : Below w.heap.size w (w4.setCell ⟨w.heap.size + 1 + 1, 0, none⟩ (.slice (some ⟨w3.heap.size, 0, none⟩) n n)) := hB4.setCell (by simp; omega) _
  have hs5 : (w4.setCell ⟨w.heap.size + 1 + 1, 0, none⟩ (.slice (some ⟨w3.heap.size, 0, none⟩) n n)).heap.size = w4.heap.size := by simp [World.setCell]
  have hp5 := ha'.below hB5
  have HM2 : Hid _ := m2
  have HM1 : Hid _ := m1
  have HM0 : Hid _ := m0
  have HV5 : Hid _ := hv5
  have HB5 : Hid _ := hB5
  have HP5 : Hid _ := hp5
  have HS5 : Hid _ := hs5
  have HS4 : Hid _ := s4
  clear m2 m1 m0 hv5 hB5 hp5 hs5 s4 hv ho4 hb4 hb k2 k1 k0 h2 h1 h0 ha3 hp3 hp4 hB4 ha ha'
  go_wp2_with fail
  refine (toPS_any a' n' cap' ps _ hn' hm' HP5.out hps).mono ?_
  rintro e w6 ⟨rfl, hP6, hb6⟩
  have q2 := HM2.out
  have q1 := HM1.out
  have q0 := HM0.out
  have qv : Row _ _ _ _ := HV5.out
  have qB := HB5.out
  have qs := HS5.out
  have qs4 := HS4.out
  have qz := HZ3.out
  clear HM2 HM1 HM0 HV5 HB5 HP5 HS5 HS4 HZ3 c20 c01 f20
  generalize (w4.setCell { block := w.heap.size + 1 + 1, off := 0 } (Value.slice (some { block := w3.heap.size, off := 0 }) n n)) = w5 at *
  have hv6 : Row w6 w3.heap.size 5 zs := by unfold Row; rw [hb6.block _ qv.lt]; exact qv
  have hB6 : Below w.heap.size w w6 := qB.trans (hb6.mono (by omega))
  have n2 : w6.heap[w.heap.size + 1 + 1]? = some (.cells #[.slice (some ⟨w3.heap.size, 0, none⟩) n n, .slice none 0 0, .int .i64 0, .bool false] 29 (0, 0)) := by rw [hb6.block _ (by omega)]; exact q2
  have n1 : w6.heap[w.heap.size + 1]? = some (.cells #[.slice none 0 0, .slice none 0 0, .int .i64 0, .bool false] 29 (0, 0)) := by rw [hb6.block _ (by omega)]; exact q1
  have n0 : w6.heap[w.heap.size]? = some (.cells #[.slice a n cap, .slice a' n' cap', .int .i64 f, .bool d] 25 (0, 0)) := by rw [hb6.block _ (by omega)]; exact q0
  have c20 := cell_of_row w6 (w.heap.size + 1 + 1) 0 _ _ _ n2
  have c21 := cell_of_row w6 (w.heap.size + 1 + 1) 1 _ _ _ n2
  have c22 := cell_of_row w6 (w.heap.size + 1 + 1) 2 _ _ _ n2
  have c23 := cell_of_row w6 (w.heap.size + 1 + 1) 3 _ _ _ n2
  have f21 := frozen_of_row w6 (w.heap.size + 1 + 1) 1 _ _ n2
  have f22 := frozen_of_row w6 (w.heap.size + 1 + 1) 2 _ _ n2
  have f23 := frozen_of_row w6 (w.heap.size + 1 + 1) 3 _ _ n2
  have c02 := cell_of_row w6 w.heap.size 2 _ _ _ n0
  have c03 := cell_of_row w6 w.heap.size 3 _ _ _ n0
  have c10 := cell_of_row w6 (w.heap.size + 1) 0 _ _ _ n1
  have c11 := cell_of_row w6 (w.heap.size + 1) 1 _ _ _ n1
  have c12 := cell_of_row w6 (w.heap.size + 1) 2 _ _ _ n1
  have c13 := cell_of_row w6 (w.heap.size + 1) 3 _ _ _ n1
  have f10 := frozen_of_row w6 (w.heap.size + 1) 0 _ _ n1
  have f11 := frozen_of_row w6 (w.heap.size + 1) 1 _ _ n1
  have f12 := frozen_of_row w6 (w.heap.size + 1) 2 _ _ n1
  have f13 := frozen_of_row w6 (w.heap.size + 1) 3 _ _ n1
  simp at c20 c21 c22 c23 c02 c03 c10 c11 c12 c13
  have HV6 : Hid _ := hv6
  have HB6 : Hid _ := hB6
  have HP6 : Hid _ := hP6
  have HN1 : Hid _ := n1
  have HS6 : Hid _ := hb6.size
  have HQ : Hid _ := And.intro qs (And.intro qs4 (And.intro qz qv.lt))
  clear hv6 hB6 hP6 n2 n1 n0 hb6 q2 q1 q0 qv qB qs qs4 qz
  go_wp2
  obtain ⟨qs, qs4, qz, qvl⟩ := HQ.out
  have r1 := heap_setCell_same _ (w.heap.size + 1) 0 _ _ (.slice (some ⟨w3.heap.size, 0, none⟩) n n) ((heap_setCell_other _ ⟨w.heap.size + 1 + 1, 3, none⟩ (w.heap.size + 1) (.bool d) (by simp)).trans ((heap_setCell_other _ ⟨w.heap.size + 1 + 1, 2, none⟩ (w.heap.size + 1) (.int .i64 f) (by simp)).trans ((heap_setCell_other w6 ⟨w.heap.size + 1 + 1, 1, none⟩ (w.heap.size + 1) (.slice (some ⟨w5.heap.size, 0, none⟩) n' n') (by simp)).trans HN1.out)))
  have r2 := heap_setCell_same _ (w.heap.size + 1) 1 _ _ (.slice (some ⟨w5.heap.size, 0, none⟩) n' n') r1
  have r3 := heap_setCell_same _ (w.heap.size + 1) 2 _ _ (.int .i64 f) r2
  have r4 := heap_setCell_same _ (w.heap.size + 1) 3 _ _ (.bool d) r3
  have hoth : ∀ k, w.heap.size + 2 < k → (((((((w6.setCell ⟨w.heap.size + 1 + 1, 1, none⟩ (.slice (some ⟨w5.heap.size, 0, none⟩) n' n')).setCell ⟨w.heap.size + 1 + 1, 2, none⟩ (.int .i64 f)).setCell ⟨w.heap.size + 1 + 1, 3, none⟩ (.bool d)).setCell ⟨w.heap.size + 1, 0, none⟩ (.slice (some ⟨w3.heap.size, 0, none⟩) n n)).setCell ⟨w.heap.size + 1, 1, none⟩ (.slice (some ⟨w5.heap.size, 0, none⟩) n' n')).setCell ⟨w.heap.size + 1, 2, none⟩ (.int .i64 f)).setCell ⟨w.heap.size + 1, 3, none⟩ (.bool d)).heap[k]? = w6.heap[k]? := by
    intro k hk
    rw [heap_setCell_other _ _ _ _ (by simp; omega), heap_setCell_other _ _ _ _ (by simp; omega), heap_setCell_other _ _ _ _ (by simp; omega), heap_setCell_other _ _ _ _ (by simp; omega), heap_setCell_other _ _ _ _ (by simp; omega), heap_setCell_other _ _ _ _ (by simp; omega), heap_setCell_other _ _ _ _ (by simp; omega)]
  have hB7 := ((((((HB6.out.setCell (p := ⟨w.heap.size + 1 + 1, 1, none⟩) (by simp; omega) (.slice (some ⟨w5.heap.size, 0, none⟩) n' n')).setCell (p := ⟨w.heap.size + 1 + 1, 2, none⟩) (by simp; omega) (.int .i64 f)).setCell (p := ⟨w.heap.size + 1 + 1, 3, none⟩) (by simp; omega) (.bool d)).setCell (p := ⟨w.heap.size + 1, 0, none⟩) (by simp) (.slice (some ⟨w3.heap.size, 0, none⟩) n n)).setCell (p := ⟨w.heap.size + 1, 1, none⟩) (by simp) (.slice (some ⟨w5.heap.size, 0, none⟩) n' n')).setCell (p := ⟨w.heap.size + 1, 2, none⟩) (by simp) (.int .i64 f)).setCell (p := ⟨w.heap.size + 1, 3, none⟩) (by simp) (.bool d)
  have hs7 : (((((((w6.setCell ⟨w.heap.size + 1 + 1, 1, none⟩ (.slice (some ⟨w5.heap.size, 0, none⟩) n' n')).setCell ⟨w.heap.size + 1 + 1, 2, none⟩ (.int .i64 f)).setCell ⟨w.heap.size + 1 + 1, 3, none⟩ (.bool d)).setCell ⟨w.heap.size + 1, 0, none⟩ (.slice (some ⟨w3.heap.size, 0, none⟩) n n)).setCell ⟨w.heap.size + 1, 1, none⟩ (.slice (some ⟨w5.heap.size, 0, none⟩) n' n')).setCell ⟨w.heap.size + 1, 2, none⟩ (.int .i64 f)).setCell ⟨w.heap.size + 1, 3, none⟩ (.bool d)).heap.size = w6.heap.size := by simp [World.setCell]
  generalize (((((((w6.setCell ⟨w.heap.size + 1 + 1, 1, none⟩ (.slice (some ⟨w5.heap.size, 0, none⟩) n' n')).setCell ⟨w.heap.size + 1 + 1, 2, none⟩ (.int .i64 f)).setCell ⟨w.heap.size + 1 + 1, 3, none⟩ (.bool d)).setCell ⟨w.heap.size + 1, 0, none⟩ (.slice (some ⟨w3.heap.size, 0, none⟩) n n)).setCell ⟨w.heap.size + 1, 1, none⟩ (.slice (some ⟨w5.heap.size, 0, none⟩) n' n')).setCell ⟨w.heap.size + 1, 2, none⟩ (.int .i64 f)).setCell ⟨w.heap.size + 1, 3, none⟩ (.bool d)) = w7 at *
  have hs6 := HS6.out
  have hrow : Row w7 w3.heap.size 5 zs := by unfold Row; rw [hoth _ (by omega)]; exact HV6.out
  refine bodyPost_ret (v := .agg #[.slice (some ⟨w3.heap.size, 0, none⟩) n n, .slice (some ⟨w5.heap.size, 0, none⟩) n' n', .int .i64 f, .bool d]) (results_cell_row rfl _ _ (w.heap.size + 1) 29 _ (0, 0) _ rfl r4 Try.underlying29 rfl (by kernel_rfl)) rfl ⟨_, rfl, ?_, hB7⟩
  refine ⟨_, _, _, _, w5.heap.size, by rw [hn, hn'], hrow.at_, hrow.open_, fun ad e => ?_, by omega, by omega, Nat.le_refl _, ?_, by omega⟩
  · cases e; exact ⟨by show w.heap.size ≤ w3.heap.size; omega, qvl⟩
  · rw [hs7]; exact PMine.keep (show PMine _ _ _ _ _ from HP6.out) (fun k hk hk' => hoth k (by omega)) (by omega)
end Go.Proofs.Ytiignammhieidaa
