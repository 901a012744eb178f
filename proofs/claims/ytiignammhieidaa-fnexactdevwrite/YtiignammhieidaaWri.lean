/-
  Own work: the program's write method, and the closure that calls it.
-/
import Derived.Test.YtiignammhieidaaBurn
import Derived.Test.YtiignammhieidaaReg6
import Derived.Test.YtiignammhieidaaReg7
import Derived.Test.YtiignammhieidaaDur
namespace Go.Proofs.Ytiignammhieidaa
open Go.ChangeShapes Go.WideShapes Go.ChangeAt Go.RowKit
set_option linter.unusedVariables false

/-- Of the older blocks at most D and one more have turned. -/
structure WR (D : Nat) (r : Option Nat) (w w' : World) : Prop where
  os : w'.os = w.os
  tape : w'.tape = w.tape
  output : w'.output = w.output
  size : w.heap.size ≤ w'.heap.size
  block : ∀ k, k < w.heap.size → k ≠ D → some k ≠ r → w'.heap[k]? = w.heap[k]?
theorem WR.trans {D : Nat} {r : Option Nat} {a b c : World} (h : WR D r a b) (k : WR D r b c) : WR D r a c :=
  ⟨k.os.trans h.os, k.tape.trans h.tape, k.output.trans h.output, Nat.le_trans h.size k.size, fun i hi h1 h2 => (k.block i (by have := h.size; omega) h1 h2).trans (h.block i hi h1 h2)⟩
theorem WR.of_wr {D : Nat} {r : Option Nat} {a b : World} (h : Wr D a b) : WR D r a b := ⟨h.os, h.tape, h.output, by rw [h.size]; exact Nat.le_refl _, fun k _ h1 _ => h.block k h1⟩
theorem WR.of_below {D : Nat} {r : Option Nat} {a b : World} (h : Below a.heap.size a b) : WR D r a b := ⟨h.os, h.tape, h.output, h.size, fun k hk _ _ => h.block k hk⟩
theorem WR.of_grown {D : Nat} {r : Option Nat} {a b : World} (h : a.grownBy b r) : WR D r a b := ⟨h.os, h.tape, h.output, h.size, fun k hk _ hr => h.block k hk hr⟩
theorem POwn.keepD {w w' : World} {B : Nat} {v : Value} {qs : List Q1} (h : POwn w B v qs) (hk : ∀ (k : Nat) (cur : Array Value) (t : TypeId), w.heap[k]? = some (Obj.cells cur t (0, 0)) → t ≠ 29 → w'.heap[k]? = w.heap[k]?) : POwn w' B v qs := by
  refine ⟨ownsRow_keep h.row (fun k e => ?_), fun i q hi => (h.each i q hi).keep (fun k e => ?_), h.ord⟩
  · obtain ⟨_, _, cur, h2⟩ := ownsRow_lt h.row k e; exact hk k cur _ h2 (by decide)
  · obtain ⟨_, _, cur, t, h2, _, h3⟩ := (h.each i q hi).lt k e; exact hk k cur t h2 h3

set_option maxHeartbeats 400000 in
set_option maxRecDepth 100000 in
theorem write_no (D : Nat) (a b : Value) (s : Int) (z : List Int) (w : World) (h : w.heap[D]? = some (.cells #[a, b, .int .i64 0, .bool false] 29 (0, 0))) :
    Calls Try.prog 29 #[.pointer (some ⟨D, 0, none⟩), .int .i64 s, secV z] w fun e w' => e = .panicked [{ v := lossV, recovered := false }] ∧ w'.heap[D]? = some (.cells #[a, b, .int .i64 0, .bool true] 29 (0, 0)) ∧ WR D none w w' := by
  unfold secV
  have hb := (Below.refl w.heap.size w).alloc (Nat.le_refl _) (.cells (z.map (Value.int .u8)).toArray 50)
  have hD := (Array.getElem?_eq_some_iff.1 h).1
  have HB : Hid _ := burn_no D a b false (w.alloc (.cells (z.map (Value.int .u8)).toArray 50)) (by rw [hb.block _ hD]; exact h)
  have HBB : Hid (Below w.heap.size w (w.alloc (.cells (z.map (Value.int .u8)).toArray 50))) := hb
  clear hb h
  go_enter Try.func29, Try.ntmps29
  go_wp2_with fail
  refine (show Calls _ _ _ _ _ from HB.out).mono ?_
  rintro e w1 ⟨rfl, h1, h2⟩
  exact ⟨rfl, rfl, h1, (WR.of_below HBB.out).trans (WR.of_wr h2)⟩

def GV (D S E bx : Nat) (cv : Value) (qs : List Q1) (s : Int) (z : List Int) : Nat → (Nat → Bool) → World → Value → Prop
  | 0, _, _, v => v = .pointer (some ⟨D, 0, none⟩)
  | 1, _, _, v => v = .pointer (some ⟨D, 0, none⟩)
  | 2, _, _, v => v = .pointer (some ⟨D, 0, none⟩)
  | 3, _, _, v => v = .pointer (some ⟨D, 1, none⟩)
  | 4, _, _, v => v = cv
  | 5, _, _, v => v = .int .i64 s
  | 6, _, _, v => v = .slice (some ⟨bx, 0, none⟩) 64 64
  | 7, _, _, v => v = .agg #[.int .i64 s, .slice (some ⟨bx, 0, none⟩) 64 64]
  | 8, _, w, v => ∃ K, v = .slice (some ⟨K, 0, none⟩) 1 1 ∧ S ≤ K ∧ w.heap[K]? = some (.cells #[.int .i64 s, .slice (some ⟨bx, 0, none⟩) 64 64] 44 (0, 0))
  | 9, _, w, v => ∃ q : Q1, q.s = s ∧ q.z = z ∧ POwn w E v (qs ++ [q])
  | 10, _, _, v => v = .pointer (some ⟨D, 0, none⟩)
  | _, _, _, v => v = .pointer (some ⟨D, 1, none⟩)
theorem GV_stab (D S E bx : Nat) (cv : Value) (qs : List Q1) (s : Int) (z : List Int) (hr : ∀ k, cv.ownBlock = some k → k < S) (j : Nat) (L : Nat → Bool) (w w' : World) (i : Nat) (v : Value)
    (hM : (i ≠ 9 → Below w.heap.size w w') ∧ w.grownBy w' cv.ownBlock) (hij : i ≠ j) (hL : L i = false) (h : GV D S E bx cv qs s z j L w v) : GV D S E bx cv qs s z j (updK L i) w' v := by
  have hg := hM.2
  unfold GV at *
  split at h
  all_goals first
    | exact h
    | (obtain ⟨K, e, h1, h2⟩ := h; exact ⟨K, e, h1, by rw [hg.block _ (Array.getElem?_eq_some_iff.1 h2).1 (fun er => by have := hr K er.symm; omega)]; exact h2⟩)
    | (obtain ⟨q, e1, e2, h⟩ := h; exact ⟨q, e1, e2, h.below (hM.1 hij)⟩)

def WrPost (w w' : World) (D E : Nat) (dv cv : Value) (qs : List Q1) (f s : Int) (z : List Int) : Prop :=
  ∃ cv' q, q.s = s ∧ q.z = z ∧ w'.heap[D]? = some (.cells #[dv, cv', .int .i64 (stF f), .bool false] 29 (0, 0)) ∧ POwn w' E cv' (qs ++ [q]) ∧ WR D cv.ownBlock w w'

set_option maxHeartbeats 1000000 in
set_option maxRecDepth 100000 in
theorem write_yes (D E : Nat) (dv cv : Value) (qs : List Q1) (f s : Int) (z : List Int) (w : World) (h : w.heap[D]? = some (.cells #[dv, cv, .int .i64 f, .bool false] 29 (0, 0))) (hP : POwn w E cv qs) (hE : E ≤ w.heap.size) (hz : z.length = 64) (hf : f = -1 ∨ 0 < f) (hf2 : f ≤ 9223372036854775807) (hql : qs.length ≤ 1048576) :
    Calls Try.prog 29 #[.pointer (some ⟨D, 0, none⟩), .int .i64 s, secV z] w fun e w' => e = .returned (.tuple #[]) ∧ WrPost w w' D E dv cv qs f s z := by
  unfold secV
  have hb := (Below.refl w.heap.size w).alloc (Nat.le_refl _) (.cells (z.map (Value.int .u8)).toArray 50)
  have hD := (Array.getElem?_eq_some_iff.1 h).1
  have HB : Hid _ := burn_yes D dv cv f false (w.alloc (.cells (z.map (Value.int .u8)).toArray 50)) (by rw [hb.block _ hD]; exact h) hf hf2
  have hrow : Row (w.alloc (.cells (z.map (Value.int .u8)).toArray 50)) w.heap.size 50 z := heap_alloc_new w _
  have HROW : Hid (Row (w.alloc (.cells (z.map (Value.int .u8)).toArray 50)) w.heap.size 50 z) := hrow
  have HP1 : Hid (POwn (w.alloc (.cells (z.map (Value.int .u8)).toArray 50)) E cv qs) := hP.below hb
  have HD1 : Hid ((w.alloc (.cells (z.map (Value.int .u8)).toArray 50)).heap[D]? = some (.cells #[dv, cv, .int .i64 f, .bool false] 29 (0, 0))) := by unfold Hid; rw [hb.block _ hD]; exact h
  have HLT : Hid (∀ (i : Nat) (p : Q1) (k : Nat), qs[i]? = some p → p.v.ownBlock = some k → k < w.heap.size) := fun i p k hp e => ((hP.each i p hp).lt k e).2.1
  have hcS : ∀ k, cv.ownBlock = some k → k < w.heap.size := fun k e => (ownsRow_lt hP.row k e).2.1
  have HCS : Hid _ := hcS
  have HBB : Hid (Below w.heap.size w (w.alloc (.cells (z.map (Value.int .u8)).toArray 50))) := hb
  have HZ : Hid (z.length = 64) := hz
  clear hb h hP hz hrow hcS
  go_enter Try.func29, Try.ntmps29
  go_wp2_with fail
  refine (show Calls _ _ _ _ _ from HB.out).mono ?_
  clear HB
  rintro e w1 ⟨rfl, hr1, hw1⟩
  obtain ⟨F, hF⟩ : ∃ F, stF f = F := ⟨_, rfl⟩
  rw [hF] at hr1
  have HF : Hid (stF f = F) := hF
  clear hF
  have hsz1 : w.heap.size < w1.heap.size := by rw [hw1.size]; exact HROW.out.lt
  have HR1 : Hid (w1.heap[D]? = some (.cells #[dv, cv, .int .i64 F, .bool false] 29 (0, 0))) := hr1
  have HROW1 : Hid (Row w1 w.heap.size 50 z) := by unfold Hid Row; rw [hw1.block _ (by omega)]; exact HROW.out
  have HP2 : Hid (POwn w1 E cv qs) := POwn.keepD HP1.out (fun k cur t hh ht => hw1.block k (fun e => by rw [e, HD1.out] at hh; simp at hh; exact ht hh.2.symm))
  have HW1 : Hid (WR D cv.ownBlock w w1) := (WR.of_below HBB.out).trans (WR.of_wr hw1)
  clear hr1 hw1 HROW HP1 HD1 HBB
  have hDc : ∀ k, cv.ownBlock = some k → k ≠ D := fun k e ek => by
    obtain ⟨_, _, cur, h3⟩ := ownsRow_lt (POwn.row HP2.out) k e
    rw [ek, HR1.out] at h3; simp at h3
  have HDC : Hid _ := hDc
  clear hDc
  have hD1 : D < w1.heap.size := by omega
  go_wp2_with fail
  refine wp_region_any (by kernel_rfl) ?_
  refine wpAny_slotsJ 12 (fun i w w' => (i ≠ 9 → Below w.heap.size w w') ∧ w.grownBy w' cv.ownBlock) (frame := (fun (c0 c1 c2 c3 c4 c5 c6 c7 : Value) => fun (t : Nat → Value) => ({ tmps := List.toArray (c0 :: c1 :: c2 :: c3 :: c4 :: c5 :: c6 :: c7 :: t 0 :: t 1 :: t 2 :: t 3 :: t 4 :: t 5 :: t 6 :: t 7 :: t 8 :: t 9 :: t 10 :: t 11 :: []), defers := [] } : Act)) _ _ _ _ _ _ _ _)
    (Ext := fun Ls w' => w1.grownBy w' cv.ownBlock ∧ (Ls 9 = false → Below w1.heap.size w1 w')) (Good := GV D w.heap.size E w.heap.size cv qs s z) (by rfl) (by kernel_rfl) (GV_stab _ _ _ _ _ _ _ _ HCS.out) (by kernel_rfl) (by kernel_rfl) ?hop ?hend _ _ ((fun (x0 x1 x2 x3 x4 x5 x6 x7 x8 x9 x10 x11 : Value) => fun (i : Nat) => if i = 0 then x0 else if i = 1 then x1 else if i = 2 then x2 else if i = 3 then x3 else if i = 4 then x4 else if i = 5 then x5 else if i = 6 then x6 else if i = 7 then x7 else if i = 8 then x8 else if i = 9 then x9 else if i = 10 then x10 else if i = 11 then x11 else undef) _ _ _ _ _ _ _ _ _ _ _ _) _ (by simp) (by simp) ?ext ?start ?clo (by simp)
  case clo => intro i o ho h; exact absurd h (by rw [Array.getD_eq_getD_getElem?, Array.getElem?_replicate]; split <;> simp)
  case start => intro i hi h; exact absurd h (by rw [Array.getD_eq_getD_getElem?, Array.getElem?_replicate]; split <;> simp)
  case ext => exact ⟨grown_of_below (Below.refl _ _).drew, fun _ => (Below.refl _ _).drew⟩
  case hop =>
    intro i o Ls t w' hil ho hLi hx hdep K hK
    obtain ⟨hxg, hx9⟩ := hx
    have h9 : ∀ (j : Nat) (ww : World), j ≠ 9 → Below w'.heap.size w' ww → updK Ls j 9 = false → Below w1.heap.size w1 ww := fun j ww hj hb hL => by
      have hL' : Ls 9 = false := by simpa [updK, Ne.symm hj] using hL
      exact (hx9 hL').trans (hb.mono hxg.size)
    have haf : w'.heap[D]? = some (.cells #[dv, cv, .int .i64 F, .bool false] 29 (0, 0)) := by
      rw [hxg.block D hD1 (fun e => HDC.out D e.symm rfl)]; exact HR1.out
    obtain ⟨a0, a1, a2, a3⟩ := row4 haf
    have REF : Hid (∀ j, j ≠ 9 → (w1.grownBy w' cv.ownBlock ∧ (updK Ls j 9 = false → Below w1.heap.size w1 w'))) := fun j hj => ⟨hxg, h9 j w' hj (Below.refl _ _)⟩
    have RM : Hid (∀ j, (j ≠ 9 → Below w'.heap.size w' w') ∧ w'.grownBy w' cv.ownBlock) := fun j => ⟨fun _ => Below.refl _ _, grown_of_below (Below.refl _ _)⟩
    have hs9 := hxg.size
    have H9 : Hid _ := h9
    have HX9 : Hid _ := hx9
    have HXG : Hid _ := hxg
    clear h9 hx9 hxg haf
    obtain rfl | rfl | rfl | rfl | rfl | rfl | rfl | rfl | rfl | rfl | rfl | rfl : i = 0 ∨ i = 1 ∨ i = 2 ∨ i = 3 ∨ i = 4 ∨ i = 5 ∨ i = 6 ∨ i = 7 ∨ i = 8 ∨ i = 9 ∨ i = 10 ∨ i = 11 := by omega
    all_goals (simp at ho; subst ho)
    · clear hdep
      go_simp
      exact hK w' (.pointer (some ⟨D, 0, none⟩)) rfl (REF.out 0 (by decide)) (RM.out 0)
    · clear hdep
      go_simp
      exact hK w' (.pointer (some ⟨D, 0, none⟩)) rfl (REF.out 1 (by decide)) (RM.out 1)
    · have d1 : t 1 = _ := hdep ⟨1, .data⟩ (by simp) rfl
      clear hdep
      go_simp
      simpa [upd, d1] using hK w' (.pointer (some ⟨D, 0, none⟩)) rfl (REF.out 2 (by decide)) (RM.out 2)
    · have d2 : t 2 = _ := hdep ⟨2, .data⟩ (by simp) rfl
      clear hdep
      go_simp
      simpa [upd, d2] using hK w' (.pointer (some ⟨D, 1, none⟩)) rfl (REF.out 3 (by decide)) (RM.out 3)
    · have d3 : t 3 = _ := hdep ⟨3, .data⟩ (by simp) rfl
      clear hdep
      go_simp
      simpa [upd, d3] using hK w' (cv) rfl (REF.out 4 (by decide)) (RM.out 4)
    · clear hdep
      go_simp
      exact hK w' (.int .i64 s) rfl (REF.out 5 (by decide)) (RM.out 5)
    · clear hdep
      go_simp
      exact hK w' (.slice (some ⟨w.heap.size, 0, none⟩) 64 64) rfl (REF.out 6 (by decide)) (RM.out 6)
    · have d5 : t 5 = _ := hdep ⟨5, .data⟩ (by simp) rfl
      have d6 : t 6 = _ := hdep ⟨6, .data⟩ (by simp) rfl
      clear hdep
      go_simp
      simpa [upd, d5, d6] using hK w' (.agg #[.int .i64 s, .slice (some ⟨w.heap.size, 0, none⟩) 64 64]) rfl (REF.out 7 (by decide)) (RM.out 7)
    · have d7 : t 7 = _ := hdep ⟨7, .data⟩ (by simp) rfl
      clear hdep
      have hb9 := (Below.refl w'.heap.size w').alloc (Nat.le_refl _) (.cells #[.int .i64 s, .slice (some ⟨w.heap.size, 0, none⟩) 64 64] 44)
      have hK' := hK (w'.alloc (.cells #[.int .i64 s, .slice (some ⟨w.heap.size, 0, none⟩) 64 64] 44)) (.slice (some ⟨w'.heap.size, 0, none⟩) 1 1) ⟨w'.heap.size, rfl, by omega, heap_alloc_new w' _⟩ ⟨grown_trans HXG.out (grown_of_below hb9), H9.out 8 _ (by decide) hb9⟩ ⟨fun _ => hb9, grown_of_below hb9⟩
      clear hK hb9
      go_simp
      simpa [upd, d7] using hK'
    · have d4 : t 4 = _ := hdep ⟨4, .data⟩ (by simp) rfl
      obtain ⟨B, e8, hB, hbB⟩ := hdep ⟨8, .data⟩ (by simp) rfl
      clear hdep
      have hbl := HX9.out hLi
      have hP9 := POwn.below HP2.out hbl
      have e64 : (Value.slice (some ⟨w.heap.size, 0, none⟩) 64 64) = .slice (some ⟨w.heap.size, 0, none⟩) z.length 64 := by rw [HZ.out]
      rw [e64] at hbB
      have hRw : Row w' w.heap.size 50 z := by unfold Row; rw [hbl.block _ (by omega)]; exact HROW1.out
      refine wp_appP w' (.tmp 12) (.tmp 16) rfl E w.heap.size cv qs ⟨s, some ⟨w.heap.size, 0, none⟩, 64, z⟩ d4 hP9 HLT.out B e8 hbB (.inr ⟨w.heap.size, by unfold Q1.v; rw [HZ.out], Nat.le_refl _, HZ.out, hRw⟩) hE (by omega) hql ?_
      intro v9 w9 hP9' hg9
      exact hK w9 v9 ⟨_, rfl, rfl, hP9'⟩ ⟨grown_trans HXG.out hg9, fun h => by simp [updK] at h⟩ ⟨fun h => absurd rfl h, hg9⟩
    · have d0 : t 0 = _ := hdep ⟨0, .data⟩ (by simp) rfl
      clear hdep
      go_simp
      simpa [upd, d0] using hK w' (.pointer (some ⟨D, 0, none⟩)) rfl (REF.out 10 (by decide)) (RM.out 10)
    · have d10 : t 10 = _ := hdep ⟨10, .data⟩ (by simp) rfl
      clear hdep
      go_simp
      simpa [upd, d10] using hK w' (.pointer (some ⟨D, 1, none⟩)) rfl (REF.out 11 (by decide)) (RM.out 11)
  case hend =>
    intro o Ls t w' ho hx hg K hK
    simp at ho; subst ho
    obtain ⟨hxg, _⟩ := hx
    obtain ⟨q', hq1, hq2, hP9⟩ := hg 9 (by decide)
    have h11 : t 11 = _ := hg 11 (by decide)
    clear hg
    obtain ⟨na, nc, e9, _⟩ := hP9.mine
    obtain ⟨n9, hn9⟩ : ∃ n9, (qs ++ [q']).length = n9 := ⟨_, rfl⟩
    rw [hn9] at e9
    clear hn9
    rw [e9] at hP9
    have haf : w'.heap[D]? = some (.cells #[dv, cv, .int .i64 F, .bool false] 29 (0, 0)) := by
      rw [hxg.block D hD1 (fun e => HDC.out D e.symm rfl)]; exact HR1.out
    obtain ⟨a0, a1, a2, a3⟩ := row4 haf
    have f1 := frozen_of_row w' D 1 _ _ haf
    have hA9 := row_setCell (i := 1) (.slice na n9 nc) haf rfl
    have hwr : Wr D w' (w'.setCell ⟨D, 1, none⟩ (.slice na n9 nc)) := (Wr.refl D w').setCell 1 _
    have hPn : POwn (w'.setCell ⟨D, 1, none⟩ (.slice na n9 nc)) E (.slice na n9 nc) (qs ++ [q']) := hP9.keepD (fun k cur t hh ht => hwr.block k (fun e => by rw [e, haf] at hh; simp at hh; exact ht hh.2.symm))
    have HFIN : Hid (WrPost w (w'.setCell ⟨D, 1, none⟩ (.slice na n9 nc)) D E dv cv qs f s z) := by
      refine ⟨.slice na n9 nc, q', hq1, hq2, by rw [HF.out]; exact hA9, hPn, ?_⟩
      exact ((show WR D cv.ownBlock w w1 from HW1.out).trans (WR.of_grown hxg)).trans (WR.of_wr hwr)
    clear hPn hA9 haf hP9 hxg hwr a0 a2 a3 hq1 hq2
    go_simp
    apply hK
    clear e9 h11
    go_wp2
    first | go_end0 | go_ret
    exact ⟨rfl, HFIN.out⟩
end Go.Proofs.Ytiignammhieidaa
