/-
  Own work: marks on lists of pending writes and on devices, and that they are found again.
-/
import Derived.Test.YtiignammhieidaaDevTo
namespace Go.Proofs.Ytiignammhieidaa
open Go.ChangeShapes Go.WideShapes Go.ChangeAt Go.RowKit
set_option linter.unusedVariables false

/-- Blocks that were there have turned only from B on and below U. -/
structure Ch (B U : Nat) (w w' : World) : Prop where
  os : w'.os = w.os
  tape : w'.tape = w.tape
  output : w'.output = w.output
  size : w.heap.size ≤ w'.heap.size
  block : ∀ k, k < w.heap.size → (k < B ∨ U ≤ k) → w'.heap[k]? = w.heap[k]?
theorem Ch.refl (B U : Nat) (w : World) : Ch B U w w := ⟨rfl, rfl, rfl, Nat.le_refl _, fun _ _ _ => rfl⟩
theorem Ch.trans {B U : Nat} {a b c : World} (h : Ch B U a b) (k : Ch B U b c) : Ch B U a c :=
  ⟨k.os.trans h.os, k.tape.trans h.tape, k.output.trans h.output, Nat.le_trans h.size k.size, fun i hi hb => (k.block i (by have := h.size; omega) hb).trans (h.block i hi hb)⟩
theorem Ch.of_below {B U : Nat} {w w' : World} (h : Below w.heap.size w w') : Ch B U w w' := ⟨h.os, h.tape, h.output, h.size, fun k hk _ => h.block k hk⟩
theorem Ch.below {B U : Nat} {w w' : World} (h : Ch B U w w') (hB : B ≤ w.heap.size) : Below B w w' := ⟨h.os, h.tape, h.output, h.size, fun k hk => h.block k (by omega) (.inl hk)⟩
theorem Ch.setCell {B U : Nat} {w w' : World} (h : Ch B U w w') (g o : Nat) (v : Value) (hB : B ≤ g) (hU : g < U) : Ch B U w (w'.setCell ⟨g, o, none⟩ v) :=
  ⟨h.os, h.tape, h.output, by simp only [World.setCell, Array.size_modify]; exact h.size, fun k hk hb => (heap_setCell_other w' ⟨g, o, none⟩ k v (by show k ≠ g; omega)).trans (h.block k hk hb)⟩
theorem Ch.wrO {B U : Nat} {w w' w'' : World} {a : Option Addr} (h : Ch B U w w') (hw : WrO a w' w'') (hB : ∀ ad, a = some ad → B ≤ ad.block ∧ ad.block < U) : Ch B U w w'' :=
  ⟨hw.os.trans h.os, hw.tape.trans h.tape, hw.output.trans h.output, by rw [hw.size]; exact h.size, fun k hk hb => (hw.block k (fun ad e => by have := hB ad e; omega)).trans (h.block k hk hb)⟩
theorem Ch.mono {B U B' U' : Nat} {w w' : World} (h : Ch B U w w') (hB : B' ≤ B) (hU : U ≤ U') : Ch B' U' w w' := ⟨h.os, h.tape, h.output, h.size, fun k hk hb => h.block k hk (by omega)⟩

def kAt (k : Int) (ps : List PD) (i : Nat) : Int := k + i + pSum (ps.take i)
def pmarks (k : Int) (ps : List PD) : List PD := (List.range ps.length).map fun i => (kAt k ps i, marks (kAt k ps i + 1) (ps.getD i (0, [])).2.length)
theorem pmarks_len (k : Int) (ps : List PD) : (pmarks k ps).length = ps.length := by simp [pmarks]
theorem pmarks_get (k : Int) (ps : List PD) (i : Nat) (h : i < ps.length) : (pmarks k ps).getD i (0, []) = (kAt k ps i, marks (kAt k ps i + 1) (ps.getD i (0, [])).2.length) := by simp [pmarks, h]
theorem kAt_zero (k : Int) (ps : List PD) : kAt k ps 0 = k := by simp [kAt, pSum]
theorem kAt_succ (k : Int) (ps : List PD) (i : Nat) (h : i < ps.length) : kAt k ps (i + 1) = kAt k ps i + 1 + (ps.getD i (0, [])).2.length := by
  unfold kAt; rw [pSum_snoc ps i h]; omega
theorem kAt_all (k : Int) (ps : List PD) : kAt k ps ps.length = k + ps.length + pSum ps := by unfold kAt; rw [List.take_length]
theorem kAt_le (k : Int) (ps : List PD) (i : Nat) (h : i ≤ ps.length) : k ≤ kAt k ps i ∧ kAt k ps i ≤ k + ps.length + pSum ps := by
  unfold kAt; have := pSum_take ps i; omega

structure MP (w wr : World) (g o : Nat) (X : Nat → Option Addr) (C : Nat → Nat) (ps : List PD) (B U : Nat) (k : Int) (j : Nat) : Prop where
  ch : Ch B U w wr
  size : wr.heap.size = w.heap.size
  all : ∀ t, t < ps.length → (wr.cell? ⟨g, o + t * 2, none⟩).isSome = true ∧ wr.frozen? ⟨g, o + t * 2, none⟩ = false ∧ wr.cell? ⟨g, o + t * 2 + 1, none⟩ = some (.slice (X t) (ps.getD t (0, [])).2.length (C t))
  rest : ∀ t, t < ps.length → j ≤ t → Open wr (X t) (ps.getD t (0, [])).2.length
  done : ∀ t, t < ps.length → t < j → wr.cell? ⟨g, o + t * 2, none⟩ = some (.int .i64 (kAt k ps t)) ∧ At .u8 wr (X t) (marks (kAt k ps t + 1) (ps.getD t (0, [])).2.length)

theorem MP.cell1 {w wr : World} {g o : Nat} {X : Nat → Option Addr} {C : Nat → Nat} {ps : List PD} {B U : Nat} {k : Int} {j : Nat} (h : MP w wr g o X C ps B U k j) (hj : j < ps.length) (v : Value) :
    (wr.setCell ⟨g, o + j * 2, none⟩ v).cell? ⟨g, o + j * 2 + 1, none⟩ = some (.slice (X j) (ps.getD j (0, [])).2.length (C j)) := by
  rw [World.cell?_setCell_other _ _ _ _ (by simp)]; exact (h.all j hj).2.2
theorem Open.setCell {w : World} {a : Option Addr} {n g o : Nat} {v : Value} (h : Open w a n) (hne : ∀ ad, a = some ad → ad.block ≠ g) : Open (w.setCell ⟨g, o, none⟩ v) a n :=
  h.keep (fun ad e => heap_setCell_other w ⟨g, o, none⟩ ad.block v (hne ad e)) (by simp [World.setCell])
theorem At.setCell {w : World} {a : Option Addr} {zs : List Int} {g o : Nat} {v : Value} (h : At .u8 w a zs) (hne : ∀ ad, a = some ad → ad.block ≠ g) : At .u8 (w.setCell ⟨g, o, none⟩ v) a zs :=
  h.keep (fun ad e => heap_setCell_other w ⟨g, o, none⟩ ad.block v (hne ad e)) (by simp [World.setCell])

theorem MP.step {w wr w2 : World} {g o : Nat} {X : Nat → Option Addr} {C : Nat → Nat} {ps : List PD} {B U : Nat} {k : Int} {j : Nat} (h : MP w wr g o X C ps B U k j) (hj : j < ps.length) (hB : B ≤ g) (hU : g < U)
    (hX : ∀ i, i < ps.length → ∀ ad, X i = some ad → B ≤ ad.block ∧ ad.block < U ∧ ad.block ≠ g) (hd : ∀ i j ad ad', i < ps.length → j < ps.length → i ≠ j → X i = some ad → X j = some ad' → ad.block ≠ ad'.block)
    (hw : WrO (X j) (wr.setCell ⟨g, o + j * 2, none⟩ (.int .i64 (kAt k ps j))) w2) (hA : At .u8 w2 (X j) (marks (kAt k ps j + 1) (ps.getD j (0, [])).2.length)) : MP w w2 g o X C ps B U k (j + 1) := by
  have hg2 : w2.heap[g]? = (wr.setCell ⟨g, o + j * 2, none⟩ (.int .i64 (kAt k ps j))).heap[g]? := hw.block g (fun ad e => Ne.symm (hX j hj ad e).2.2)
  have hs1 : (wr.setCell ⟨g, o + j * 2, none⟩ (.int .i64 (kAt k ps j))).heap.size = wr.heap.size := by simp [World.setCell]
  have hsz : w2.heap.size = wr.heap.size := by rw [hw.size, hs1]
  have cg : ∀ q, w2.cell? ⟨g, q, none⟩ = (wr.setCell ⟨g, o + j * 2, none⟩ (.int .i64 (kAt k ps j))).cell? ⟨g, q, none⟩ := fun q => World.cell?_of_block (a := ⟨g, q, none⟩) hg2
  have fg : ∀ q, w2.frozen? ⟨g, q, none⟩ = wr.frozen? ⟨g, q, none⟩ := fun q => by rw [frozen_of_block (a := ⟨g, q, none⟩) hg2, World.frozen?_setCell]
  have hoth : ∀ t, t < ps.length → t ≠ j → ∀ ad, X t = some ad → w2.heap[ad.block]? = wr.heap[ad.block]? := fun t ht htj ad e => by
    rw [hw.block ad.block (fun ad' e' => hd t j ad ad' ht hj htj e e'), heap_setCell_other wr ⟨g, o + j * 2, none⟩ ad.block _ (hX t ht ad e).2.2]
  refine ⟨(h.ch.setCell g _ _ hB hU).wrO hw (fun ad e => ⟨(hX j hj ad e).1, (hX j hj ad e).2.1⟩), by rw [hsz]; exact h.size, fun t ht => ?_, fun t ht hjt => ?_, fun t ht hjt => ?_⟩
  · obtain ⟨p1, p2, p3⟩ := h.all t ht
    refine ⟨?_, by rw [fg]; exact p2, ?_⟩
    · obtain ⟨u, hu⟩ := Option.isSome_iff_exists.1 p1
      obtain ⟨u', hu'⟩ := cell?_setCell_some (w := wr) (p := ⟨g, o + j * 2, none⟩) (x := .int .i64 (kAt k ps j)) (q := ⟨g, o + t * 2, none⟩) (v := u) hu
      rw [cg, hu']; rfl
    · rw [cg, World.cell?_setCell_other _ _ _ _ (by simp; try omega)]; exact p3
  · exact (h.rest t ht (by omega)).keep (hoth t ht (by omega)) (by omega)
  · by_cases e : t = j
    · subst e
      obtain ⟨u, hu⟩ := Option.isSome_iff_exists.1 (h.all t ht).1
      exact ⟨by rw [cg]; exact World.cell?_setCell_same _ _ _ hu, hA⟩
    · obtain ⟨q1, q2⟩ := h.done t ht (by omega)
      refine ⟨by rw [cg, World.cell?_setCell_other _ _ _ _ (by simp; try omega)]; exact q1, q2.keep (hoth t ht e) (by omega)⟩

theorem MP.end_ {w wr : World} {g o : Nat} {X : Nat → Option Addr} {C : Nat → Nat} {ps : List PD} {B U : Nat} {k : Int} (h : MP w wr g o X C ps B U k ps.length) (hg : g < wr.heap.size) : PAt wr (some ⟨g, o, none⟩) (pmarks k ps) :=
  .inr ⟨g, o, rfl, hg, fun i hi => by
    rw [pmarks_len] at hi
    obtain ⟨q1, q2⟩ := h.done i hi hi
    rw [pmarks_get k ps i hi]
    exact ⟨X i, C i, q1, by rw [marks_len]; exact (h.all i hi).2.2, q2⟩⟩

set_option maxHeartbeats 400000 in
theorem markPS_any (a : Option Addr) (n cap : Nat) (ps : List PD) (k : Int) (B U : Nat) (w : World) (h : PMine B U w a ps) (hl : ps.length = n) (hk : 0 ≤ k) (hk' : k + n + pSum ps ≤ 1099511627776) :
    Calls Try.prog 32 #[.slice a n cap, .int .i64 k] w fun e w' => e = .returned (.int .i64 (k + n + pSum ps)) ∧ PAt w' a (pmarks k ps) ∧ Ch B U w w' ∧ w'.heap.size = w.heap.size := by
  rcases h with rfl | ⟨g, o, X, C, rfl, hB, hg, hU, h1, h2⟩
  · simp at hl
    subst hl
    go_enter Try.func32, Try.ntmps32
    go_wp2
    refine wp_loop_rounds 1 ?_
    rw [rounds_succ]
    go_wp2
    go_ret
    exact ⟨ret_int (by simp [pSum]), .inl rfl, Ch.refl _ _ _, rfl⟩
  have hX : ∀ i, i < ps.length → ∀ ad, X i = some ad → B ≤ ad.block ∧ ad.block < U ∧ ad.block ≠ g := fun i hi => (h1 i hi).2.2.2.2.2.1
  have hst : MP w w g o X C ps B U k 0 := ⟨Ch.refl _ _ _, rfl, fun t ht => ⟨by rw [(h1 t ht).1]; rfl, (h1 t ht).2.1, (h1 t ht).2.2.1⟩, fun t ht _ => (h1 t ht).2.2.2.2.1, fun t _ ht => by omega⟩
  have HX : Hid _ := hX
  have HD : Hid _ := h2
  have HST : Hid _ := hst
  clear h1 h2 hX hst
  go_enter Try.func32, Try.ntmps32
  go_wp2
  go_loopw [1, 5] (fun q i wr => ∃ j : Nat, j ≤ n ∧ i = .int .i64 j ∧ q = .int .i64 (kAt k ps j) ∧ MP w wr g o X C ps B U k j) (fun _ i _ => n - (intOf i).toNat)
  case atStart => exact ⟨0, Nat.zero_le _, rfl, by rw [kAt_zero], HST.out⟩
  case round =>
    obtain ⟨j, hj, rfl, rfl, st⟩ := hrel
    have hkb := kAt_le k ps j (by omega)
    by_cases hlt : j < n
    · have hsucc := kAt_succ k ps j (by omega)
      have hkb2 := kAt_le k ps (j + 1) (by omega)
      obtain ⟨p1, p2, p3⟩ := st.all j (by omega)
      obtain ⟨v0, hv0⟩ := Option.isSome_iff_exists.1 p1
      have c1 := st.cell1 (by omega) (.int .i64 (kAt k ps j))
      have ho := (st.rest j (by omega) (Nat.le_refl _)).setCell (g := g) (o := o + j * 2) (v := .int .i64 (kAt k ps j)) (fun ad e => (HX.out j (by omega) ad e).2.2)
      have hstep := fun w2 => st.step (w2 := w2) (by omega) hB hg HX.out HD.out
      have HS : Hid _ := hstep
      have HO : Hid _ := ho
      have HSUC : Hid _ := hsucc
      clear p1 hstep st ho hsucc
      generalize kAt k ps j = q at *
      generalize (ps.getD j (0, [])).2.length = m at *
      have hr : q + 1 + (m : Int) = kAt k ps (j + 1) := HSUC.out.symm
      go_wp2_with fail
      refine (markB_any (X j) m (C j) (q + 1) _ HO.out (by omega) (by omega)).mono ?_
      rintro e w2 ⟨rfl, hA, hwr⟩
      have st2 := HS.out w2 hwr hA
      rw [hr]
      have HST2 : Hid _ := st2
      clear st2 hA hwr hr
      go_wp2
      go_roundw
      case rel => exact ⟨j + 1, by omega, by go_num, rfl, HST2.out⟩
      case measure => simp [intOf]; omega
    · have hjn : j = ps.length := by omega
      subst hjn
      have hall := kAt_all k ps
      have HE : Hid _ := st.end_ (by have := st.size; omega)
      have HC : Hid _ := And.intro st.ch st.size
      rw [hall]
      clear st
      go_wp2
      go_ret
      exact ⟨ret_int (by omega), HE.out, HC.out⟩

set_option maxHeartbeats 400000 in
theorem markD_any (v : Value) (zs : List Int) (ps : List PD) (f : Int) (d : Bool) (k : Int) (B U : Nat) (w : World) (h : DMine B U w v zs ps f d) (hk : 0 ≤ k) (hk' : k + zs.length + ps.length + pSum ps ≤ 1099511627776) :
    Calls Try.prog 12 #[v, .int .i64 k] w fun e w' => e = .returned (.int .i64 (k + zs.length + ps.length + pSum ps)) ∧ DAt w' v (marks k zs.length) (pmarks (k + zs.length) ps) f d ∧ Ch B U w w' := by
  obtain ⟨a, c, x, cx, B1, rfl, hA, hO, hab, hB1, hU1, hU, hP, hcap⟩ := h
  generalize hL : zs.length = L at *
  generalize hm : ps.length = m at *
  have hb := (Below.refl w.heap.size w).alloc (Nat.le_refl _) (.cells #[.slice a L c, .slice x m cx, .int .i64 f, .bool d] 29)
  have n0 : (w.alloc (.cells #[.slice a L c, .slice x m cx, .int .i64 f, .bool d] 29)).heap[w.heap.size]? = some (.cells #[.slice a L c, .slice x m cx, .int .i64 f, .bool d] 29 (0, 0)) := heap_alloc_new w _
  have O1 := hO.below hb
  have P1 := hP.below hb
  have c1 : Ch B U w (w.alloc (.cells #[.slice a L c, .slice x m cx, .int .i64 f, .bool d] 29)) := Ch.of_below hb
  obtain ⟨w1, hw1⟩ : ∃ w1, w1 = w.alloc (.cells #[.slice a L c, .slice x m cx, .int .i64 f, .bool d] 29) := ⟨_, rfl⟩
  have HW : Hid _ := hw1
  rw [← hw1] at O1 P1 c1 n0
  have hz1 : w.heap.size < w1.heap.size := (Array.getElem?_eq_some_iff.1 n0).1
  have HC1 : Hid _ := c1
  have HP1 : Hid _ := P1
  have HN0 : Hid _ := n0
  have HO1 : Hid _ := O1
  clear hw1 hb hA hO hP c1 P1 n0 O1
  go_enter Try.func12, Try.ntmps12
  go_wp2_with fail
  rw [← HW.out]
  refine (markB_any a L c k w1 HO1.out hk (by omega)).mono ?_
  rintro e w2 ⟨rfl, hA2, hwr⟩
  have n2 : w2.heap[w.heap.size]? = some (.cells #[.slice a L c, .slice x m cx, .int .i64 f, .bool d] 29 (0, 0)) := by
    rw [hwr.block _ (fun ad e => by have := hab ad e; omega)]; exact HN0.out
  have k1 := cell_of_row w2 w.heap.size 1 _ _ _ n2
  simp at k1
  have c2 : Ch B U w w2 := HC1.out.wrO hwr (fun ad e => by have := hab ad e; omega)
  have P2 : PMine B1 U w2 x ps := PMine.keep (show PMine B1 U w1 x ps from HP1.out) (fun j hj hj' => hwr.block j (fun ad e => by have := hab ad e; omega)) (by rw [hwr.size]; exact Nat.le_refl _)
  have hz2 : w2.heap.size = w1.heap.size := hwr.size
  have HC2 : Hid _ := c2
  have HP2 : Hid _ := P2
  have HA2 : Hid _ := hA2
  clear n2 c2 P2 hA2 hwr HC1 HP1 HN0 HO1 HW
  go_wp2_with fail
  refine (markPS_any x m cx ps (k + L) B1 U w2 HP2.out hm (by omega) (by omega)).mono ?_
  rintro e w3 ⟨rfl, hP3, hc3, hs3⟩
  have HE : Hid (At .u8 w3 a (marks k L)) := by
    refine At.keep (show At .u8 w2 a (marks k L) from HA2.out) (fun ad e => ?_) (by omega)
    have := hab ad e
    exact hc3.block _ (by omega) (.inl (by omega))
  have HC3 : Hid (Ch B U w w3) := HC2.out.trans (hc3.mono (by omega) (Nat.le_refl _))
  have HP3 : Hid _ := hP3
  clear hP3 hc3 HC2 HP2 HA2
  go_wp2
  go_ret
  exact ⟨rfl, ⟨a, c, x, cx, by rw [marks_len, pmarks_len, hm], HE.out, HP3.out, by rw [marks_len]; exact hcap⟩, HC3.out⟩
end Go.Proofs.Ytiignammhieidaa
