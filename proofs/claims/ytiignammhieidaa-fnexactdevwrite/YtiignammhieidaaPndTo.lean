/-
  Own work: copies of lists of pending writes and of devices, as the laws make them.
-/
import Derived.Test.YtiignammhieidaaPnd
import Derived.Test.YtiignammhieidaaRowB
import Derived.Test.YtiignammhieidaaMark
namespace Go.Proofs.Ytiignammhieidaa
open Go.ChangeShapes Go.WideShapes Go.ChangeAt Go.RowKit
set_option linter.unusedVariables false

theorem Try.infoPend : (Try.prog.info? 44).map (fun i => (i.zero, i.size, i.bytes)) = some (some (.agg #[.int .i64 0, .slice none 0 0]), 2, 32) := by kernel_rfl

structure TP (w wr : World) (g n : Nat) (X : Nat → Nat) (ps : List PD) (k : Nat) : Prop where
  below : Below w.heap.size w wr
  blk : ∃ cur, wr.heap[g]? = some (.cells cur 44 (0, 0)) ∧ cur.size = n * 2 ∧ ∀ i, i < k → cur[i * 2]? = some (.int .i64 (ps.getD i (0, [])).1) ∧ cur[i * 2 + 1]? = some (.slice (some ⟨X i, 0, none⟩) (ps.getD i (0, [])).2.length (ps.getD i (0, [])).2.length)
  rows : ∀ i, i < k → Row wr (X i) 5 (ps.getD i (0, [])).2 ∧ g < X i
  ord : ∀ i j, i < j → j < k → X i < X j

/-- A list of pending writes in memory of the call's own, from block B on and below block U. -/
def PMine (B U : Nat) (w : World) (a : Option Addr) (ps : List PD) : Prop :=
  ps = [] ∨ ∃ (g o : Nat) (X : Nat → Option Addr) (C : Nat → Nat), a = some ⟨g, o, none⟩ ∧ B ≤ g ∧ g < U ∧ U ≤ w.heap.size ∧
    (∀ i, i < ps.length → w.cell? ⟨g, o + i * 2, none⟩ = some (.int .i64 (ps.getD i (0, [])).1) ∧ w.frozen? ⟨g, o + i * 2, none⟩ = false ∧ w.cell? ⟨g, o + i * 2 + 1, none⟩ = some (.slice (X i) (ps.getD i (0, [])).2.length (C i)) ∧
      At .u8 w (X i) (ps.getD i (0, [])).2 ∧ Open w (X i) (ps.getD i (0, [])).2.length ∧ (∀ ad, X i = some ad → B ≤ ad.block ∧ ad.block < U ∧ ad.block ≠ g) ∧ (ps.getD i (0, [])).2.length ≤ C i) ∧
    ∀ i j ad ad', i < ps.length → j < ps.length → i ≠ j → X i = some ad → X j = some ad' → ad.block ≠ ad'.block
theorem PMine.at_ {B U : Nat} {w : World} {a : Option Addr} {ps : List PD} (h : PMine B U w a ps) : PAt w a ps := by
  rcases h with h | ⟨g, o, X, C, ha, _, hg, hU, h1, _⟩
  · exact .inl h
  · exact .inr ⟨g, o, ha, by omega, fun i hi => ⟨X i, C i, (h1 i hi).1, (h1 i hi).2.2.1, (h1 i hi).2.2.2.1⟩⟩
theorem Open.below {w w' : World} {a : Option Addr} {n : Nat} (h : Open w a n) (hb : Below w.heap.size w w') : Open w' a n := by
  rcases h with h | ⟨g, o, h1, h2, h3⟩
  · exact .inl h
  · exact .inr ⟨g, o, h1, by have := hb.size; omega, fun i hi => by rw [hb.cell (p := ⟨g, o + i, none⟩) h2, hb.frozen (p := ⟨g, o + i, none⟩) h2]; exact h3 i hi⟩
theorem PMine.below {B U : Nat} {w w' : World} {a : Option Addr} {ps : List PD} (h : PMine B U w a ps) (hb : Below w.heap.size w w') : PMine B U w' a ps := by
  have hs := hb.size
  rcases h with h | ⟨g, o, X, C, ha, hB, hg', hU, h1, h2⟩
  · exact .inl h
  · have hg : g < w.heap.size := by omega
    refine .inr ⟨g, o, X, C, ha, hB, hg', by omega, fun i hi => ?_, h2⟩
    obtain ⟨p1, p2, p3, p4, p5, p6⟩ := h1 i hi
    exact ⟨by rw [hb.cell (p := ⟨g, o + i * 2, none⟩) hg]; exact p1, by rw [hb.frozen (p := ⟨g, o + i * 2, none⟩) hg]; exact p2, by rw [hb.cell (p := ⟨g, o + i * 2 + 1, none⟩) hg]; exact p3, p4.below hb, p5.below hb,
      p6⟩

theorem Row.open_ {w : World} {g : Nat} {t : TypeId} {zs : List Int} (h : Row w g t zs) : Open w (some ⟨g, 0, none⟩) zs.length :=
  .inr ⟨g, 0, rfl, h.lt, fun i hi => by rw [Nat.zero_add]; exact ⟨by rw [h.cell i hi]; rfl, h.frozen i⟩⟩

theorem TP.mine {w wr : World} {g n : Nat} {X : Nat → Nat} {ps : List PD} (h : TP w wr g n X ps ps.length) (hg : w.heap.size ≤ g) : PMine w.heap.size wr.heap.size wr (some ⟨g, 0, none⟩) ps := by
  obtain ⟨cur, h1, h2, h3⟩ := h.blk
  refine .inr ⟨g, 0, fun i => some ⟨X i, 0, none⟩, fun i => (ps.getD i (0, [])).2.length, rfl, hg, (Array.getElem?_eq_some_iff.1 h1).1, Nat.le_refl _, fun i hi => ?_, fun i j ad ad' hi hj hij e e' => ?_⟩
  · obtain ⟨c1, c2⟩ := h3 i hi
    obtain ⟨r1, r2⟩ := h.rows i hi
    refine ⟨by rw [cell_of_row wr g _ cur _ _ h1, Nat.zero_add]; exact c1, frozen_of_row wr g _ cur _ h1, by rw [cell_of_row wr g _ cur _ _ h1, Nat.zero_add]; exact c2, r1.at_, r1.open_, fun ad e => ?_, Nat.le_refl _⟩
    cases e
    exact ⟨by show w.heap.size ≤ X i; omega, r1.lt, by show X i ≠ g; omega⟩
  · cases e; cases e'
    show X i ≠ X j
    rcases Nat.lt_or_ge i j with h' | h'
    · have := h.ord i j h' hj; omega
    · have := h.ord j i (by omega) hi; omega

theorem TP.step {w wr w1 : World} {g n k g1 : Nat} {X : Nat → Nat} {ps : List PD} (h : TP w wr g n X ps k) (hk : k < n) (hg : w.heap.size ≤ g) (hb : Below wr.heap.size wr w1) (hg1 : wr.heap.size ≤ g1) (hr : Row w1 g1 5 (ps.getD k (0, [])).2) :
    TP w ((w1.setCell ⟨g, k * 2, none⟩ (.int .i64 (ps.getD k (0, [])).1)).setCell ⟨g, k * 2 + 1, none⟩ (.slice (some ⟨g1, 0, none⟩) (ps.getD k (0, [])).2.length (ps.getD k (0, [])).2.length)) g n (fun i => if i = k then g1 else X i) ps (k + 1) := by
  obtain ⟨cur, h1, h2, h3⟩ := h.blk
  have hgl := (Array.getElem?_eq_some_iff.1 h1).1
  have h1' : w1.heap[g]? = some (.cells cur 44 (0, 0)) := by rw [hb.block g hgl]; exact h1
  have e1 := heap_setCell_same w1 g (k * 2) _ _ (.int .i64 (ps.getD k (0, [])).1) h1'
  have e2 := heap_setCell_same _ g (k * 2 + 1) _ _ (.slice (some ⟨g1, 0, none⟩) (ps.getD k (0, [])).2.length (ps.getD k (0, [])).2.length) e1
  refine ⟨((h.below.trans (hb.mono h.below.size)).setCell hg _).setCell hg _, ⟨_, e2, by simp [h2], fun i hi => ?_⟩, fun i hi => ?_, fun i j hij hj => ?_⟩
  · by_cases e : i = k
    · subst e
      refine ⟨?_, ?_⟩
      · rw [Array.getElem?_setIfInBounds_ne (by omega), Array.getElem?_setIfInBounds_self_of_lt (by omega)]
      · rw [Array.getElem?_setIfInBounds_self_of_lt (by simp; omega)]; simp
    · obtain ⟨c1, c2⟩ := h3 i (by omega)
      refine ⟨?_, ?_⟩
      · rw [Array.getElem?_setIfInBounds_ne (by omega), Array.getElem?_setIfInBounds_ne (by omega)]; exact c1
      · rw [Array.getElem?_setIfInBounds_ne (by omega), Array.getElem?_setIfInBounds_ne (by omega), if_neg e]; exact c2
  · by_cases e : i = k
    · subst e
      rw [if_pos rfl]
      refine ⟨?_, by omega⟩
      unfold Row
      rw [heap_setCell_other _ _ _ _ (by show g1 ≠ g; omega), heap_setCell_other _ _ _ _ (by show g1 ≠ g; omega)]
      exact hr
    · rw [if_neg e]
      obtain ⟨r1, r2⟩ := h.rows i (by omega)
      refine ⟨?_, r2⟩
      unfold Row
      rw [heap_setCell_other _ _ _ _ (by show X i ≠ g; omega), heap_setCell_other _ _ _ _ (by show X i ≠ g; omega), hb.block _ r1.lt]
      exact r1
  · have hiX : X i < wr.heap.size := (h.rows i (by omega)).1.lt
    rw [if_neg (by omega)]
    by_cases e : j = k
    · rw [if_pos e]; omega
    · rw [if_neg e]; exact h.ord i j hij (by omega)

set_option maxHeartbeats 400000 in
theorem toPS_any (a : Option Addr) (n cap : Nat) (ps : List PD) (w : World) (hl : ps.length = n) (hn : n ≤ 1048576) (ha : PAt w a ps) (hps : ∀ i, (ps.getD i (0, [])).2.length ≤ 1048576) :
    Calls Try.prog 23 #[.slice a n cap] w fun e w' => e = .returned (.slice (some ⟨w.heap.size, 0, none⟩) n n) ∧ PMine w.heap.size w'.heap.size w' (some ⟨w.heap.size, 0, none⟩) ps ∧ Below w.heap.size w w' := by
  obtain ⟨i0, hi, hz0, hz1, hz2⟩ := info_parts Try.infoPend
  have HI : Hid (i0.bytes = 32) := hz2
  clear hz2
  go_enter Try.func23, Try.ntmps23
  go_wp2_with (first
    | (at_make; refine wpList_make_full _ rfl _ _ 27 rfl w.heap.size 44 i0 (.agg #[.int .i64 0, .slice none 0 0]) 2 Try.underlying27 hi hz0 hz1 _ _ _ _ n rfl rfl rfl rfl ?c1 ?c2 ?c3 ?_)
    | fail)
  case c1 => rw [HI.out]; omega
  case c2 => unfold maxLen; omega
  case c3 => exact Nat.le_refl _
  intro w1 hown hgrow
  have hb1 : Below w.heap.size w w1 := (Below.refl _ _).grown hgrow (Nat.le_refl _) (by simp)
  have hst : TP w w1 w.heap.size n (fun _ => 0) ps 0 := by
    obtain ⟨h1, ⟨h2, _⟩ | ⟨g', cap, cur, hv, hb, hh, hc, hm, hs, ht⟩⟩ := hown
    · cases h2
    · cases hv
      exact ⟨hb1, ⟨cur, hh, hs, fun i hi => by omega⟩, fun i hi => by omega, fun i j _ hj => by omega⟩
  clear hown hgrow hb1
  have HST : Hid _ := hst
  clear hst
  go_wp2
  have hst := HST.out
  go_loopw [4] (fun i wr => ∃ (k : Nat) (X : Nat → Nat), k ≤ n ∧ i = .int .i64 k ∧ TP w wr w.heap.size n X ps k) (fun i _ => n - (intOf i).toNat)
  case atStart => exact ⟨0, _, Nat.zero_le _, rfl, hst⟩
  case round =>
    obtain ⟨k, X, hk, rfl, st⟩ := hrel
    by_cases hlt : k < n
    · obtain ⟨b, off, rfl, hb, hc⟩ := (ha.below st.below).get (by omega)
      obtain ⟨x, c, h1, h2, h3⟩ := hc k (by omega)
      obtain ⟨cur, c1, c2, c3⟩ := st.blk
      have hgl := (Array.getElem?_eq_some_iff.1 c1).1
      have HST1 : Hid _ := st
      have HC1 : Hid _ := c1
      have hp := hps k
      clear hc ha c3 HST st c1 hst
      generalize hs : (ps.getD k (0, [])).1 = s at *
      generalize hzs : (ps.getD k (0, [])).2 = zs at *
      have HS : Hid _ := hs
      have HZS : Hid _ := hzs
      clear hs hzs
      go_wp2_with fail
      refine (toP_any s x zs.length c zs wr rfl hp h3).mono ?_
      rintro e w2 ⟨g1, rfl, hg1, hr1, hb2⟩
      have HR1 : Hid (Row w2 g1 5 zs) := hr1
      have k1 : w2.heap[w.heap.size]? = some (.cells cur 44 (0, 0)) := by rw [hb2.block _ hgl]; exact HC1.out
      have d0 : w2.cell? ⟨w.heap.size, k * 2, none⟩ = some (cur[k * 2]'(by omega)) := by rw [cell_of_row w2 _ _ _ _ _ k1]; simp
      have d1 : w2.cell? ⟨w.heap.size, k * 2 + 1, none⟩ = some (cur[k * 2 + 1]'(by omega)) := by rw [cell_of_row w2 _ _ _ _ _ k1]; simp
      have f0 := frozen_of_row w2 w.heap.size (k * 2) _ _ k1
      have f1 := frozen_of_row w2 w.heap.size (k * 2 + 1) _ _ k1
      generalize (cur[k * 2]'(by omega)) = o0 at *
      generalize (cur[k * 2 + 1]'(by omega)) = o1 at *
      have HB2 : Hid _ := hb2
      clear hr1 k1 hb2 h1 h2 h3
      go_wp2
      have hend := HST1.out.step hlt (Nat.le_refl _) HB2.out hg1 (by rw [HZS.out]; exact HR1.out)
      rw [HS.out, HZS.out] at hend
      go_roundw
      case rel => exact ⟨k + 1, _, by omega, by go_num, hend⟩
      case measure => simp [intOf]; omega
    · have hkn : k = ps.length := by omega
      rw [hkn] at st
      have HM : Hid _ := st.mine (Nat.le_refl _)
      have HB : Hid _ := st.below
      clear st HST hst
      go_wp2
      go_ret
      exact ⟨rfl, HM.out, HB.out⟩
end Go.Proofs.Ytiignammhieidaa
