/-
  Own work: what the laws do with lists of frames (written by wip/mkfs.py).
-/
import Derived.Test.YthghkfncpdnpoadCpe
import Derived.Test.YthghkfncpdnpoadToF
namespace Go.Proofs.Ythghkfncpdnpoad
open Go.ChangeShapes Go.WideShapes Go.ChangeAt Go.RowKit
set_option linter.unusedVariables false

def kF (i : Nat) : IntKind := if i % 4 = 1 then .i64 else .u32
theorem kF0 (k : Nat) : kF (k * 4) = .u32 := by unfold kF; rw [if_neg (by omega)]
theorem kF1 (k : Nat) : kF (k * 4 + 1) = .i64 := by unfold kF; rw [if_pos (by omega)]
theorem kF2 (k : Nat) : kF (k * 4 + 2) = .u32 := by unfold kF; rw [if_neg (by omega)]
theorem kF3 (k : Nat) : kF (k * 4 + 3) = .u32 := by unfold kF; rw [if_neg (by omega)]
/-- Frames, flat: four numbers each. -/
def FAt (w : World) (a : Option Addr) (F : List Int) : Prop :=
  F = [] ∨ ∃ b off, a = some ⟨b, off, none⟩ ∧ b < w.heap.size ∧ ∀ i, i < F.length → w.cell? ⟨b, off + i, none⟩ = some (.int (kF i) (F.getD i 0))
theorem FAt.get {w : World} {a : Option Addr} {F : List Int} (h : FAt w a F) (hz : 0 < F.length) :
    ∃ b off, a = some ⟨b, off, none⟩ ∧ b < w.heap.size ∧ ∀ i, i < F.length → w.cell? ⟨b, off + i, none⟩ = some (.int (kF i) (F.getD i 0)) := by
  rcases h with h | h
  · simp [h] at hz
  · exact h
theorem FAt.below {w w' : World} {a : Option Addr} {F : List Int} (h : FAt w a F) (hb : Below w.heap.size w w') : FAt w' a F := by
  rcases h with h | ⟨b, off, rfl, hl, hc⟩
  · exact .inl h
  · exact .inr ⟨b, off, rfl, by have := hb.size; omega, fun i hi => by rw [hb.cell (p := ⟨b, off + i, none⟩) hl]; exact hc i hi⟩
theorem FAt.four {w : World} {b o : Nat} {F : List Int} (hc : ∀ i, i < F.length → w.cell? ⟨b, o + i, none⟩ = some (.int (kF i) (F.getD i 0))) (k : Nat) (hk : k * 4 + 3 < F.length) :
    w.cell? ⟨b, o + k * 4, none⟩ = some (.int .u32 (F.getD (k * 4) 0)) ∧ w.cell? ⟨b, o + k * 4 + 1, none⟩ = some (.int .i64 (F.getD (k * 4 + 1) 0)) ∧ w.cell? ⟨b, o + k * 4 + 2, none⟩ = some (.int .u32 (F.getD (k * 4 + 2) 0)) ∧ w.cell? ⟨b, o + k * 4 + 3, none⟩ = some (.int .u32 (F.getD (k * 4 + 3) 0)) := by
  have h0 := hc (k * 4) (by omega); have h1 := hc (k * 4 + 1) (by omega); have h2 := hc (k * 4 + 2) (by omega); have h3 := hc (k * 4 + 3) (by omega)
  rw [kF0] at h0; rw [kF1, ← Nat.add_assoc] at h1; rw [kF2, ← Nat.add_assoc] at h2; rw [kF3, ← Nat.add_assoc] at h3
  exact ⟨h0, h1, h2, h3⟩
def fC (F : List Int) : Array Value := ((List.range F.length).map (fun i => Value.int (kF i) (F.getD i 0))).toArray
theorem RowV.fat {w : World} {g : Nat} {t : TypeId} {F : List Int} (h : RowV w g t (fC F)) : FAt w (some ⟨g, 0, none⟩) F :=
  .inr ⟨g, 0, rfl, h.lt, fun i hi => by rw [Nat.zero_add, cell_of_row w g i _ _ _ h]; simp [fC, hi]⟩
theorem row_fullF {cur : Array Value} {F : List Int} {m : Nat} (hs : cur.size = m) (hl : F.length = m) (h : ∀ i, i < m → cur[i]? = some (.int (kF i) (F.getD i 0))) : cur = fC F := by
  apply Array.ext_getElem?
  intro i
  by_cases hi : i < m
  · rw [h i hi]; simp [fC, show i < F.length by omega]
  · rw [Array.getElem?_eq_none (by omega), Array.getElem?_eq_none (by simp [fC]; omega)]
theorem Try.infoFr : (Try.prog.info? 51).map (fun i => (i.zero, i.size, i.bytes)) = some (some (.agg #[.int .u32 0, .int .i64 0, .int .u32 0, .int .u32 0]), 4, 24) := by kernel_rfl
structure TF (w wr : World) (g n : Nat) (F : List Int) (k : Nat) : Prop where
  below : Below w.heap.size w wr
  blk : ∃ cur : Array Value, wr.heap[g]? = some (.cells cur 51 (0, 0)) ∧ cur.size = n * 4 ∧ ∀ i, i < k * 4 → cur[i]? = some (.int (kF i) (F.getD i 0))
theorem TF.step {w wr w1 : World} {g n : Nat} {F : List Int} {k : Nat} (h : TF w wr g n F k) (hk : k < n) (hg : w.heap.size ≤ g) (hb : Below wr.heap.size wr w1) :
    TF w (((((w1.setCell ⟨g, k * 4, none⟩ (.int .u32 (F.getD (k * 4) 0))).setCell ⟨g, k * 4 + 1, none⟩ (.int .i64 (F.getD (k * 4 + 1) 0))).setCell ⟨g, k * 4 + 2, none⟩ (.int .u32 (F.getD (k * 4 + 2) 0))).setCell ⟨g, k * 4 + 3, none⟩ (.int .u32 (F.getD (k * 4 + 3) 0)))) g n F (k + 1) := by
  obtain ⟨cur, h1, h2, h3⟩ := h.blk
  have hgl := (Array.getElem?_eq_some_iff.1 h1).1
  have h1' : w1.heap[g]? = some (.cells cur 51 (0, 0)) := by rw [hb.block g hgl]; exact h1
  have e1 := heap_setCell_same w1 g (k * 4) _ _ (.int .u32 (F.getD (k * 4) 0)) h1'
  have e2 := heap_setCell_same _ g (k * 4 + 1) _ _ (.int .i64 (F.getD (k * 4 + 1) 0)) e1
  have e3 := heap_setCell_same _ g (k * 4 + 2) _ _ (.int .u32 (F.getD (k * 4 + 2) 0)) e2
  have e4 := heap_setCell_same _ g (k * 4 + 3) _ _ (.int .u32 (F.getD (k * 4 + 3) 0)) e3
  refine ⟨((((h.below.trans (hb.mono h.below.size)).setCell hg _).setCell hg _).setCell hg _).setCell hg _, ⟨_, e4, by simp [h2], fun i hi => ?_⟩⟩
  by_cases ed : i = k * 4 + 3
  · subst ed
    rw [Array.getElem?_setIfInBounds_self_of_lt (by simp; omega), kF3]
  rw [Array.getElem?_setIfInBounds_ne (by omega)]
  by_cases ec : i = k * 4 + 2
  · subst ec
    rw [Array.getElem?_setIfInBounds_self_of_lt (by simp; omega), kF2]
  rw [Array.getElem?_setIfInBounds_ne (by omega)]
  by_cases eb : i = k * 4 + 1
  · subst eb
    rw [Array.getElem?_setIfInBounds_self_of_lt (by simp; omega), kF1]
  rw [Array.getElem?_setIfInBounds_ne (by omega)]
  by_cases ea : i = k * 4
  · subst ea
    rw [Array.getElem?_setIfInBounds_self_of_lt (by omega), kF0]
  rw [Array.getElem?_setIfInBounds_ne (by omega)]
  exact h3 i (by omega)
set_option maxRecDepth 100000 in
set_option maxHeartbeats 1000000 in
theorem toFR_any (a : Option Addr) (n cap : Nat) (F : List Int) (w : World) (hl : F.length = n * 4) (hn : n ≤ 1048576) (ha : FAt w a F) :
    Calls Try.prog 35 #[.slice a n cap] w fun e w' => e = .returned (.slice (some ⟨w.heap.size, 0, none⟩) n n) ∧ RowV w' w.heap.size 51 (fC F) ∧ Below w.heap.size w w' := by
  obtain ⟨i0, hi, hz0, hz1, hz2⟩ := info_parts Try.infoFr
  have HI : Hid (i0.bytes = 24) := hz2
  have HLT : Hid (F.length = n * 4) := hl
  have HA : Hid (FAt w a F) := ha
  clear hz2 hl ha
  go_enter Try.func35, Try.ntmps35
  go_wp2_with (first
    | (at_make; refine wpList_make_full _ rfl _ _ 35 rfl w.heap.size 51 i0 (.agg #[.int .u32 0, .int .i64 0, .int .u32 0, .int .u32 0]) 4 Try.underlying35 hi hz0 hz1 _ _ _ _ n rfl rfl rfl rfl ?c1 ?c2 ?c3 ?_)
    | fail)
  case c1 => rw [HI.out]; omega
  case c2 => unfold maxLen; omega
  case c3 => exact Nat.le_refl _
  intro w1 hown hgrow
  have hb1 : Below w.heap.size w w1 := (Below.refl _ _).grown hgrow (Nat.le_refl _) (by simp)
  have hst : TF w w1 w.heap.size n F 0 := by
    obtain ⟨h1, ⟨h2, _⟩ | ⟨g', cap, cur, hv, hb, hh, hc, hm, hs, ht⟩⟩ := hown
    · cases h2
    · cases hv
      exact ⟨hb1, ⟨cur, hh, hs, fun i hi => by omega⟩⟩
  have HST : Hid (TF w w1 w.heap.size n F 0) := hst
  clear hown hgrow hb1 hst hi hz0 hz1
  go_wp2
  go_loopw [4] (fun i wr => ∃ k : Nat, k ≤ n ∧ i = .int .i64 k ∧ TF w wr w.heap.size n F k) (fun i _ => n - (intOf i).toNat)
  case atStart => exact ⟨0, Nat.zero_le _, rfl, HST.out⟩
  case round =>
    clear HST
    obtain ⟨k, hk, rfl, st⟩ := hrel
    by_cases hlt : k < n
    · have hlt' : (k : Int) < n := by omega
      obtain ⟨b, off, ea, hb, hc⟩ := (HA.out.below st.below).get (by have := HLT.out; omega)
      obtain ⟨t0, t1, t2, t3⟩ := FAt.four hc k (by have := HLT.out; omega)
      subst ea
      obtain ⟨cur, c1, c2, c3⟩ := st.blk
      have hgl := (Array.getElem?_eq_some_iff.1 c1).1
      have HC1 : Hid (wr.heap[w.heap.size]? = some (.cells cur 51 (0, 0))) := c1
      have HSP : Hid (∀ w1, Below wr.heap.size wr w1 → TF w (((((w1.setCell ⟨w.heap.size, k * 4, none⟩ (.int .u32 (F.getD (k * 4) 0))).setCell ⟨w.heap.size, k * 4 + 1, none⟩ (.int .i64 (F.getD (k * 4 + 1) 0))).setCell ⟨w.heap.size, k * 4 + 2, none⟩ (.int .u32 (F.getD (k * 4 + 2) 0))).setCell ⟨w.heap.size, k * 4 + 3, none⟩ (.int .u32 (F.getD (k * 4 + 3) 0)))) w.heap.size n F (k + 1)) := fun w1 hb => st.step hlt (Nat.le_refl _) hb
      clear hc hb c3 st c1
      generalize F.getD (k * 4) 0 = s at *
      generalize F.getD (k * 4 + 1) 0 = m at *
      generalize F.getD (k * 4 + 2) 0 = x at *
      generalize F.getD (k * 4 + 3) 0 = y at *
      go_wp2_with fail
      refine (toFr_any s m x y wr).mono ?_
      rintro e w2 ⟨rfl, hb2⟩
      have k1 : w2.heap[w.heap.size]? = some (.cells cur 51 (0, 0)) := by rw [hb2.block _ hgl]; exact HC1.out
      have d0 : w2.cell? ⟨w.heap.size, k * 4, none⟩ = some (cur[k * 4]'(by omega)) := by rw [cell_of_row w2 _ _ _ _ _ k1]; simp
      have d1 : w2.cell? ⟨w.heap.size, k * 4 + 1, none⟩ = some (cur[k * 4 + 1]'(by omega)) := by rw [cell_of_row w2 _ _ _ _ _ k1]; simp
      have d2 : w2.cell? ⟨w.heap.size, k * 4 + 2, none⟩ = some (cur[k * 4 + 2]'(by omega)) := by rw [cell_of_row w2 _ _ _ _ _ k1]; simp
      have d3 : w2.cell? ⟨w.heap.size, k * 4 + 3, none⟩ = some (cur[k * 4 + 3]'(by omega)) := by rw [cell_of_row w2 _ _ _ _ _ k1]; simp
      have f0 := frozen_of_row w2 w.heap.size (k * 4) _ _ k1
      have f1 := frozen_of_row w2 w.heap.size (k * 4 + 1) _ _ k1
      have f2 := frozen_of_row w2 w.heap.size (k * 4 + 2) _ _ k1
      have f3 := frozen_of_row w2 w.heap.size (k * 4 + 3) _ _ k1
      generalize (cur[k * 4]'(by omega)) = o0 at *
      generalize (cur[k * 4 + 1]'(by omega)) = o1 at *
      generalize (cur[k * 4 + 2]'(by omega)) = o2 at *
      generalize (cur[k * 4 + 3]'(by omega)) = o3 at *
      have HEN : Hid (TF w (((((w2.setCell ⟨w.heap.size, k * 4, none⟩ (.int .u32 s)).setCell ⟨w.heap.size, k * 4 + 1, none⟩ (.int .i64 m)).setCell ⟨w.heap.size, k * 4 + 2, none⟩ (.int .u32 x)).setCell ⟨w.heap.size, k * 4 + 3, none⟩ (.int .u32 y))) w.heap.size n F (k + 1)) := HSP.out w2 hb2
      clear k1 hb2 t0 t1 t2 t3 HSP HC1
      go_wp2
      go_roundw
      case rel => exact ⟨k + 1, by omega, by go_num, HEN.out⟩
      case measure => simp [intOf]; omega
    · have hkn : k = n := by omega
      have hlt' : ¬ ((k : Int) < n) := by omega
      have HM : Hid (RowV wr w.heap.size 51 (fC F) ∧ Below w.heap.size w wr) := by
        obtain ⟨cur, c1, c2, c3⟩ := st.blk
        refine ⟨?_, st.below⟩
        unfold RowV
        rw [c1, row_fullF c2 HLT.out (fun i hi => c3 i (by omega))]
      clear st
      go_wp2
      go_ret
      exact ⟨rfl, HM.out.1, HM.out.2⟩
set_option maxHeartbeats 400000 in
theorem eqF1_any (s m x y : Int) (w : World) : Calls Try.prog 78 #[.agg #[.int .u32 s, .int .i64 m, .int .u32 x, .int .u32 y], .agg #[.int .u32 s, .int .i64 m, .int .u32 x, .int .u32 y]] w fun e w' => e = .returned (.bool true) ∧ Below w.heap.size w w' := by
  have HB : Hid (Below w.heap.size w ((w.alloc (.cells #[.int .u32 s, .int .i64 m, .int .u32 x, .int .u32 y] 51)).alloc (.cells #[.int .u32 s, .int .i64 m, .int .u32 x, .int .u32 y] 51))) := ((Below.refl _ _).alloc (Nat.le_refl _) _).alloc (by simp) _
  go_enter Try.func78, Try.ntmps78
  go_wp2
  go_ret
  exact ⟨rfl, HB.out⟩
set_option maxRecDepth 100000 in
set_option maxHeartbeats 2000000 in
theorem eqFS_any (a a' : Option Addr) (n c c' : Nat) (F : List Int) (w : World) (hl : F.length = n * 4) (hn : n ≤ 1048576) (ha : FAt w a F) (ha' : FAt w a' F) :
    Calls Try.prog 37 #[.slice a n c, .slice a' n c'] w fun e w' => e = .returned (.bool true) ∧ Below w.heap.size w w' := by
  have h0 : ((n : Int) != (n : Int)) = false := by simp
  have HLT : Hid (F.length = n * 4) := hl
  have HA : Hid (FAt w a F) := ha
  have HA' : Hid (FAt w a' F) := ha'
  clear hl ha ha'
  go_enter Try.func37, Try.ntmps37
  go_wp2
  go_loopw [5] (fun i wr => ∃ k : Nat, k ≤ n ∧ i = .int .i64 k ∧ Below w.heap.size w wr) (fun i _ => n - (intOf i).toNat)
  case atStart => exact ⟨0, Nat.zero_le _, rfl, Below.refl _ _⟩
  case round =>
    obtain ⟨k, hk, rfl, hbel⟩ := hrel
    have HB : Hid (Below w.heap.size w wr) := hbel
    by_cases hlt : k < n
    · have hlt' : (k : Int) < n := by omega
      obtain ⟨b, o, ea, hb, hc⟩ := (HA.out.below hbel).get (by have := HLT.out; omega)
      obtain ⟨b', o', ea', hb', hc'⟩ := (HA'.out.below hbel).get (by have := HLT.out; omega)
      obtain ⟨t0, t1, t2, t3⟩ := FAt.four hc k (by have := HLT.out; omega)
      obtain ⟨u0, u1, u2, u3⟩ := FAt.four hc' k (by have := HLT.out; omega)
      subst ea ea'
      clear hc hc' hbel
      generalize F.getD (k * 4) 0 = s at *
      generalize F.getD (k * 4 + 1) 0 = m at *
      generalize F.getD (k * 4 + 2) 0 = x at *
      generalize F.getD (k * 4 + 3) 0 = y at *
      have HC1 : Hid (b < wr.heap.size ∧ wr.cell? ⟨b, o + k * 4, none⟩ = some (.int .u32 s) ∧ wr.cell? ⟨b, o + k * 4 + 1, none⟩ = some (.int .i64 m) ∧ wr.cell? ⟨b, o + k * 4 + 2, none⟩ = some (.int .u32 x) ∧ wr.cell? ⟨b, o + k * 4 + 3, none⟩ = some (.int .u32 y)) := ⟨hb, t0, t1, t2, t3⟩
      have HC2 : Hid (b' < wr.heap.size ∧ wr.cell? ⟨b', o' + k * 4, none⟩ = some (.int .u32 s) ∧ wr.cell? ⟨b', o' + k * 4 + 1, none⟩ = some (.int .i64 m) ∧ wr.cell? ⟨b', o' + k * 4 + 2, none⟩ = some (.int .u32 x) ∧ wr.cell? ⟨b', o' + k * 4 + 3, none⟩ = some (.int .u32 y)) := ⟨hb', u0, u1, u2, u3⟩
      clear hb hb' t0 t1 t2 t3 u0 u1 u2 u3
      go_wp2_with fail
      refine wp_region_any (by kernel_rfl) ?_
      refine wpAny_slotsU (fun _ a b => Below a.heap.size a b) (frame := (fun (c0 c1 c2 c3 c4 c5 c6 c7 c8 c9 c10 c11 c12 c13 c14 c15 c16 : Value) => fun (t : Nat → Value) => ({ tmps := List.toArray (c0 :: c1 :: c2 :: c3 :: c4 :: c5 :: c6 :: c7 :: c8 :: c9 :: c10 :: c11 :: c12 :: c13 :: c14 :: c15 :: c16 :: t 0 :: t 1 :: t 2 :: t 3 :: t 4 :: t 5 :: t 6 :: t 7 :: t 8 :: t 9 :: []), defers := [] } : Act)) _ _ _ _ _ _ _ _ _ _ _ _ _ _ _ _ _)
        (Ext := fun L u w' => ApX wr [] L u w') (Good := fun i L w' v => if i = 0 then v = .slice (some ⟨b, o, none⟩) n c else if i = 1 then v = .int .i64 k else if i = 2 then v = .pointer (some ⟨b, o + k * 4, none⟩) else if i = 3 then v = .agg #[.int .u32 s, .int .i64 m, .int .u32 x, .int .u32 y] else if i = 4 then v = .slice (some ⟨b', o', none⟩) n c' else if i = 5 then v = .int .i64 k else if i = 6 then v = .pointer (some ⟨b', o' + k * 4, none⟩) else if i = 7 then v = .agg #[.int .u32 s, .int .i64 m, .int .u32 x, .int .u32 y] else if i = 8 then v = .bool true else if i = 9 then v = .bool false else True) ?hstab (by kernel_rfl) ?hop ?hdone _ _ ((fun (x0 x1 x2 x3 x4 x5 x6 x7 x8 x9 : Value) => fun (i : Nat) => if i = 0 then x0 else if i = 1 then x1 else if i = 2 then x2 else if i = 3 then x3 else if i = 4 then x4 else if i = 5 then x5 else if i = 6 then x6 else if i = 7 then x7 else if i = 8 then x8 else if i = 9 then x9 else undef) _ _ _ _ _ _ _ _ _ _) _ (by simp) ?ext ?start (by simp)
      case start => intro i hi h; exact absurd h (by rw [Array.getD_eq_getD_getElem?, Array.getElem?_replicate]; split <;> simp)
      case ext => exact (ApX.start wr [] _ _ (fun i => by rw [Array.getD_eq_getD_getElem?, Array.getElem?_replicate]; split <;> rfl)).drew
      case hstab =>
        intro j L w9 w' i v hM _ _ h
        exact h
      case hop =>
        intro i o L t w' ho hLi hx hdep K hK
        have hi : i < 10 := (Array.getElem?_eq_some_iff.1 ho).1
        obtain rfl | rfl | rfl | rfl | rfl | rfl | rfl | rfl | rfl | rfl : i = 0 ∨ i = 1 ∨ i = 2 ∨ i = 3 ∨ i = 4 ∨ i = 5 ∨ i = 6 ∨ i = 7 ∨ i = 8 ∨ i = 9 := by omega
        all_goals (simp at ho; subst ho)
        · clear hdep
          have hK' := hK w' (.slice (some ⟨b, o, none⟩) n c) (by simp) (hx.step 0 _ (Below.refl _ _) (fun h => absurd h (by decide))) (Below.refl _ _)
          clear hK
          rw [if_pos (by rfl)]
          go_simp
          simpa [upd] using hK'
        · clear hdep
          have hK' := hK w' (.int .i64 k) (by simp) (hx.step 1 _ (Below.refl _ _) (fun h => absurd h (by decide))) (Below.refl _ _)
          clear hK
          rw [if_pos (by rfl)]
          go_simp
          simpa [upd] using hK'
        · have d0 : t 0 = .slice (some ⟨b, o, none⟩) n c := by simpa using hdep ⟨0, .data⟩ (by simp) rfl
          have d1 : t 1 = .int .i64 k := by simpa using hdep ⟨1, .data⟩ (by simp) rfl
          clear hdep
          have hK' := hK w' (.pointer (some ⟨b, o + k * 4, none⟩)) (by simp) (hx.step 2 _ (Below.refl _ _) (fun h => absurd h (by decide))) (Below.refl _ _)
          clear hK
          rw [if_pos (by rfl)]
          go_simp
          simpa [upd, d0, d1] using hK'
        · have d2 : t 2 = .pointer (some ⟨b, o + k * 4, none⟩) := by simpa using hdep ⟨2, .data⟩ (by simp) rfl
          clear hdep
          have q0 : w'.cell? ⟨b, o + k * 4, none⟩ = some (.int .u32 s) := by rw [hx.below.cell (p := ⟨b, o + k * 4, none⟩) HC1.out.1]; exact HC1.out.2.1
          have q1 : w'.cell? ⟨b, o + k * 4 + 1, none⟩ = some (.int .i64 m) := by rw [hx.below.cell (p := ⟨b, o + k * 4 + 1, none⟩) HC1.out.1]; exact HC1.out.2.2.1
          have q2 : w'.cell? ⟨b, o + k * 4 + 2, none⟩ = some (.int .u32 x) := by rw [hx.below.cell (p := ⟨b, o + k * 4 + 2, none⟩) HC1.out.1]; exact HC1.out.2.2.2.1
          have q3 : w'.cell? ⟨b, o + k * 4 + 3, none⟩ = some (.int .u32 y) := by rw [hx.below.cell (p := ⟨b, o + k * 4 + 3, none⟩) HC1.out.1]; exact HC1.out.2.2.2.2
          have hK' := hK w' (.agg #[.int .u32 s, .int .i64 m, .int .u32 x, .int .u32 y]) (by simp) (hx.step 3 _ (Below.refl _ _) (fun h => absurd h (by decide))) (Below.refl _ _)
          clear hK
          rw [if_pos (by rfl)]
          go_simp
          simpa [upd, d2] using hK'
        · clear hdep
          have hK' := hK w' (.slice (some ⟨b', o', none⟩) n c') (by simp) (hx.step 4 _ (Below.refl _ _) (fun h => absurd h (by decide))) (Below.refl _ _)
          clear hK
          rw [if_pos (by rfl)]
          go_simp
          simpa [upd] using hK'
        · clear hdep
          have hK' := hK w' (.int .i64 k) (by simp) (hx.step 5 _ (Below.refl _ _) (fun h => absurd h (by decide))) (Below.refl _ _)
          clear hK
          rw [if_pos (by rfl)]
          go_simp
          simpa [upd] using hK'
        · have d4 : t 4 = .slice (some ⟨b', o', none⟩) n c' := by simpa using hdep ⟨4, .data⟩ (by simp) rfl
          have d5 : t 5 = .int .i64 k := by simpa using hdep ⟨5, .data⟩ (by simp) rfl
          clear hdep
          have hK' := hK w' (.pointer (some ⟨b', o' + k * 4, none⟩)) (by simp) (hx.step 6 _ (Below.refl _ _) (fun h => absurd h (by decide))) (Below.refl _ _)
          clear hK
          rw [if_pos (by rfl)]
          go_simp
          simpa [upd, d4, d5] using hK'
        · have d6 : t 6 = .pointer (some ⟨b', o' + k * 4, none⟩) := by simpa using hdep ⟨6, .data⟩ (by simp) rfl
          clear hdep
          have q0 : w'.cell? ⟨b', o' + k * 4, none⟩ = some (.int .u32 s) := by rw [hx.below.cell (p := ⟨b', o' + k * 4, none⟩) HC2.out.1]; exact HC2.out.2.1
          have q1 : w'.cell? ⟨b', o' + k * 4 + 1, none⟩ = some (.int .i64 m) := by rw [hx.below.cell (p := ⟨b', o' + k * 4 + 1, none⟩) HC2.out.1]; exact HC2.out.2.2.1
          have q2 : w'.cell? ⟨b', o' + k * 4 + 2, none⟩ = some (.int .u32 x) := by rw [hx.below.cell (p := ⟨b', o' + k * 4 + 2, none⟩) HC2.out.1]; exact HC2.out.2.2.2.1
          have q3 : w'.cell? ⟨b', o' + k * 4 + 3, none⟩ = some (.int .u32 y) := by rw [hx.below.cell (p := ⟨b', o' + k * 4 + 3, none⟩) HC2.out.1]; exact HC2.out.2.2.2.2
          have hK' := hK w' (.agg #[.int .u32 s, .int .i64 m, .int .u32 x, .int .u32 y]) (by simp) (hx.step 7 _ (Below.refl _ _) (fun h => absurd h (by decide))) (Below.refl _ _)
          clear hK
          rw [if_pos (by rfl)]
          go_simp
          simpa [upd, d6] using hK'
        · have d3 : t 3 = .agg #[.int .u32 s, .int .i64 m, .int .u32 x, .int .u32 y] := by simpa using hdep ⟨3, .data⟩ (by simp) rfl
          have d7 : t 7 = .agg #[.int .u32 s, .int .i64 m, .int .u32 x, .int .u32 y] := by simpa using hdep ⟨7, .data⟩ (by simp) rfl
          clear hdep
          have A := eqF1_any s m x y w'
          have hK' : ∀ ww, Below w'.heap.size w' ww → K _ ww := fun ww hb => hK ww (.bool true) (by simp) (hx.step 8 _ hb (fun h => absurd h (by decide))) hb
          clear hK
          rw [if_pos (by rfl)]
          go_simp
          try simp only [d3, d7]
          refine A.mono ?_
          rintro e w9 ⟨rfl, hb9⟩
          have hK2 := hK' w9 hb9
          clear hK' A hb9
          go_simp
          simpa [upd, d3, d7] using hK2
        · have d8 : t 8 = .bool true := by simpa using hdep ⟨8, .data⟩ (by simp) rfl
          clear hdep
          have hK' := hK w' (.bool false) (by simp) (hx.step 9 _ (Below.refl _ _) (fun h => absurd h (by decide))) (Below.refl _ _)
          clear hK
          rw [if_pos (by rfl)]
          go_simp
          simpa [upd, d8] using hK'
      case hdone =>
        intro L t w' hx hg
        have d9 : t 9 = .bool false := by simpa using hg 9 (by decide)
        clear hg
        have HBW : Hid (Below w.heap.size w w') := HB.out.trans (hx.below.mono HB.out.size)
        simp only [d9]
        clear hx d9
        go_wp2
        go_roundw
        case rel => exact ⟨k + 1, by omega, by go_num, HBW.out⟩
        case measure => simp [intOf]; omega
    · have hlt' : ¬ ((k : Int) < n) := by omega
      clear hbel
      go_wp2
      go_ret
      exact ⟨rfl, HB.out⟩
set_option maxHeartbeats 400000 in
theorem szF_any (a : Option Addr) (n cap : Nat) (left : Int) (w : World) (h0 : 0 ≤ left) (h1 : left ≤ 1048576) (hn : n ≤ 9223372036854775807) :
    Calls Try.prog 33 #[.slice a n cap, .int .i64 left] w fun e w' => e = .returned (.int .i64 (szQ left n)) ∧ w' = w := by
  have HZ : Hid (szQ left n = if left < n then -1 else left - n) := rfl
  by_cases h : left < n
  · have t : left - (n : Int) < 0 := by omega
    go_enter Try.func33, Try.ntmps33
    go_wp2
    go_ret
    exact ⟨ret_int (by rw [HZ.out, if_pos h]), rfl⟩
  · have t : ¬ (left - (n : Int) < 0) := by omega
    go_enter Try.func33, Try.ntmps33
    go_wp2
    go_ret
    exact ⟨ret_int (by rw [HZ.out, if_neg (by omega)]), rfl⟩
end Go.Proofs.Ythghkfncpdnpoad
