/-
  Own work: drawn scalars: l1Some, l4ScalarOf, l4Edge, DrawScalarOk: some bytes.
-/
import Derived.Test.YtdaglofgioehhaaDraw
import Derived.Test.YtdaglofgioehhaaMVal
namespace Go.Proofs.Ytdaglofgioehhaa
open Go.ChangeShapes Go.WideShapes Go.ChangeAt Go.RowKit
set_option linter.unusedVariables false

theorem WrG.bel {g : Nat} {w wr w' : World} (h : WrG g w wr) (hb : Below w.heap.size wr w') : WrG g w w' :=
  ⟨hb.os.trans h.os, hb.tape.trans h.tape, hb.output.trans h.output, Nat.le_trans h.size hb.size, fun k hk hg => (hb.block k hk).trans (h.block k hk hg)⟩
theorem CurB.keepE {w w' : World} {g : Nat} {x : Option Addr} {n cap : Nat} (h : CurB w g x n cap) (hb : w'.heap[g]? = w.heap[g]?) : CurB w' g x n cap := by
  obtain ⟨i0, h0, p1, p2, p3, p4, p5⟩ := h
  exact ⟨i0, h0, p1, p2, p3, p4, by rw [hb]; exact p5⟩
theorem Own.keepE {w w' : World} {B : Nat} {v : Value} {zs : List Int} (h : Own w B v zs) (hk : ∀ k, B ≤ k → k < w.heap.size → w'.heap[k]? = w.heap[k]?) : Own w' B v zs := by
  refine ⟨⟨h.1.1, ?_⟩, h.2⟩
  rcases h.1.2 with h' | ⟨g', c', cur, h', hBg, hh, r⟩
  · exact .inl h'
  · exact .inr ⟨g', c', cur, h', hBg, by rw [hk g' hBg (Array.getElem?_eq_some_iff.1 hh).1]; exact hh, r⟩
theorem Own.monoE {w : World} {B B' : Nat} {v : Value} {zs : List Int} (h : Own w B v zs) (hB : B' ≤ B) : Own w B' v zs := by
  refine ⟨⟨h.1.1, ?_⟩, h.2⟩
  rcases h.1.2 with h' | ⟨g', c', cur, h', hBg, hh, r⟩
  · exact .inl h'
  · exact .inr ⟨g', c', cur, h', Nat.le_trans hB hBg, hh, r⟩
theorem byte_app1 {zs : List Int} (hz : Byte zs) {x : Int} (hx : 0 ≤ x ∧ x < 256) : Byte (zs ++ [x]) := fun v hv => by
  rcases List.mem_append.1 hv with h | h
  · exact hz v h
  · rw [List.mem_singleton] at h; rw [h]; exact hx
theorem hid_ofE {p : Prop} (h : p) : Hid p := h
/-- Some m bytes of the call's own. -/
def SomePost (w : World) (g : Nat) (x : Option Addr) (n cap m : Nat) (e : Ending) (w' : World) : Prop :=
  ∃ v zs, e = .returned v ∧ Own w' w.heap.size v zs ∧ Byte zs ∧ zs.length = m ∧ CurB w' g x n cap ∧ WrG g w w'

set_option maxHeartbeats 1000000 in
theorem some_any (g : Nat) (x : Option Addr) (n cap m : Nat) (w : World) (hc : CurB w g x n cap) (ht : CurT w g x n) (hg : g < w.heap.size) (hm : m ≤ 1000) :
    Calls Try.prog 52 #[.pointer (some ⟨g, 0, none⟩), .int .i64 m] w (SomePost w g x n cap m) := by
  go_enter Try.func52, Try.ntmps52
  go_wp2
  go_loopw [5, 6] (fun v i wr => ∃ (k : Nat) (zs : List Int), k ≤ m ∧ i = .int .i64 k ∧ zs.length = k ∧ Byte zs ∧ Own wr w.heap.size v zs ∧ CurB wr g x n cap ∧ WrG g w wr) (fun _ i _ => m - (intOf i).toNat)
  case atStart =>
    have hb0 := (Below.refl w.heap.size w).alloc (Nat.le_refl _) (.cells #[] 5)
    exact ⟨0, [], Nat.zero_le _, rfl, rfl, (fun v hv => by cases hv), Own.empty _ _ (Nat.le_refl _), hc.keepE (hb0.block g hg), WrG.of_below hb0⟩
  case round =>
    obtain ⟨k, zs, hk, rfl, hl, hz, hown, hcu, hwr⟩ := hrel
    have ht1 := ht.wr (fun j hj => hwr.block j (by omega) (by omega))
    by_cases hlt : k < m
    · have hsz := hwr.size
      go_wp2_with fail
      refine (byte_any g x n cap _ hcu ht1).mono ?_
      rintro e w1 ⟨y, rfl, hy0, hy1, hc1, hw1⟩
      have hown1 := hown.keepE (w' := w1) (fun k hk _ => hw1.block k (by omega))
      have hwr1 := hwr.trans hw1.wrG
      have hsz1 := hwr1.size
      have ey : IntKind.u8.wrap y = y := by rw [IntKind.wrap_u8]; omega
      clear hown hcu hwr hw1 ht1 ht hc
      go_wp2_with (at_builtin; refine wpList_app _ rfl _ _ rfl w.heap.size _ _ rfl (hown1.alloc _) ⟨w1.heap.size, 0, none⟩ 1 1 [y] rfl rfl ?c1 ?c2 ?c3 ?_)
      all_goals first | (intro j hj; obtain rfl : j = 0 := by omega
                         simp [Addr.add]; done) | skip
      case c2 => simp; omega
      case c3 => first | omega | (rw [World.size_alloc]; omega)
      intro v' w2 hown2 hb2 _
      have hb3 : Below w.heap.size w1 w2 := ((Below.refl _ _).alloc hsz1 _).trans hb2
      have HO := hid_ofE (And.intro hown2 (And.intro (hc1.keepE (hb3.block g hg)) (hwr1.bel hb3)))
      clear hown1 hown2 hc1 hwr1 hb2 hb3
      go_wp2
      go_roundw
      case rel => exact ⟨k + 1, zs ++ [y], by omega, by go_num, by simp; omega, byte_app1 hz (by omega), HO.out.1, HO.out.2.1, HO.out.2.2⟩
      case measure => simp [intOf]; omega
    · have hkn : k = m := by omega
      subst hkn
      go_wp2
      go_ret
      exact ⟨_, zs, rfl, hown, hz, hl, hcu, hwr⟩

theorem Own.setE {w : World} {B g c n : Nat} {zs : List Int} (hn : zs.length = n) (h : Own w B (.slice (some ⟨g, 0, none⟩) n c) zs) (i : Nat) (x : Int) (hi : i < n) :
    w.cell? ⟨g, i, none⟩ = some (.int .u8 (zs.getD i 0)) ∧ w.frozen? ⟨g, i, none⟩ = false ∧ Own (w.setCell ⟨g, i, none⟩ (.int .u8 x)) B (.slice (some ⟨g, 0, none⟩) n c) (zs.set i x) := by
  subst hn
  refine ⟨?_, h.1.frozenAt i, ?_, ?_⟩
  · rw [h.1.cellAt i (by omega)]; simp [hi]
  · have := (h.1.stored i (.int .u8 x)).1
    rw [← List.map_set] at this
    rw [List.length_set]; exact this
  · rw [List.length_set]; exact ⟨_, _, rfl⟩
theorem byte_setE {zs : List Int} (hz : Byte zs) (i : Nat) {y : Int} (hy : 0 ≤ y ∧ y < 256) : Byte (zs.set i y) := fun v hv => by
  rcases List.mem_or_eq_of_mem_set hv with h | h
  · exact hz v h
  · rw [h]; exact hy
theorem below_setE {w : World} {B q i : Nat} {v : Value} (h : B ≤ q) : Below B w (w.setCell ⟨q, i, none⟩ v) :=
  ⟨rfl, rfl, rfl, by simp only [World.setCell, Array.size_modify]; exact Nat.le_refl _, fun k hk => heap_setCell_other _ _ _ _ (by show k ≠ q; omega)⟩
theorem getD_byteE {zs : List Int} (hz : Byte zs) (i : Nat) : 0 ≤ zs.getD i 0 ∧ zs.getD i 0 < 256 := by
  by_cases h : i < zs.length
  · rw [show zs.getD i 0 = zs[i] from by simp [h]]; exact hz _ (List.getElem_mem h)
  · rw [show zs.getD i 0 = 0 from by simp [h]]; decide
set_option maxHeartbeats 1000000 in
theorem scOf_any (x : Int) (w : World) (hx0 : 0 ≤ x) (hx1 : x ≤ 1000) :
    Calls Try.prog 51 #[.int .i64 x] w (fun e w' => ∃ v zs, e = .returned v ∧ Own w' w.heap.size v zs ∧ Byte zs ∧ zs.length = 32 ∧ val 256 zs = x ∧ Below w.heap.size w w') := by
  go_enter Try.func51, Try.ntmps51
  go_wp2
  go_loopw [3] (fun v wr => ∃ k : Nat, k ≤ 30 ∧ Own wr w.heap.size v ([x % 256, x / 256 % 256] ++ List.replicate k 0) ∧ Below w.heap.size w wr) (fun v _ => match v with | .slice _ n _ => 32 - n | _ => 0)
  case atStart => exact ⟨0, by omega, Own.lit w _ [x % 256, x / 256 % 256] (Nat.le_refl _) (by simp), (Below.refl _ _).alloc (Nat.le_refl _) _⟩
  case round =>
    obtain ⟨k, hk, hown, hbel⟩ := hrel
    obtain ⟨gq, c, rfl, hq1, hq2, hq3⟩ := hown.base
    have hlen : ([x % 256, x / 256 % 256] ++ List.replicate k 0).length = k + 2 := by simp
    rw [hlen] at hown ⊢
    have hsz := hbel.size
    by_cases hlt : k < 30
    · have hlt' : ((k + 2 : Nat) : Int) < 32 := by omega
      go_wp2_with (at_builtin; refine wpList_app _ rfl _ _ rfl w.heap.size _ _ rfl (hown.alloc _) ⟨wr.heap.size, 0, none⟩ 1 1 [0] rfl rfl ?c1 ?c2 ?c3 ?_)
      all_goals first | (intro j hj; obtain rfl : j = 0 := by omega
                         simp [Addr.add]; done) | skip
      case c2 => simp; omega
      case c3 => first | omega | (rw [World.size_alloc]; omega)
      intro v' w1 hown' hbel' _
      have HO : Hid (Own w1 w.heap.size v' ([x % 256, x / 256 % 256] ++ List.replicate (k + 1) 0)) := by rw [List.replicate_succ', ← List.append_assoc]; exact hown'
      have HB : Hid (Below w.heap.size w w1) := (hbel.alloc (by omega) _).trans hbel'
      clear hown hown' hbel hbel'
      go_wp2
      go_roundw
      case rel => exact ⟨k + 1, by omega, HO.out, HB.out⟩
      case measure =>
        obtain ⟨gq', c', rfl, _⟩ := HO.out.base
        simp; omega
    · have hkn : k = 30 := by omega
      subst hkn
      go_wp2
      go_ret
      refine ⟨_, _, rfl, hown, ?_, rfl, ?_, hbel⟩
      · intro v hv
        rcases List.mem_append.1 hv with h | h
        · simp at h; omega
        · rw [List.mem_replicate] at h; omega
      · rw [show (30 : Nat) = 30 from rfl]; simp [val, List.replicate]; omega
set_option maxHeartbeats 1000000 in
theorem edge_any (g : Nat) (x : Option Addr) (n cap : Nat) (w : World) (hc : CurB w g x n cap) (ht : CurT w g x n) (hg : g < w.heap.size) :
    Calls Try.prog 32 #[.pointer (some ⟨g, 0, none⟩)] w (SomePost w g x n cap 32) := by
  go_enter Try.func32, Try.ntmps32
  go_wp2_with fail
  refine (l4L_any _).mono ?_
  rintro e w1 ⟨v1, rfl, O1, B1⟩
  obtain ⟨q, cq, rfl, hq, hq', hqc⟩ := O1.base
  have hc1 := hc.keepE (B1.block g hg)
  have ht1 := ht.wr (fun j hj => B1.block j (by omega))
  have hr1 := WrG.of_below (g := g) B1
  clear B1 hc ht
  go_wp2_with fail
  refine (below_any g x n cap 6 _ hc1 ht1 (by decide) (by decide)).mono ?_
  rintro e w2 ⟨k, rfl, hk0, hk1, hc2, hw2⟩
  have ht2 := ht1.wr (fun j hj => hw2.block j (by omega))
  have hr2 := hr1.trans hw2.wrG
  have O2 := O1.keepE (w' := w2) (fun k hk _ => hw2.block k (by omega))
  clear hc1 ht1 hr1 O1
  go_wp2_with fail
  refine (below_any g x n cap 4 _ hc2 ht2 (by decide) (by decide)).mono ?_
  rintro e w3 ⟨y, rfl, hy0, hy1, hc3, hw3⟩
  have ht3 := ht2.wr (fun j hj => hw3.block j (by omega))
  have hr3 := hr2.trans hw3.wrG
  have O3 := O2.keepE (w' := w3) (fun k hk _ => hw3.block k (by omega))
  have hq3 : q < w3.heap.size := by rw [hw3.size, hw2.size]; exact hq'
  have s3 := hr3.size
  clear hc2 ht2 hr2 O2 hw2 hw3
  have hl : lB.length = 32 := rfl
  rw [hl] at O3 hqc
  rw [hl]
  have c0 := (O3.setE hl 0 0 (by decide)).1
  have f0 := (O3.setE hl 0 0 (by decide)).2.1
  rw [show lB.getD 0 0 = 237 from rfl] at c0
  have HW := hid_ofE (And.intro O3 (And.intro hc3 (And.intro ht3 hr3)))
  clear O3 hc3 ht3 hr3
  rcases (show k = 0 ∨ k = 1 ∨ k = 2 ∨ k = 3 ∨ (k = 4 ∨ k = 5) by omega) with rfl | rfl | rfl | rfl | hk
  · go_wp2
    go_ret
    obtain ⟨O3, hc3, ht3, hr3⟩ := HW.out
    obtain ⟨_, _, q3⟩ := O3.setE hl 0 (237 + y - 2) (by decide)
    exact ⟨_, _, rfl, q3, byte_setE lB_byte 0 (by omega), by rw [List.length_set]; rfl, hc3.keepE (heap_setCell_other _ _ _ _ (by show g ≠ q; omega)), hr3.bel (below_setE hq)⟩
  · obtain ⟨O3, hc3, ht3, hr3⟩ := HW.out
    have HS := hid_ofE (scOf_any y w3 hy0 (by omega))
    clear HW
    go_wp2_with fail
    refine HS.out.mono ?_
    rintro e w4 ⟨v4, zs, rfl, O4, b4, l4, _, B4⟩
    clear HS
    go_wp2
    go_ret
    exact ⟨_, zs, rfl, O4.monoE s3, b4, l4, hc3.keepE (B4.block g (by omega)), hr3.trans (WrG.of_below B4)⟩
  · clear c0 f0
    go_wp2_with fail
    go_loopw [6] (fun i wr => ∃ (j : Nat) (zs : List Int), j ≤ 32 ∧ i = .int .i64 j ∧ zs.length = 32 ∧ Byte zs ∧ (0 < j → zs.getD 0 0 = 255) ∧ Own wr w.heap.size (.slice (some ⟨q, 0, none⟩) 32 cq) zs ∧ CurB wr g x n cap ∧ WrG g w wr) (fun i _ => 32 - (intOf i).toNat)
    case atStart => exact ⟨0, lB, by omega, rfl, rfl, lB_byte, by omega, HW.out.1, HW.out.2.1, HW.out.2.2.2⟩
    case round =>
      obtain ⟨j, zs, hj, rfl, hzl, hzb, hz0, hO, hcu, hwr⟩ := hrel
      clear HW
      by_cases hlt : j < 32
      · have hlt' : (j : Int) < 32 := by omega
        obtain ⟨c1, f1, q1⟩ := hO.setE hzl j 255 hlt
        have HQ := hid_ofE (And.intro q1 (And.intro (hcu.keepE (w' := wr.setCell ⟨q, j, none⟩ (.int .u8 255)) (heap_setCell_other _ _ _ _ (by show g ≠ q; omega))) (hwr.bel (below_setE (i := j) (v := .int .u8 255) hq))))
        clear q1 hO hcu hwr
        go_wp2
        go_roundw
        case rel =>
          refine ⟨j + 1, zs.set j 255, by omega, by go_num, by rw [List.length_set]; exact hzl, byte_setE hzb j (by omega), fun _ => ?_, HQ.out.1, HQ.out.2.1, HQ.out.2.2⟩
          cases j with
          | zero => cases zs with
            | nil => simp at hzl
            | cons a t => rfl
          | succ j => cases zs with
            | nil => simp at hzl
            | cons a t => exact hz0 (by omega)
        case measure => simp [intOf]; omega
      · have hjn : j = 32 := by omega
        subst hjn
        obtain ⟨c1, f1, q1⟩ := hO.setE hzl 0 (255 - y) (by decide)
        rw [hz0 (by decide)] at c1
        have HQ := hid_ofE (And.intro q1 (And.intro (hcu.keepE (w' := wr.setCell ⟨q, 0, none⟩ (.int .u8 (255 - y))) (heap_setCell_other _ _ _ _ (by show g ≠ q; omega))) (hwr.bel (below_setE (i := 0) (v := .int .u8 (255 - y)) hq))))
        clear q1 hO hcu hwr hz0
        go_wp2
        go_ret
        exact ⟨_, _, rfl, HQ.out.1, byte_setE hzb 0 (by omega), by rw [List.length_set]; exact hzl, HQ.out.2.1, HQ.out.2.2⟩
  · obtain ⟨O3, hc3, ht3, hr3⟩ := HW.out
    have HA := hid_ofE (below_any g x n cap 32 w3 hc3 ht3 (by decide) (by decide))
    clear hc3 ht3 c0 f0 HW
    go_wp2_with fail
    refine HA.out.mono ?_
    rintro e w4 ⟨k, rfl, hk0, hk1, hc4, hw4⟩
    clear HA
    obtain ⟨j, rfl⟩ := Int.eq_ofNat_of_zero_le hk0
    have hj : j < 32 := by omega
    have hj' : (j : Int) < 32 := by omega
    have O4 := O3.keepE (w' := w4) (fun k hk _ => hw4.block k (by omega))
    obtain ⟨c1, f1, q1⟩ := O4.setE hl j ((lB.getD j 0 - 1) % 256) hj
    have hz : 0 ≤ lB.getD j 0 ∧ lB.getD j 0 < 256 := getD_byteE lB_byte j
    have HQ := hid_ofE (And.intro q1 (And.intro (hc4.keepE (w' := w4.setCell ⟨q, j, none⟩ (.int .u8 ((lB.getD j 0 - 1) % 256))) (heap_setCell_other _ _ _ _ (by show g ≠ q; omega))) ((hr3.trans hw4.wrG).bel (below_setE (i := j) (v := .int .u8 ((lB.getD j 0 - 1) % 256)) hq))))
    clear q1 O3 O4 hc4 hr3 hw4
    generalize lB.getD j 0 = z at *
    go_wp2
    go_ret
    exact ⟨_, _, rfl, HQ.out.1, byte_setE lB_byte j (by omega), by rw [List.length_set]; rfl, HQ.out.2.1, HQ.out.2.2⟩
  · obtain ⟨O3, hc3, ht3, hr3⟩ := HW.out
    have hk3 : 3 < k := by omega
    have n0 : ¬ k = 0 := by omega
    have n1 : ¬ k = 1 := by omega
    have n2 : ¬ k = 2 := by omega
    have n3 : ¬ k = 3 := by omega
    have HS := hid_ofE (some_any g x n cap 32 w3 hc3 ht3 (by omega) (by decide))
    clear HW c0 f0
    go_wp2_with fail
    refine HS.out.mono ?_
    rintro e w4 ⟨v4, zs, rfl, O4, b4, l4, hc4, hr4⟩
    clear HS
    go_wp2
    go_ret
    exact ⟨_, zs, rfl, O4.monoE s3, b4, l4, hc4, hr3.trans hr4⟩
/-- A drawn scalar: 31 or 32 bytes. -/
def ScPost (w : World) (e : Ending) (w' : World) : Prop :=
  ∃ v zs, e = .returned v ∧ (zs.length = 31 ∨ zs.length = 32) ∧ Byte zs ∧ Own w' w.heap.size v zs ∧ Below w.heap.size w w'
theorem Own.cutE {w : World} {B q c n m : Nat} {zs : List Int} (hn : zs.length = n) (h : Own w B (.slice (some ⟨q, 0, none⟩) n c) zs) (hm : m ≤ n) : Own w B (.slice (some ⟨q, 0, none⟩) m c) (zs.take m) := by
  have hl : (zs.take m).length = m := by simp; omega
  refine ⟨⟨by simp, ?_⟩, by rw [hl]; exact ⟨_, _, rfl⟩⟩
  rcases h.1.2 with ⟨h', _⟩ | ⟨g', c', cur, h', hBg, hh, h1, h2, h3, h4⟩
  · cases h'
  · cases h'
    refine .inr ⟨q, c, cur, by rw [hl], hBg, hh, by omega, h2, h3, ?_⟩
    rw [hl, List.map_take, ← h4, List.take_take, Nat.min_eq_left (by omega), Nat.mul_one]
set_option maxHeartbeats 1000000 in
theorem drawSc_any (a : Option Addr) (n cap : Nat) (cs : List Int) (w : World) (hl : cs.length = n) (hn : n ≤ 1048576) (hz : Byte cs) (ha : At .u8 w a cs) :
    Calls Try.prog 13 #[.slice a n cap] w (ScPost w) := by
  go_enter Try.func13, Try.ntmps13
  go_wp2_with fail
  refine (new_any a n cap cs _ hl hn hz ha).mono ?_
  rintro e w1 ⟨rfl, hc1, B1, s1⟩
  have ht1 : CurT w1 w.heap.size a n := by
    refine ⟨hn, cs, hl, hz, ?_⟩
    rcases ha with h | ⟨b, off, e, hb, hcc⟩
    · exact .inl h
    · exact .inr ⟨b, off, e, hb, fun i hi => by rw [B1.cell (p := ⟨b, off + i, none⟩) hb]; exact hcc i hi⟩
  clear ha
  go_wp2_with fail
  refine (edge_any w.heap.size a n cap _ hc1 ht1 (by omega)).mono ?_
  rintro e w2 ⟨v2, zs, rfl, O2, b2, l2, hc2, hr2⟩
  have ht2 := ht1.wr (fun j hj => hr2.block j (by omega) (by omega))
  have B2 : Below w.heap.size w w2 := B1.trans (hr2.below _ (Nat.le_refl _) B1.size)
  clear hc1 ht1 B1 hr2
  obtain ⟨q, c, rfl, hq1, hq2, hq3⟩ := O2.base
  rw [l2] at O2 hq3
  rw [l2]
  go_wp2_with fail
  refine (once_any w.heap.size a n cap 15 _ hc2 ht2 (by decide) (by decide)).mono ?_
  rintro e w3 ⟨t, rfl, hc3, hw3⟩
  have O3 := hid_ofE ((O2.keepE (w' := w3) (fun k hk _ => hw3.block k (by omega))).monoE (show w.heap.size ≤ w1.heap.size by omega))
  have B3 := hid_ofE (B2.trans (hw3.below (Nat.le_refl _)))
  clear O2 hc2 ht2 B2 hc3 hw3
  have h31 : 31 ≤ c := by omega
  cases t with
  | true =>
    go_wp2
    go_ret
    exact ⟨_, zs.take 31, rfl, .inl (by simp; omega), fun v hv => b2 v (List.mem_of_mem_take hv), O3.out.cutE l2 (by decide), B3.out⟩
  | false =>
    go_wp2
    go_ret
    exact ⟨_, zs, rfl, .inr l2, b2, O3.out, B3.out⟩
end Go.Proofs.Ytdaglofgioehhaa
