/-
  Own work: devices held against one another, as the laws do it.
-/
import Derived.Test.YtiignammhieidaaDevTo
import Derived.Test.YtiignammhieidaaReg
namespace Go.Proofs.Ytiignammhieidaa
open Go.ChangeShapes Go.WideShapes Go.ChangeAt Go.RowKit
set_option linter.unusedVariables false

theorem below_drawn {B : Nat} {a w : World} (h : Below B a w) (n : Nat) : Below B a (w.drewN n) := ⟨h.os, h.tape, h.output, h.size, h.block⟩

set_option maxHeartbeats 400000 in
theorem eqP_any (s : Int) (x x' : Option Addr) (n c c' : Nat) (zs : List Int) (w : World) (hn : zs.length = n) (hm : n ≤ 1048576) (ha : At .u8 w x zs) (ha' : At .u8 w x' zs) :
    Calls Try.prog 43 #[.agg #[.int .i64 s, .slice x n c], .agg #[.int .i64 s, .slice x' n c']] w fun e w' => e = .returned (.bool true) ∧ Below w.heap.size w w' := by
  have e2 : (s != s) = false := by simp
  have hB := ((Below.refl w.heap.size w).alloc (Nat.le_refl _) (.cells #[.int .i64 s, .slice x n c] 44)).alloc (by simp) (.cells #[.int .i64 s, .slice x' n c'] 44)
  have A2 := ha.below hB
  have A2' := ha'.below hB
  have HB : Hid _ := hB
  clear hB
  go_enter Try.func43, Try.ntmps43
  go_wp2_with fail
  refine (eqB_any _ _ n _ _ zs _ hn hm A2 A2').mono ?_
  rintro e w1 ⟨rfl, q, rfl⟩
  clear A2 A2'
  go_wp2
  go_ret
  exact ⟨rfl, below_drawn HB.out _⟩

def GEq (b off b' off' k n cap cap' : Nat) (s : Int) (x x' : Option Addr) (m c c' : Nat) : Nat → World → Value → Prop
  | 0, _, v => v = .slice (some ⟨b, off, none⟩) n cap
  | 1, _, v => v = .int .i64 k
  | 2, _, v => v = .pointer (some ⟨b, off + k * 2, none⟩)
  | 3, _, v => v = .agg #[.int .i64 s, .slice x m c]
  | 4, _, v => v = .slice (some ⟨b', off', none⟩) n cap'
  | 5, _, v => v = .int .i64 k
  | 6, _, v => v = .pointer (some ⟨b', off' + k * 2, none⟩)
  | 7, _, v => v = .agg #[.int .i64 s, .slice x' m c']
  | 8, _, v => v = .bool true
  | _, _, v => v = .bool false
theorem GEq_mono (b off b' off' k n cap cap' : Nat) (s : Int) (x x' : Option Addr) (m c c' : Nat) (i : Nat) (w w' : World) (v : Value) (hm : Mono w w') (h : GEq b off b' off' k n cap cap' s x x' m c c' i w v) : GEq b off b' off' k n cap cap' s x x' m c c' i w' v := by
  unfold GEq at *
  split at h <;> exact h

set_option maxHeartbeats 400000 in
theorem eqPS_any (a a' : Option Addr) (n cap cap' : Nat) (ps : List PD) (w : World) (hl : ps.length = n) (hm : n ≤ 1048576) (ha : PAt w a ps) (ha' : PAt w a' ps) (hps : ∀ i, (ps.getD i (0, [])).2.length ≤ 1048576) :
    Calls Try.prog 31 #[.slice a n cap, .slice a' n cap'] w fun e w' => e = .returned (.bool true) ∧ Below w.heap.size w w' := by
  have h0 : ((n : Int) != (n : Int)) = false := by simp
  go_enter Try.func31, Try.ntmps31
  go_wp2
  go_loopw [5] (fun i wr => ∃ k : Nat, k ≤ n ∧ i = .int .i64 k ∧ Below w.heap.size w wr) (fun i _ => n - (intOf i).toNat)
  case atStart => exact ⟨0, Nat.zero_le _, rfl, Below.refl _ _⟩
  case round =>
    obtain ⟨k, hk, rfl, hbel⟩ := hrel
    by_cases hlt : k < n
    · obtain ⟨b, off, rfl, hb, hc⟩ := (ha.below hbel).get (by omega)
      obtain ⟨b', off', rfl, hb', hc'⟩ := (ha'.below hbel).get (by omega)
      obtain ⟨x, c, g1, g2, g3⟩ := hc k (by omega)
      obtain ⟨x', c', k1, k2, k3⟩ := hc' k (by omega)
      have hp := hps k
      generalize (ps.getD k (0, [])).1 = s at *
      generalize (ps.getD k (0, [])).2 = zs at *
      have hlt' : (k : Int) < (n : Int) := by omega
      clear hc hc' ha ha'
      have HG1 : Hid _ := And.intro g1 (And.intro g2 (And.intro k1 k2))
      clear g1 g2 k1 k2
      go_wp2
      refine wp_region_any (by kernel_rfl) ?_
      refine wpAny_slots (frame := fun t => { tmps := #[Value.slice (some { block := b, off := off }) n cap, Value.slice (some { block := b', off := off' }) n cap', undef, undef, u4, Value.int IntKind.i64 ↑k, Value.slice (some { block := b, off := off }) n cap, Value.int IntKind.i64 ↑n, Value.slice (some { block := b', off := off' }) n cap', Value.int IntKind.i64 ↑n, Value.bool false, Value.int IntKind.i64 ↑k, Value.slice (some { block := b, off := off }) n cap, Value.int IntKind.i64 ↑n, Value.bool true, u15, u16, t 0, t 1, t 2, t 3, t 4, t 5, t 6, t 7, t 8, t 9], defers := [] })
        (Ext := fun w' => Below wr.heap.size wr w') (Good := GEq b off b' off' k n cap cap' s x x' zs.length c c') (GEq_mono _ _ _ _ _ _ _ _ _ _ _ _ _ _) (by kernel_rfl) (by kernel_rfl) ?hop ?hdone _ _ (fun i => if i = 0 then u17 else if i = 1 then u18 else if i = 2 then u19 else if i = 3 then u20 else if i = 4 then u21 else if i = 5 then u22 else if i = 6 then u23 else if i = 7 then u24 else if i = 8 then u25 else u26) _ (by simp) ?ext ?start (by simp)
      case start => intro i hi h; exact absurd h (by rw [Array.getD_eq_getD_getElem?, Array.getElem?_replicate]; split <;> simp)
      case ext => exact (Below.refl _ _).drew
      case hdone =>
        intro t w' hx hg
        have h9 : t 9 = _ := hg 9 (by decide)
        clear hg
        rw [h9]
        have HX : Hid _ := hx
        clear hx
        go_wp2
        go_roundw
        case rel => exact ⟨k + 1, by omega, by go_num, hbel.trans (HX.out.mono hbel.size)⟩
        case measure => simp [intOf]; omega
      case hop =>
        intro i o t w' ho hx hdep K hK
        have hi : i < 10 := (Array.getElem?_eq_some_iff.1 ho).1
        obtain rfl | rfl | rfl | rfl | rfl | rfl | rfl | rfl | rfl | rfl : i = 0 ∨ i = 1 ∨ i = 2 ∨ i = 3 ∨ i = 4 ∨ i = 5 ∨ i = 6 ∨ i = 7 ∨ i = 8 ∨ i = 9 := by omega
        all_goals (simp at ho; subst ho)
        · clear hdep
          go_simp
          exact hK w' _ rfl hx (Mono.refl _)
        · clear hdep
          go_simp
          exact hK w' _ rfl hx (Mono.refl _)
        · have d0 : t 0 = _ := hdep ⟨0, .data⟩ (by simp) rfl
          have d1 : t 1 = _ := hdep ⟨1, .data⟩ (by simp) rfl
          clear hdep
          go_simp
          simpa [upd, d0, d1] using hK w' (.pointer (some ⟨b, off + k * 2, none⟩)) rfl hx (Mono.refl _)
        · have d2 : t 2 = _ := hdep ⟨2, .data⟩ (by simp) rfl
          clear hdep
          have q1 : w'.cell? ⟨b, off + k * 2, none⟩ = some (.int .i64 s) := by rw [hx.cell (p := ⟨b, off + k * 2, none⟩) hb]; exact HG1.out.1
          have q2 : w'.cell? ⟨b, off + k * 2 + 1, none⟩ = some (.slice x zs.length c) := by rw [hx.cell (p := ⟨b, off + k * 2 + 1, none⟩) hb]; exact HG1.out.2.1
          go_simp
          simpa [upd, d2] using hK w' (.agg #[.int .i64 s, .slice x zs.length c]) rfl hx (Mono.refl _)
        · clear hdep
          go_simp
          exact hK w' _ rfl hx (Mono.refl _)
        · clear hdep
          go_simp
          exact hK w' _ rfl hx (Mono.refl _)
        · have d0 : t 4 = _ := hdep ⟨4, .data⟩ (by simp) rfl
          have d1 : t 5 = _ := hdep ⟨5, .data⟩ (by simp) rfl
          clear hdep
          go_simp
          simpa [upd, d0, d1] using hK w' (.pointer (some ⟨b', off' + k * 2, none⟩)) rfl hx (Mono.refl _)
        · have d2 : t 6 = _ := hdep ⟨6, .data⟩ (by simp) rfl
          clear hdep
          have q1 : w'.cell? ⟨b', off' + k * 2, none⟩ = some (.int .i64 s) := by rw [hx.cell (p := ⟨b', off' + k * 2, none⟩) hb']; exact HG1.out.2.2.1
          have q2 : w'.cell? ⟨b', off' + k * 2 + 1, none⟩ = some (.slice x' zs.length c') := by rw [hx.cell (p := ⟨b', off' + k * 2 + 1, none⟩) hb']; exact HG1.out.2.2.2
          go_simp
          simpa [upd, d2] using hK w' (.agg #[.int .i64 s, .slice x' zs.length c']) rfl hx (Mono.refl _)
        · have d3 : t 3 = _ := hdep ⟨3, .data⟩ (by simp) rfl
          have d7 : t 7 = _ := hdep ⟨7, .data⟩ (by simp) rfl
          clear hdep
          go_simp
          refine (eqP_any s x x' zs.length c c' zs w' rfl hp (g3.below hx) (k3.below hx)).mono ?_
          rintro e w1 ⟨rfl, hb1⟩
          go_simp
          simpa [upd, d3, d7] using hK w1 (.bool true) rfl (hx.trans (hb1.mono hx.size)) (Mono.of_below hb1)
        · have d8 : t 8 = _ := hdep ⟨8, .data⟩ (by simp) rfl
          clear hdep
          go_simp
          simpa [upd, d8] using hK w' (.bool false) rfl hx (Mono.refl _)
    · go_wp2
      go_ret
      exact ⟨rfl, hbel⟩

set_option maxHeartbeats 400000 in
theorem eqD_any (v v' : Value) (zs : List Int) (ps : List PD) (f : Int) (d : Bool) (w : World) (h : DAt w v zs ps f d) (h' : DAt w v' zs ps f d) (hz : zs.length ≤ 1048576) (hn : ps.length ≤ 1048576) (hps : ∀ i, (ps.getD i (0, [])).2.length ≤ 1048576) :
    Calls Try.prog 10 #[v, v'] w fun e w' => e = .returned (.bool true) ∧ Below w.heap.size w w' := by
  obtain ⟨a, c, x, cx, rfl, hA, hP, _⟩ := h
  obtain ⟨a', c', x', cx', rfl, hA', hP', _⟩ := h'
  generalize hl : zs.length = L at *
  generalize hm : ps.length = m at *
  have e2 : (f != f) = false := by simp
  have e3 : (d != d) = false := by simp
  have e4 : (d == d) = true := by simp
  have hB := ((Below.refl w.heap.size w).alloc (Nat.le_refl _) (.cells #[.slice a L c, .slice x m cx, .int .i64 f, .bool d] 29)).alloc (by simp) (.cells #[.slice a' L c', .slice x' m cx', .int .i64 f, .bool d] 29)
  have A2 := hA.below hB
  have A2' := hA'.below hB
  have P2 := hP.below hB
  have P2' := hP'.below hB
  have HB : Hid _ := hB
  have HP : Hid _ := And.intro P2 P2'
  clear hB P2 P2' hA hA' hP hP'
  go_enter Try.func10, Try.ntmps10
  go_wp2_with fail
  refine (eqB_any _ _ L _ _ zs _ hl hz A2 A2').mono ?_
  rintro e w1 ⟨rfl, q, rfl⟩
  clear A2 A2'
  go_wp2_with fail
  have hD : ∀ ww : World, Below ww.heap.size ww (ww.drewN q) := fun ww => below_drawn (Below.refl _ _) q
  refine (eqPS_any x x' m cx cx' ps _ hm hn (PAt.below HP.out.1 (hD _)) (PAt.below HP.out.2 (hD _)) hps).mono ?_
  rintro e w2 ⟨rfl, hb2⟩
  have n2 : w2.heap[w.heap.size]? = some (.cells #[.slice a L c, .slice x m cx, .int .i64 f, .bool d] 29 (0, 0)) := by
    rw [hb2.block _ (by simp [World.drewN]; omega)]
    show ((w.alloc _).alloc _).heap[w.heap.size]? = _
    rw [((Below.refl _ (w.alloc (.cells #[.slice a L c, .slice x m cx, .int .i64 f, .bool d] 29))).alloc (Nat.le_refl _) _).block _ (by simp)]
    exact heap_alloc_new w _
  have n3 : w2.heap[w.heap.size + 1]? = some (.cells #[.slice a' L c', .slice x' m cx', .int .i64 f, .bool d] 29 (0, 0)) := by
    rw [hb2.block _ (by simp [World.drewN])]
    have := heap_alloc_new (w.alloc (.cells #[.slice a L c, .slice x m cx, .int .i64 f, .bool d] 29)) (.cells #[.slice a' L c', .slice x' m cx', .int .i64 f, .bool d] 29)
    simpa using this
  have hB2 : Below w.heap.size w w2 := (below_drawn HB.out q).trans (hb2.mono (by simp [World.drewN]; omega))
  have c2 := cell_of_row w2 w.heap.size 2 _ _ _ n2
  have c3 := cell_of_row w2 w.heap.size 3 _ _ _ n2
  have d2 := cell_of_row w2 (w.heap.size + 1) 2 _ _ _ n3
  have d3 := cell_of_row w2 (w.heap.size + 1) 3 _ _ _ n3
  simp at c2 c3 d2 d3
  have HB2 : Hid _ := hB2
  clear n2 n3 hb2 hB2 hD HB HP
  go_wp2
  go_ret
  exact ⟨rfl, HB2.out⟩
end Go.Proofs.Ytiignammhieidaa
