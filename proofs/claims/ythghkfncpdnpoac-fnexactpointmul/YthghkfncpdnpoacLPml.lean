/-
  Own work round the shell that the kit's program writes.
-/
import Derived.Test.YthghkfncpdnpoacMIMu
import Derived.Test.YthghkfncpdnpoacBytes
import Derived.WalkKit
import Derived.ProofKit
import Derived.OpenShut
import Derived.ShutString
import Derived.ChangeOld
import Derived.Below
namespace Go.Proofs.Ythghkfncpdnpoac.fnExactPointMul
open Go.ChangeShapes Go.WideShapes Go.ChangeAt Go.RowKit
open Go.ChangeMaps (open_string shut_string)
set_option linter.unusedVariables false

theorem own : ownKnob Try.prog.godebug = none := by kernel_rfl
theorem laidOut : laidOutB Try.prog = true := by kernel_rfl

def IsRow (k : IntKind) (w : World) (a : Option Addr) (len cap : Nat) (zs : List Int) : Prop :=
  (a = none ∧ len = 0 ∧ cap = 0 ∧ zs = []) ∨
  ∃ x, a = some x ∧ len ≤ cap ∧ cap ≤ maxLen ∧ zs.length = cap ∧ (∀ i, i < zs.length → w.cell? (x.add i) = some (.int k (zs.getD i 0))) ∧ ∀ n ∈ zs, (Lit.int k n).wf = true

theorem IsRow.at_ {w : World} {a : Option Addr} {len cap : Nat} {z : List Int} (h : IsRow .u8 w a len cap z) : ∃ zs, zs.length = len ∧ Byte zs ∧ At .u8 w a zs := by
  rcases h with ⟨rfl, rfl, rfl, rfl⟩ | ⟨x, rfl, hl, hm, hz, hc, hw⟩
  · exact ⟨[], rfl, by simp [Byte], .inl rfl⟩
  · refine ⟨z.take len, by simp; omega, fun n hn => ?_, ?_⟩
    · have := hw n (List.mem_of_mem_take hn)
      simp [Lit.wf, IntKind.min, IntKind.max, IntKind.signed, IntKind.bits] at this
      omega
    · by_cases h0 : len = 0
      · left; simp [h0]
      · right
        obtain ⟨b, off, spot⟩ := x
        have hc0 := hc 0 (by omega)
        have hs : spot = none := by simpa [Addr.add] using World.cell?_spot hc0
        subst hs
        refine ⟨b, off, rfl, block_lt_of_cell (a := (⟨b, off, none⟩ : Addr).add 0) hc0, fun i hi => ?_⟩
        have hi' : i < len := by simp at hi; omega
        have := hc i (by omega)
        rw [Addr.add_lit] at this
        rw [this]
        simp [List.getD, hi']

theorem below_drewN {B : Nat} {a w : World} (h : Below B a w) (n : Nat) : Below B a (w.drewN n) := ⟨h.os, h.tape, h.output, h.size, h.block⟩

set_option maxRecDepth 100000 in
set_option maxHeartbeats 4000000 in
theorem walk (a0 : Option Addr) (len0 cap0 : Nat) (z0 : List Int) (a1 : Option Addr) (len1 cap1 : Nat) (z1 : List Int) (w : World) (w0 : IsRow .u8 w a0 len0 cap0 z0) (w1 : IsRow .u8 w a1 len1 cap1 z1) :
    Calls Try.prog 7 #[.slice a0 len0 cap0, .slice a1 len1 cap1] w fun e w' => e = .returned (.bool true) ∧ Below w.heap.size w w' := by
  by_cases hl : (1048576 : Int) < (len0 : Int)
  · go_enter Try.func7, Try.ntmps7
    go_wp2
    go_ret
    exact ⟨rfl, Below.refl _ _⟩
  by_cases hk : (1048576 : Int) < (len1 : Int)
  · go_enter Try.func7, Try.ntmps7
    go_wp2
    go_ret
    exact ⟨rfl, Below.refl _ _⟩
  · obtain ⟨zs, hn, hz, ha⟩ := IsRow.at_ w0
    obtain ⟨ys, hm, hy, hc⟩ := IsRow.at_ w1
    have hl' : len0 ≤ 1048576 := by omega
    have hk' : len1 ≤ 1048576 := by omega
    clear w0 w1
    have HA : Hid (At .u8 w a0 zs) := ha
    have HC : Hid (At .u8 w a1 ys) := hc
    have fB : Below w.heap.size w w := Below.refl _ _
    clear ha hc
    go_enter Try.func7, Try.ntmps7
    have fa := HA.out.below fB
    go_wp2_with fail
    refine (toB_any a0 len0 cap0 zs _ hn hl' fa).mono ?_
    rintro e u1 ⟨rfl, ho, hb⟩
    clear fa
    have hP : At .u8 u1 (some ⟨w.heap.size, 0, none⟩) zs := by obtain ⟨a, cap, h, _, _, _, h'⟩ := At.of_owns ho; cases h; exact h'
    have sP : w.heap.size < u1.heap.size := by
      rcases ho.2 with ⟨h', _⟩ | ⟨g', c', cur, h', hb, hh, _⟩
      · cases h'
      · cases h'; exact (Array.getElem?_eq_some_iff.1 hh).1
    clear ho
    have nB : Below w.heap.size w u1 := fB.trans (hb.mono fB.size)
    clear fB
    have fB := nB
    clear nB
    have zu1 := hb.size
    clear hb
    have fP := hP
    clear hP
    have fa := HC.out.below fB
    go_wp2_with fail
    refine (toB_any a1 len1 cap1 ys _ hm hk' fa).mono ?_
    rintro e u2 ⟨rfl, ho, hb⟩
    clear fa
    have hQ : At .u8 u2 (some ⟨u1.heap.size, 0, none⟩) ys := by obtain ⟨a, cap, h, _, _, _, h'⟩ := At.of_owns ho; cases h; exact h'
    have sQ : u1.heap.size < u2.heap.size := by
      rcases ho.2 with ⟨h', _⟩ | ⟨g', c', cur, h', hb, hh, _⟩
      · cases h'
      · cases h'; exact (Array.getElem?_eq_some_iff.1 hh).1
    clear ho
    have nB : Below w.heap.size w u2 := fB.trans (hb.mono fB.size)
    have nP : At .u8 u2 (some ⟨w.heap.size, 0, none⟩) zs := fP.below hb
    clear fB fP
    have fB := nB
    clear nB
    have fP := nP
    clear nP
    have zu2 := hb.size
    clear hb
    have fQ := hQ
    clear hQ
    go_wp2_with fail
    refine (smul_any _ _ len0 len0 len1 len1 zs ys _ hn hl' fP hz hm hk' fQ hy).mono ?_
    rintro e w3 ⟨bs, os, cs, rfl, hbs, hS, hb⟩
    clear fP fQ
    have nB : Below w.heap.size w w3 := fB.trans (hb.mono fB.size)
    clear fB
    have fB := nB
    clear nB
    have zw3 := hb.size
    clear hb
    have fS := hS
    clear hS
    have hrl := muZ_len zs ys
    generalize hzs : muZ zs ys = rs at *
    have HZ : Hid (muZ zs ys = rs) := hzs
    clear hzs
    have fa := HA.out.below fB
    go_wp2_with fail
    refine (toB_any a0 len0 cap0 zs _ hn hl' fa).mono ?_
    rintro e u3 ⟨rfl, ho, hb⟩
    clear fa
    have hX : At .u8 u3 (some ⟨w3.heap.size, 0, none⟩) zs := by obtain ⟨a, cap, h, _, _, _, h'⟩ := At.of_owns ho; cases h; exact h'
    have sX : w3.heap.size < u3.heap.size := by
      rcases ho.2 with ⟨h', _⟩ | ⟨g', c', cur, h', hb, hh, _⟩
      · cases h'
      · cases h'; exact (Array.getElem?_eq_some_iff.1 hh).1
    have hoX : Open u3 (some ⟨w3.heap.size, 0, none⟩) len0 := by
      rcases Nat.eq_zero_or_pos len0 with h0 | h0
      · exact .inl h0
      · refine .inr ⟨w3.heap.size, 0, rfl, sX, fun i hi => ?_⟩
        rw [Nat.zero_add, ho.cellAt i (by omega)]; exact ⟨by simp [show i < zs.length by omega], ho.frozenAt i⟩
    clear ho
    have nB : Below w.heap.size w u3 := fB.trans (hb.mono fB.size)
    have nS : At .u8 u3 (some ⟨bs, os, none⟩) rs := fS.below hb
    clear fB fS
    have fB := nB
    clear nB
    have fS := nS
    clear nS
    have zu3 := hb.size
    clear hb
    have fX := hX
    clear hX
    have fOX := hoX
    clear hoX
    have fa := HC.out.below fB
    go_wp2_with fail
    refine (toB_any a1 len1 cap1 ys _ hm hk' fa).mono ?_
    rintro e u4 ⟨rfl, ho, hb⟩
    clear fa
    have hY : At .u8 u4 (some ⟨u3.heap.size, 0, none⟩) ys := by obtain ⟨a, cap, h, _, _, _, h'⟩ := At.of_owns ho; cases h; exact h'
    have sY : u3.heap.size < u4.heap.size := by
      rcases ho.2 with ⟨h', _⟩ | ⟨g', c', cur, h', hb, hh, _⟩
      · cases h'
      · cases h'; exact (Array.getElem?_eq_some_iff.1 hh).1
    have hoY : Open u4 (some ⟨u3.heap.size, 0, none⟩) len1 := by
      rcases Nat.eq_zero_or_pos len1 with h0 | h0
      · exact .inl h0
      · refine .inr ⟨u3.heap.size, 0, rfl, sY, fun i hi => ?_⟩
        rw [Nat.zero_add, ho.cellAt i (by omega)]; exact ⟨by simp [show i < ys.length by omega], ho.frozenAt i⟩
    clear ho
    have nB : Below w.heap.size w u4 := fB.trans (hb.mono fB.size)
    have nS : At .u8 u4 (some ⟨bs, os, none⟩) rs := fS.below hb
    have nX : At .u8 u4 (some ⟨w3.heap.size, 0, none⟩) zs := fX.below hb
    have nOX : Open u4 (some ⟨w3.heap.size, 0, none⟩) len0 := fOX.below2 hb
    clear fB fS fX fOX
    have fB := nB
    clear nB
    have fS := nS
    clear nS
    have fX := nX
    clear nX
    have fOX := nOX
    clear nOX
    have zu4 := hb.size
    clear hb
    have fY := hY
    clear hY
    have fOY := hoY
    clear hoY
    go_wp2_with fail
    refine (imul_any _ _ len0 len0 len1 len1 zs ys _ hn hl' fX hz hm hk' fY hy).mono ?_
    rintro e w6 ⟨v, rfl, hr, hb⟩
    rw [HZ.out] at hr
    obtain ⟨ag, cg, rfl, hA, hO, hL⟩ := hr
    have nB : Below w.heap.size w w6 := fB.trans (hb.mono fB.size)
    have nS : At .u8 w6 (some ⟨bs, os, none⟩) rs := fS.below hb
    have nX : At .u8 w6 (some ⟨w3.heap.size, 0, none⟩) zs := fX.below hb
    have nOX : Open w6 (some ⟨w3.heap.size, 0, none⟩) len0 := fOX.below2 hb
    have nY : At .u8 w6 (some ⟨u3.heap.size, 0, none⟩) ys := fY.below hb
    have nOY : Open w6 (some ⟨u3.heap.size, 0, none⟩) len1 := fOY.below2 hb
    clear fB fS fX fOX fY fOY
    have fB := nB
    clear nB
    have fS := nS
    clear nS
    have fX := nX
    clear nX
    have fOX := nOX
    clear nOX
    have fY := nY
    clear nY
    have fOY := nOY
    clear nOY
    have zw6 := hb.size
    clear hb
    have fA := hA
    have fOA := hO
    clear hA hO
    have HL : Hid (∀ ad, ag = some ad → u4.heap.size ≤ ad.block) := hL
    clear hL
    go_wp2_with fail
    refine (eqB_any _ _ rs.length _ _ rs _ rfl (by omega) fA fS).mono ?_
    rintro e wq ⟨rfl, q5, rfl⟩
    have nB : Below w.heap.size w (w6.drewN q5) := below_drewN fB _
    have nS : At .u8 (w6.drewN q5) (some ⟨bs, os, none⟩) rs := fS
    have nX : At .u8 (w6.drewN q5) (some ⟨w3.heap.size, 0, none⟩) zs := fX
    have nOX : Open (w6.drewN q5) (some ⟨w3.heap.size, 0, none⟩) len0 := fOX
    have nY : At .u8 (w6.drewN q5) (some ⟨u3.heap.size, 0, none⟩) ys := fY
    have nOY : Open (w6.drewN q5) (some ⟨u3.heap.size, 0, none⟩) len1 := fOY
    have nA : At .u8 (w6.drewN q5) ag rs := fA
    have nOA : Open (w6.drewN q5) ag rs.length := fOA
    clear fB fS fX fOX fY fOY fA fOA
    have fB := nB
    clear nB
    have fS := nS
    clear nS
    have fX := nX
    clear nX
    have fOX := nOX
    clear nOX
    have fY := nY
    clear nY
    have fOY := nOY
    clear nOY
    have fA := nA
    clear nA
    have fOA := nOA
    clear nOA
    have zd6 : w6.heap.size ≤ (w6.drewN q5).heap.size := Nat.le_refl _
    generalize w6.drewN q5 = v6 at *
    have fa := HA.out.below fB
    go_wp2_with fail
    refine (toB_any a0 len0 cap0 zs _ hn hl' fa).mono ?_
    rintro e u7 ⟨rfl, ho, hb⟩
    clear fa
    have hU : At .u8 u7 (some ⟨v6.heap.size, 0, none⟩) zs := by obtain ⟨a, cap, h, _, _, _, h'⟩ := At.of_owns ho; cases h; exact h'
    have sU : v6.heap.size < u7.heap.size := by
      rcases ho.2 with ⟨h', _⟩ | ⟨g', c', cur, h', hb, hh, _⟩
      · cases h'
      · cases h'; exact (Array.getElem?_eq_some_iff.1 hh).1
    clear ho
    have nB : Below w.heap.size w u7 := fB.trans (hb.mono fB.size)
    have nS : At .u8 u7 (some ⟨bs, os, none⟩) rs := fS.below hb
    have nX : At .u8 u7 (some ⟨w3.heap.size, 0, none⟩) zs := fX.below hb
    have nOX : Open u7 (some ⟨w3.heap.size, 0, none⟩) len0 := fOX.below2 hb
    have nY : At .u8 u7 (some ⟨u3.heap.size, 0, none⟩) ys := fY.below hb
    have nOY : Open u7 (some ⟨u3.heap.size, 0, none⟩) len1 := fOY.below2 hb
    have nA : At .u8 u7 ag rs := fA.below hb
    have nOA : Open u7 ag rs.length := fOA.below2 hb
    clear fB fS fX fOX fY fOY fA fOA
    have fB := nB
    clear nB
    have fS := nS
    clear nS
    have fX := nX
    clear nX
    have fOX := nOX
    clear nOX
    have fY := nY
    clear nY
    have fOY := nOY
    clear nOY
    have fA := nA
    clear nA
    have fOA := nOA
    clear nOA
    have zu7 := hb.size
    clear hb
    have fU := hU
    clear hU
    go_wp2_with fail
    refine (eqB_any _ _ len0 _ _ zs _ hn hl' fX fU).mono ?_
    rintro e wq ⟨rfl, q8, rfl⟩
    clear fX fU
    have nB : Below w.heap.size w (u7.drewN q8) := below_drewN fB _
    have nS : At .u8 (u7.drewN q8) (some ⟨bs, os, none⟩) rs := fS
    have nOX : Open (u7.drewN q8) (some ⟨w3.heap.size, 0, none⟩) len0 := fOX
    have nY : At .u8 (u7.drewN q8) (some ⟨u3.heap.size, 0, none⟩) ys := fY
    have nOY : Open (u7.drewN q8) (some ⟨u3.heap.size, 0, none⟩) len1 := fOY
    have nA : At .u8 (u7.drewN q8) ag rs := fA
    have nOA : Open (u7.drewN q8) ag rs.length := fOA
    clear fB fS fOX fY fOY fA fOA
    have fB := nB
    clear nB
    have fS := nS
    clear nS
    have fOX := nOX
    clear nOX
    have fY := nY
    clear nY
    have fOY := nOY
    clear nOY
    have fA := nA
    clear nA
    have fOA := nOA
    clear nOA
    have zd9 : u7.heap.size ≤ (u7.drewN q8).heap.size := Nat.le_refl _
    generalize u7.drewN q8 = v9 at *
    have fa := HC.out.below fB
    go_wp2_with fail
    refine (toB_any a1 len1 cap1 ys _ hm hk' fa).mono ?_
    rintro e u10 ⟨rfl, ho, hb⟩
    clear fa
    have hV : At .u8 u10 (some ⟨v9.heap.size, 0, none⟩) ys := by obtain ⟨a, cap, h, _, _, _, h'⟩ := At.of_owns ho; cases h; exact h'
    have sV : v9.heap.size < u10.heap.size := by
      rcases ho.2 with ⟨h', _⟩ | ⟨g', c', cur, h', hb, hh, _⟩
      · cases h'
      · cases h'; exact (Array.getElem?_eq_some_iff.1 hh).1
    clear ho
    have nB : Below w.heap.size w u10 := fB.trans (hb.mono fB.size)
    have nS : At .u8 u10 (some ⟨bs, os, none⟩) rs := fS.below hb
    have nOX : Open u10 (some ⟨w3.heap.size, 0, none⟩) len0 := fOX.below2 hb
    have nY : At .u8 u10 (some ⟨u3.heap.size, 0, none⟩) ys := fY.below hb
    have nOY : Open u10 (some ⟨u3.heap.size, 0, none⟩) len1 := fOY.below2 hb
    have nA : At .u8 u10 ag rs := fA.below hb
    have nOA : Open u10 ag rs.length := fOA.below2 hb
    clear fB fS fOX fY fOY fA fOA
    have fB := nB
    clear nB
    have fS := nS
    clear nS
    have fOX := nOX
    clear nOX
    have fY := nY
    clear nY
    have fOY := nOY
    clear nOY
    have fA := nA
    clear nA
    have fOA := nOA
    clear nOA
    have zu10 := hb.size
    clear hb
    have fV := hV
    clear hV
    go_wp2_with fail
    refine (eqB_any _ _ len1 _ _ ys _ hm hk' fY fV).mono ?_
    rintro e wq ⟨rfl, q11, rfl⟩
    clear fY fV
    have nB : Below w.heap.size w (u10.drewN q11) := below_drewN fB _
    have nS : At .u8 (u10.drewN q11) (some ⟨bs, os, none⟩) rs := fS
    have nOX : Open (u10.drewN q11) (some ⟨w3.heap.size, 0, none⟩) len0 := fOX
    have nOY : Open (u10.drewN q11) (some ⟨u3.heap.size, 0, none⟩) len1 := fOY
    have nA : At .u8 (u10.drewN q11) ag rs := fA
    have nOA : Open (u10.drewN q11) ag rs.length := fOA
    clear fB fS fOX fOY fA fOA
    have fB := nB
    clear nB
    have fS := nS
    clear nS
    have fOX := nOX
    clear nOX
    have fOY := nOY
    clear nOY
    have fA := nA
    clear nA
    have fOA := nOA
    clear nOA
    have zd12 : u10.heap.size ≤ (u10.drewN q11).heap.size := Nat.le_refl _
    generalize u10.drewN q11 = v12 at *
    have zB := fB.size
    go_wp2_with fail
    refine (markB_any _ len0 len0 1 _ fOX (by decide) (by omega)).mono ?_
    rintro e m1 ⟨rfl, _, hw⟩
    clear fOX
    have nB : Below w.heap.size w m1 := fB.trans (hw.below _ (fun ad e => by cases e; simp only; omega))
    have nS : At .u8 m1 (some ⟨bs, os, none⟩) rs := At.wrB fS hw (fun ad e => by cases e; simp only; omega)
    have nOY : Open m1 (some ⟨u3.heap.size, 0, none⟩) len1 := fOY.wrB hw (fun ad e ad' e' => by cases e; cases e'; simp only; omega)
    have nA : At .u8 m1 ag rs := by
          rcases fA with h | ⟨b', off, rfl, hlt, hc⟩
          · exact .inl h
          · have := HL.out _ rfl
            exact At.wrB (.inr ⟨b', off, rfl, hlt, hc⟩) hw (fun ad e => by cases e; simp only at *; omega)
    have nOA : Open m1 ag rs.length := fOA.wrB hw (fun ad e ad' e' => by cases e'; have := HL.out ad e; simp only at *; omega)
    clear fB fS fOY fA fOA
    have fB := nB
    clear nB
    have fS := nS
    clear nS
    have fOY := nOY
    clear nOY
    have fA := nA
    clear nA
    have fOA := nOA
    clear nOA
    clear hw
    go_wp2_with fail
    refine (markB_any _ len1 len1 (1 + (len0 : Int)) _ fOY (by omega) (by omega)).mono ?_
    rintro e m2 ⟨rfl, _, hw⟩
    clear fOY
    have nB : Below w.heap.size w m2 := fB.trans (hw.below _ (fun ad e => by cases e; simp only; omega))
    have nS : At .u8 m2 (some ⟨bs, os, none⟩) rs := At.wrB fS hw (fun ad e => by cases e; simp only; omega)
    have nA : At .u8 m2 ag rs := by
          rcases fA with h | ⟨b', off, rfl, hlt, hc⟩
          · exact .inl h
          · have := HL.out _ rfl
            exact At.wrB (.inr ⟨b', off, rfl, hlt, hc⟩) hw (fun ad e => by cases e; simp only at *; omega)
    have nOA : Open m2 ag rs.length := fOA.wrB hw (fun ad e ad' e' => by cases e'; have := HL.out ad e; simp only at *; omega)
    clear fB fS fA fOA
    have fB := nB
    clear nB
    have fS := nS
    clear nS
    have fA := nA
    clear nA
    have fOA := nOA
    clear nOA
    clear hw
    have t0 : decide (1 + (len0 : Int) + (len1 : Int) < 0) = false := by simp; omega
    have t0' : ¬ (1 + (len0 : Int) + (len1 : Int) < 0) := by omega
    go_wp2_with fail
    refine (eqB_any _ _ rs.length _ _ rs _ rfl (by omega) fA fS).mono ?_
    rintro e wq ⟨rfl, q13, rfl⟩
    have nB : Below w.heap.size w (m2.drewN q13) := below_drewN fB _
    have nS : At .u8 (m2.drewN q13) (some ⟨bs, os, none⟩) rs := fS
    have nA : At .u8 (m2.drewN q13) ag rs := fA
    have nOA : Open (m2.drewN q13) ag rs.length := fOA
    clear fB fS fA fOA
    have fB := nB
    clear nB
    have fS := nS
    clear nS
    have fA := nA
    clear nA
    have fOA := nOA
    clear nOA
    have zd14 : m2.heap.size ≤ (m2.drewN q13).heap.size := Nat.le_refl _
    generalize m2.drewN q13 = v14 at *
    go_wp2_with fail
    refine (markB_any ag rs.length cg 1 _ fOA (by decide) (by omega)).mono ?_
    rintro e m3 ⟨rfl, M3, hw⟩
    clear fOA fA
    have nB : Below w.heap.size w m3 := fB.trans (hw.below _ (fun ad e => by have := HL.out ad e; omega))
    have nS : At .u8 m3 (some ⟨bs, os, none⟩) rs := At.wrB fS hw (fun ad e => by have := HL.out ad e; omega)
    clear fB fS
    have fB := nB
    clear nB
    have fS := nS
    clear nS
    clear hw
    go_wp2_with fail
    refine (heldB_any ag rs.length cg 1 _ M3 (by decide) (by omega)).mono ?_
    rintro e m4 ⟨rfl, rfl⟩
    clear M3
    have t1 : ¬ (1 + (rs.length : Int)) < 0 := by omega
    have t2 : ((1 + (rs.length : Int)) != 1 + (rs.length : Int)) = false := by simp
    have fa := HA.out.below fB
    go_wp2_with fail
    refine (toB_any a0 len0 cap0 zs _ hn hl' fa).mono ?_
    rintro e u15 ⟨rfl, ho, hb⟩
    clear fa
    have hP : At .u8 u15 (some ⟨m4.heap.size, 0, none⟩) zs := by obtain ⟨a, cap, h, _, _, _, h'⟩ := At.of_owns ho; cases h; exact h'
    have sP : m4.heap.size < u15.heap.size := by
      rcases ho.2 with ⟨h', _⟩ | ⟨g', c', cur, h', hb, hh, _⟩
      · cases h'
      · cases h'; exact (Array.getElem?_eq_some_iff.1 hh).1
    clear ho
    have nB : Below w.heap.size w u15 := fB.trans (hb.mono fB.size)
    have nS : At .u8 u15 (some ⟨bs, os, none⟩) rs := fS.below hb
    clear fB fS
    have fB := nB
    clear nB
    have fS := nS
    clear nS
    have zu15 := hb.size
    clear hb
    have fP := hP
    clear hP
    have fa := HC.out.below fB
    go_wp2_with fail
    refine (toB_any a1 len1 cap1 ys _ hm hk' fa).mono ?_
    rintro e u16 ⟨rfl, ho, hb⟩
    clear fa
    have hQ : At .u8 u16 (some ⟨u15.heap.size, 0, none⟩) ys := by obtain ⟨a, cap, h, _, _, _, h'⟩ := At.of_owns ho; cases h; exact h'
    have sQ : u15.heap.size < u16.heap.size := by
      rcases ho.2 with ⟨h', _⟩ | ⟨g', c', cur, h', hb, hh, _⟩
      · cases h'
      · cases h'; exact (Array.getElem?_eq_some_iff.1 hh).1
    clear ho
    have nB : Below w.heap.size w u16 := fB.trans (hb.mono fB.size)
    have nS : At .u8 u16 (some ⟨bs, os, none⟩) rs := fS.below hb
    have nP : At .u8 u16 (some ⟨m4.heap.size, 0, none⟩) zs := fP.below hb
    clear fB fS fP
    have fB := nB
    clear nB
    have fS := nS
    clear nS
    have fP := nP
    clear nP
    have zu16 := hb.size
    clear hb
    have fQ := hQ
    clear hQ
    go_wp2_with fail
    refine (imul_any _ _ len0 len0 len1 len1 zs ys _ hn hl' fP hz hm hk' fQ hy).mono ?_
    rintro e w13 ⟨v, rfl, hr, hb⟩
    rw [HZ.out] at hr
    obtain ⟨ah, ch, rfl, hA, hO, hL⟩ := hr
    clear fP fQ hO hL
    have nB : Below w.heap.size w w13 := fB.trans (hb.mono fB.size)
    have nS : At .u8 w13 (some ⟨bs, os, none⟩) rs := fS.below hb
    clear fB fS
    have fB := nB
    clear nB
    have fS := nS
    clear nS
    have zw13 := hb.size
    clear hb
    have fA := hA
    clear hA
    go_wp2_with fail
    refine (eqB_any _ _ rs.length _ _ rs _ rfl (by omega) fA fS).mono ?_
    rintro e wq ⟨rfl, q17, rfl⟩
    have nB : Below w.heap.size w (w13.drewN q17) := below_drewN fB _
    have nS : At .u8 (w13.drewN q17) (some ⟨bs, os, none⟩) rs := fS
    have nA : At .u8 (w13.drewN q17) ah rs := fA
    clear fB fS fA
    have fB := nB
    clear nB
    have fS := nS
    clear nS
    have fA := nA
    clear nA
    have zd18 : w13.heap.size ≤ (w13.drewN q17).heap.size := Nat.le_refl _
    generalize w13.drewN q17 = v18 at *
    have HBZ : Hid (Below w.heap.size w v18) := fB
    clear fB fA fS
    go_wp2
    go_ret
    exact ⟨rfl, HBZ.out⟩

set_option maxRecDepth 100000 in
theorem lifted (os : Os) (started : os.Started) (H : Type) (enc : TypeId × Value → H) :
    ReturnsInHanded {} Try.checked os 7 .any (Rows.fnExactPointMulSpec.pre6 enc Try.prog Try.f7 Rows.fnExactPointMulRow.domain false) (Rows.fnExactPointMulSpec.post enc Try.prog Try.f7 false true false false) := by
  refine returnsInHanded_of_change (C := Try.checked) own started (by kernel_rfl) Try.func7
    (ChangeSpec.witness6 (enc := enc) (C := Try.checked) false ⟨#[], #[.slice none 0 0, .slice none 0 0], []⟩ 8 (by kernel_rfl) (by kernel_rfl) (by kernel_rfl) (by kernel_rfl)) ?_
  intro W base args ds gs before hval0 hW hcnd _
  have hval : ∀ (j : Nat) t v, Try.f7.params[j]? = some t → args[j]? = some v → Value.okWide Try.prog W .any base t v := hval0
  have hW' := hW
  obtain ⟨p, q, hA0, hV, rfl, hfz, hnd⟩ := hW
  have hA : DataW.TrodAll enc Try.prog W 0 (fun _ => true) true Try.f7.params.toList args.toList ds p := hA0
  rw [Try.params7] at hA hval
  obtain ⟨v0, vs0, d0, ds0, p0, q0, hargs, rfl, rfl, h0, r0⟩ := trodAll_cons hA
  obtain ⟨v1, vs1, d1, ds1, p1, q1, hargs1, rfl, rfl, h1, r1⟩ := trodAll_cons r0
  obtain ⟨rfl, rfl, rfl⟩ := trodAll_nil r1
  obtain rfl : args = #[v0, v1] := by cases args; simp_all
  obtain ⟨rfl, rfl⟩ := trodVars_none hV
  obtain ⟨a0, len0, cap0, rfl⟩ := okWide_slice Try.underlying22 (hval 0 22 v0 rfl rfl)
  have k0 := h0
  have lt0 : ∀ x ∈ p0, x.block < W.heap.size := by obtain ⟨m, hm⟩ := k0; exact DataW.trod_lt m _ _ _ hm
  obtain ⟨z0, w0⟩ : ∃ zs, IsRow .u8 W a0 len0 cap0 zs := by
    obtain ⟨fuel, hf⟩ := h0
    rcases open_ints Try.underlying22 Try.underlying5 (by kernel_rfl) hf with ⟨hcs, _⟩ | ⟨x, l, c, zs, hcs, _, hl, hm, hz, _, hcell, hwz⟩
    · simp [Value.cells] at hcs
      obtain ⟨rfl, rfl, rfl⟩ := hcs
      exact ⟨[], .inl ⟨rfl, rfl, rfl, rfl⟩⟩
    · simp [Value.cells] at hcs
      obtain ⟨rfl, rfl, rfl⟩ := hcs
      exact ⟨zs, .inr ⟨_, rfl, hl, hm, by simpa using hz, hcell, hwz⟩⟩
  obtain ⟨a1, len1, cap1, rfl⟩ := okWide_slice Try.underlying22 (hval 1 22 v1 rfl rfl)
  have k1 := h1
  have lt1 : ∀ x ∈ p1, x.block < W.heap.size := by obtain ⟨m, hm⟩ := k1; exact DataW.trod_lt m _ _ _ hm
  obtain ⟨z1, w1⟩ : ∃ zs, IsRow .u8 W a1 len1 cap1 zs := by
    obtain ⟨fuel, hf⟩ := h1
    rcases open_ints Try.underlying22 Try.underlying5 (by kernel_rfl) hf with ⟨hcs, _⟩ | ⟨x, l, c, zs, hcs, _, hl, hm, hz, _, hcell, hwz⟩
    · simp [Value.cells] at hcs
      obtain ⟨rfl, rfl, rfl⟩ := hcs
      exact ⟨[], .inl ⟨rfl, rfl, rfl, rfl⟩⟩
    · simp [Value.cells] at hcs
      obtain ⟨rfl, rfl, rfl⟩ := hcs
      exact ⟨zs, .inr ⟨_, rfl, hl, hm, by simpa using hz, hcell, hwz⟩⟩
  clear hA0 hval0
  refine (walk a0 len0 cap0 z0 a1 len1 cap1 z1 W w0 w1).mono fun e W' ⟨he, bel⟩ => ?_
  subst he
  exact ⟨_, rfl, _, _, _, [], _, [], hW', trodAll_mk1 (shut_bool Try.underlying4 _), (trodAll_cons_mk (Below.trod laidOut (by kernel_rfl) (of_decide_eq_true (by kernel_rfl)) k0 bel lt0) (trodAll_cons_mk (Below.trod laidOut (by kernel_rfl) (of_decide_eq_true (by kernel_rfl)) k1 bel lt1) trodAll_mk0)), rfl, bel.frame _, fun h => by cases h⟩

theorem over : Rows.fnExactPointMulRow.holds Try.pinned (OpenSpec.ofChange Rows.fnExactPointMulSpec) :=
  OpenClaim.holds_of_wide 7 Try.f7 rfl rfl rfl rfl rfl rfl rfl ⟨rfl, rfl, rfl, rfl, rfl⟩ rfl rfl rfl rfl rfl (by kernel_rfl) Try.func7 (by kernel_rfl)
    (of_decide_eq_true (by kernel_rfl)) (by unfold Func.isWrapper; first | (rw [if_pos (by decide +kernel)]; kernel_rfl) | (rw [if_neg (by decide +kernel)]; exact ⟨rfl, rfl⟩))
    (fun os started H enc _ => lifted os started H enc)

end Go.Proofs.Ythghkfncpdnpoac.fnExactPointMul
namespace Go.Proofs.Ythghkfncpdnpoac
theorem pointMul_holds : Rows.FnExactPointMulSaid := fnExactPointMul.over
#print axioms pointMul_holds
end Go.Proofs.Ythghkfncpdnpoac
