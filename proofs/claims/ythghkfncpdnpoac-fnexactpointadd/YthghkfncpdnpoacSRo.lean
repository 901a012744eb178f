/-
  Own work: the model's comparison, its d, its root (written by wip/mkmod.py).
-/
import Derived.Test.YthghkfncpdnpoacSAd
import Derived.Test.YthghkfncpdnpoacSPow12
import Derived.Test.YthghkfncpdnpoacSLst
namespace Go.Proofs.Ythghkfncpdnpoac
open Go.ChangeShapes Go.WideShapes Go.ChangeAt Go.RowKit
set_option linter.unusedVariables false

theorem ls_eq {xs ys : List Int} (hx : xs.length = 16) (hy : ys.length = 16) (dx : ∀ i, 0 ≤ xs.getD i 0 ∧ xs.getD i 0 < 65536) (dy : ∀ i, 0 ≤ ys.getD i 0 ∧ ys.getD i 0 < 65536) : val 65536 xs = val 65536 ys ↔ ∀ i, i < 16 → xs.getD i 0 = ys.getD i 0 := by
  constructor
  · intro h i _
    rw [val_inj (B := 65536) (by decide) (dig_of_get dx) (dig_of_get dy) (by omega) h]
  · intro h
    rw [list16 hx hy h]

set_option maxHeartbeats 1000000 in
theorem equal_any (a a' : Option Addr) (cap cap' : Nat) (x y : Int) (w : World) (ha : FeA w a x) (ha' : FeA w a' y) :
    Calls Try.prog 89 #[.slice a 16 cap, .slice a' 16 cap'] w fun e w' => e = .returned (.bool (decide (x = y))) ∧ Below w.heap.size w w' := by
  have HA' : Hid (FeA w a' y) := ha'
  go_enter Try.func89, Try.ntmps89
  go_wp2_with fail
  refine (least_any a cap x _ ha).mono ?_
  rintro e w1 ⟨g1, c1, rfl, hg1, hg1', hl1, hb1⟩
  have HB1 : Hid (Below w.heap.size w w1) := hb1
  have HL1 : Hid (LsA w1 (some ⟨g1, 0, none⟩) x) := hl1
  have ha2 := HA'.out.below hb1
  clear ha ha' HA' hl1 hb1
  go_wp2_with fail
  refine (least_any a' cap' y _ ha2).mono ?_
  rintro e w2 ⟨g2, c2, rfl, hg2, hg2', hl2, hb2⟩
  have HB2 : Hid (Below w.heap.size w w2) := HB1.out.trans (hb2.mono HB1.out.size)
  have hl1 := HL1.out.below hb2
  obtain ⟨xs, hA1, hx1, hx2, hx3⟩ := hl1
  obtain ⟨ys, hA2, hy1, hy2, hy3⟩ := hl2
  have HEQ : Hid (x = y ↔ ∀ i, i < 16 → xs.getD i 0 = ys.getD i 0) := by
    show _ ↔ _
    rw [← hx3, ← hy3]; exact ls_eq hx1 hy1 hx2 hy2
  have HC1 : Hid (∀ i, i < 16 → w2.cell? ⟨g1, i, none⟩ = some (.int .i64 (xs.getD i 0))) := fun i hi => by
    obtain ⟨b, o, e, _, h⟩ := hA1.get (by omega)
    cases e
    have := h i (by omega)
    rwa [Nat.zero_add] at this
  have HC2 : Hid (∀ i, i < 16 → w2.cell? ⟨g2, i, none⟩ = some (.int .i64 (ys.getD i 0))) := fun i hi => by
    obtain ⟨b, o, e, _, h⟩ := hA2.get (by omega)
    cases e
    have := h i (by omega)
    rwa [Nat.zero_add] at this
  clear ha2 hb2 HB1 HL1 hA1 hA2 hx1 hx2 hx3 hy1 hy2 hy3
  go_wp2
  go_loopw [7] (fun i wr => ∃ (k q : Nat), k ≤ 16 ∧ i = .int .i64 k ∧ wr = w2.drewN q ∧ ∀ i, i < k → xs.getD i 0 = ys.getD i 0) (fun i _ => 16 - (intOf i).toNat)
  case atStart => exact ⟨0, 0, by decide, rfl, rfl, fun i hi => by omega⟩
  case round =>
    obtain ⟨k, q, hk, rfl, rfl, hall⟩ := hrel
    have HALL : Hid (∀ i, i < k → xs.getD i 0 = ys.getD i 0) := hall
    clear hall
    by_cases hlt : k < 16
    · have hlt' : (k : Int) < 16 := by omega
      have c1' := HC1.out k hlt
      have c2' := HC2.out k hlt
      have HXY : Hid (∀ d e : Int, xs.getD k 0 = d → ys.getD k 0 = e → d = e → ∀ i, i < k + 1 → xs.getD i 0 = ys.getD i 0) := fun d e h1 h2 h3 i hi => by
        by_cases h : i = k
        · subst h; rw [h1, h2, h3]
        · exact HALL.out i (by omega)
      have HNE : Hid (xs.getD k 0 ≠ ys.getD k 0 → decide (x = y) = false) := fun h => decide_eq_false (fun e => h (HEQ.out.1 e k hlt))
      by_cases hxy : xs.getD k 0 = ys.getD k 0
      · have HS : Hid (∀ i, i < k + 1 → xs.getD i 0 = ys.getD i 0) := HXY.out _ _ rfl rfl hxy
        rw [← hxy] at c2'
        clear HXY HNE hxy
        generalize xs.getD k 0 = d at *
        go_wp2
        go_quiet (fail)
        rw [dN_dN]
        clear c1' c2'
        go_wp2
        go_roundw
        case rel => exact ⟨k + 1, q + nq, by omega, by go_num, rfl, HS.out⟩
        case measure => simp [intOf]; omega
      · have HD : Hid (decide (x = y) = false) := HNE.out hxy
        clear HXY HNE
        generalize xs.getD k 0 = d at *
        generalize ys.getD k 0 = d' at *
        have hdd : (d == d') = false := by simpa using hxy
        have hdn : (d != d') = true := by simpa using hxy
        clear hxy
        go_wp2
        go_quiet (fail)
        rw [dN_dN]
        clear c1' c2' hdd hdn
        go_wp2
        go_ret
        exact ⟨by rw [HD.out]; rfl, ⟨HB2.out.os, HB2.out.tape, HB2.out.output, HB2.out.size, HB2.out.block⟩⟩
    · have hk16 : k = 16 := by omega
      have HD : Hid (decide (x = y) = true) := decide_eq_true (HEQ.out.2 (fun i hi => HALL.out i (by omega)))
      have hlt' : ¬ (k : Int) < 16 := by omega
      clear hk16
      go_wp2
      go_ret
      exact ⟨by rw [HD.out]; rfl, ⟨HB2.out.os, HB2.out.tape, HB2.out.output, HB2.out.size, HB2.out.block⟩⟩

/-- The model's elements that stand. -/
structure SR (w wr : World) (L : List (Option Addr × Int)) : Prop where
  below : Below w.heap.size w wr
  fe : ∀ e ∈ L, FeA wr e.1 e.2
theorem SR.start (w : World) (L : List (Option Addr × Int)) (h : ∀ e ∈ L, FeA w e.1 e.2) : SR w w L := ⟨Below.refl _ _, h⟩
theorem SR.at {w wr : World} {L : List (Option Addr × Int)} (h : SR w wr L) (i : Nat) (a : Option Addr) (x : Int) (hi : L[i]? = some (a, x)) : FeA wr a x := h.fe _ (List.mem_of_getElem? hi)
theorem SR.low {w wr w' : World} {L : List (Option Addr × Int)} (h : SR w wr L) (b : Below wr.heap.size wr w') : SR w w' L := ⟨h.below.trans (b.mono h.below.size), fun e he => (h.fe e he).below b⟩
theorem SR.add {w wr w' : World} {L : List (Option Addr × Int)} {a : Option Addr} {x : Int} (h : SR w wr L) (hf : FeA w' a x) (b : Below wr.heap.size wr w') : SR w w' ((a, x) :: L) :=
  ⟨(h.low b).below, fun e he => by
    rcases List.mem_cons.1 he with rfl | he
    · exact hf
    · exact (h.low b).fe e he⟩
def inv0 (x : Int) : Int := pwF x 11 5 254 255
def pw1 (x : Int) : Int := pwF x 5 3 251 252
def pw2 (x : Int) : Int := pwF x 3 3 252 253
def mdD : Int := (-121665) % fp * inv0 (121666 % fp) % fp
def mdU (Y : Int) : Int := (Y * Y % fp - 1 % fp) % fp
def mdV (Y D : Int) : Int := (D * (Y * Y % fp) % fp + 1 % fp) % fp
def mdW (Y D : Int) : Int := mdU Y * inv0 (mdV Y D) % fp
def mdR (Y D : Int) : Int := mdW Y D * pw1 (mdW Y D) % fp
def mdQ (Y D : Int) : Int := mdR Y D * pw2 (2 % fp) % fp
def mdOk (Y D : Int) : Bool := decide (mdR Y D * mdR Y D % fp = mdW Y D) || decide (mdQ Y D * mdQ Y D % fp = mdW Y D)
def mdX (Y D : Int) : Int := if mdR Y D * mdR Y D % fp = mdW Y D then mdR Y D else mdQ Y D
/-- What l4Root answers. -/
def RtP (w : World) (Y D : Int) (e : Ending) (w' : World) : Prop :=
  ∃ g c, e = .returned (.tuple #[.bool (mdOk Y D), .slice (some ⟨g, 0, none⟩) 16 c]) ∧ w.heap.size ≤ g ∧ g < w'.heap.size ∧ FeA w' (some ⟨g, 0, none⟩) (mdX Y D) ∧ Below w.heap.size w w'
set_option maxHeartbeats 2000000 in
theorem d_any (w : World) : Calls Try.prog 52 #[] w (FeP w mdD) := by
  have HS0 : Hid (SR w w []) := SR.start w [] (by simp)
  go_enter Try.func52, Try.ntmps52
  go_wp2_with fail
  refine (small_any (-121665) _ (by decide) (by decide)).mono ?_
  rintro e w1 ⟨g1, c1, rfl, k1, l1, hf, hb⟩
  have HS1 : Hid (SR w w1 [(some ⟨g1, 0, none⟩, (-121665) % fp)]) := HS0.out.add hf hb
  have m1 := hb.size
  clear hf hb HS0
  go_wp2_with fail
  refine (small_any 121666 _ (by decide) (by decide)).mono ?_
  rintro e w2 ⟨g2, c2, rfl, k2, l2, hf, hb⟩
  have HS2 : Hid (SR w w2 [(some ⟨g2, 0, none⟩, 121666 % fp), (some ⟨g1, 0, none⟩, (-121665) % fp)]) := HS1.out.add hf hb
  have m2 := hb.size
  clear hf hb HS1
  go_wp2_with fail
  refine (pow0_any _ c2 (121666 % fp) _ (HS2.out.at 0 _ _ rfl)).mono ?_
  rintro e w3 ⟨g3, c3, rfl, k3, l3, hf, hb⟩
  have HS3 : Hid (SR w w3 [(some ⟨g3, 0, none⟩, inv0 (121666 % fp)), (some ⟨g2, 0, none⟩, 121666 % fp), (some ⟨g1, 0, none⟩, (-121665) % fp)]) := HS2.out.add hf hb
  have m3 := hb.size
  clear hf hb HS2
  go_wp2_with fail
  refine (fmul_any _ _ c1 c3 ((-121665) % fp) (inv0 (121666 % fp)) _ (HS3.out.at 2 _ _ rfl) (HS3.out.at 0 _ _ rfl)).mono ?_
  rintro e w4 ⟨g4, c4, rfl, k4, l4, hf, hb⟩
  have HS4 : Hid (SR w w4 [(some ⟨g4, 0, none⟩, mdD), (some ⟨g3, 0, none⟩, inv0 (121666 % fp)), (some ⟨g2, 0, none⟩, 121666 % fp), (some ⟨g1, 0, none⟩, (-121665) % fp)]) := HS3.out.add hf hb
  have m4 := hb.size
  clear hf hb HS3
  have HP : Hid (w.heap.size ≤ g4 ∧ g4 < w4.heap.size) := ⟨by omega, by omega⟩
  go_wp2
  go_ret
  exact ⟨g4, c4, rfl, HP.out.1, HP.out.2, HS4.out.at 0 _ _ rfl, HS4.out.below⟩

set_option maxHeartbeats 4000000 in
theorem root_any (a a' : Option Addr) (cap cap' : Nat) (Y D : Int) (w : World) (ha : FeA w a Y) (ha' : FeA w a' D) :
    Calls Try.prog 88 #[.slice a 16 cap, .slice a' 16 cap'] w (RtP w Y D) := by
  have HS0 : Hid (SR w w [(a, Y), (a', D)]) := SR.start w _ (fun e he => by
    simp only [List.mem_cons, List.not_mem_nil, or_false] at he
    rcases he with rfl | rfl
    · exact ha
    · exact ha')
  clear ha ha'
  go_enter Try.func88, Try.ntmps88
  go_wp2_with fail
  refine (fmul_any _ _ cap cap (Y) (Y) _ (HS0.out.at 0 _ _ rfl) (HS0.out.at 0 _ _ rfl)).mono ?_
  rintro e w1 ⟨g1, c1, rfl, k1, l1, hf, hb⟩
  have HS1 : Hid (SR w w1 [(some ⟨g1, 0, none⟩, Y * Y % fp), (a, Y), (a', D)]) := HS0.out.add hf hb
  have m1 := hb.size
  clear hf hb HS0
  go_wp2_with fail
  refine (small_any 1 _ (by decide) (by decide)).mono ?_
  rintro e w2 ⟨g2, c2, rfl, k2, l2, hf, hb⟩
  have HS2 : Hid (SR w w2 [(some ⟨g2, 0, none⟩, 1 % fp), (some ⟨g1, 0, none⟩, Y * Y % fp), (a, Y), (a', D)]) := HS1.out.add hf hb
  have m2 := hb.size
  clear hf hb HS1
  go_wp2_with fail
  refine (fsub_any _ _ c1 c2 (Y * Y % fp) (1 % fp) _ (HS2.out.at 1 _ _ rfl) (HS2.out.at 0 _ _ rfl)).mono ?_
  rintro e w3 ⟨g3, c3, rfl, k3, l3, hf, hb⟩
  have HS3 : Hid (SR w w3 [(some ⟨g3, 0, none⟩, mdU Y), (some ⟨g2, 0, none⟩, 1 % fp), (some ⟨g1, 0, none⟩, Y * Y % fp), (a, Y), (a', D)]) := HS2.out.add hf hb
  have m3 := hb.size
  clear hf hb HS2
  go_wp2_with fail
  refine (fmul_any _ _ cap' c1 (D) (Y * Y % fp) _ (HS3.out.at 4 _ _ rfl) (HS3.out.at 2 _ _ rfl)).mono ?_
  rintro e w4 ⟨g4, c4, rfl, k4, l4, hf, hb⟩
  have HS4 : Hid (SR w w4 [(some ⟨g4, 0, none⟩, D * (Y * Y % fp) % fp), (some ⟨g3, 0, none⟩, mdU Y), (some ⟨g2, 0, none⟩, 1 % fp), (some ⟨g1, 0, none⟩, Y * Y % fp), (a, Y), (a', D)]) := HS3.out.add hf hb
  have m4 := hb.size
  clear hf hb HS3
  go_wp2_with fail
  refine (small_any 1 _ (by decide) (by decide)).mono ?_
  rintro e w5 ⟨g5, c5, rfl, k5, l5, hf, hb⟩
  have HS5 : Hid (SR w w5 [(some ⟨g5, 0, none⟩, 1 % fp), (some ⟨g4, 0, none⟩, D * (Y * Y % fp) % fp), (some ⟨g3, 0, none⟩, mdU Y), (some ⟨g2, 0, none⟩, 1 % fp), (some ⟨g1, 0, none⟩, Y * Y % fp), (a, Y), (a', D)]) := HS4.out.add hf hb
  have m5 := hb.size
  clear hf hb HS4
  go_wp2_with fail
  refine (fadd_any _ _ c4 c5 (D * (Y * Y % fp) % fp) (1 % fp) _ (HS5.out.at 1 _ _ rfl) (HS5.out.at 0 _ _ rfl)).mono ?_
  rintro e w6 ⟨g6, c6, rfl, k6, l6, hf, hb⟩
  have HS6 : Hid (SR w w6 [(some ⟨g6, 0, none⟩, mdV Y D), (some ⟨g5, 0, none⟩, 1 % fp), (some ⟨g4, 0, none⟩, D * (Y * Y % fp) % fp), (some ⟨g3, 0, none⟩, mdU Y), (some ⟨g2, 0, none⟩, 1 % fp), (some ⟨g1, 0, none⟩, Y * Y % fp), (a, Y), (a', D)]) := HS5.out.add hf hb
  have m6 := hb.size
  clear hf hb HS5
  go_wp2_with fail
  refine (pow0_any _ c6 (mdV Y D) _ (HS6.out.at 0 _ _ rfl)).mono ?_
  rintro e w7 ⟨g7, c7, rfl, k7, l7, hf, hb⟩
  have HS7 : Hid (SR w w7 [(some ⟨g7, 0, none⟩, inv0 (mdV Y D)), (some ⟨g6, 0, none⟩, mdV Y D), (some ⟨g5, 0, none⟩, 1 % fp), (some ⟨g4, 0, none⟩, D * (Y * Y % fp) % fp), (some ⟨g3, 0, none⟩, mdU Y), (some ⟨g2, 0, none⟩, 1 % fp), (some ⟨g1, 0, none⟩, Y * Y % fp), (a, Y), (a', D)]) := HS6.out.add hf hb
  have m7 := hb.size
  clear hf hb HS6
  go_wp2_with fail
  refine (fmul_any _ _ c3 c7 (mdU Y) (inv0 (mdV Y D)) _ (HS7.out.at 4 _ _ rfl) (HS7.out.at 0 _ _ rfl)).mono ?_
  rintro e w8 ⟨g8, c8, rfl, k8, l8, hf, hb⟩
  have HS8 : Hid (SR w w8 [(some ⟨g8, 0, none⟩, mdW Y D), (some ⟨g7, 0, none⟩, inv0 (mdV Y D)), (some ⟨g6, 0, none⟩, mdV Y D), (some ⟨g5, 0, none⟩, 1 % fp), (some ⟨g4, 0, none⟩, D * (Y * Y % fp) % fp), (some ⟨g3, 0, none⟩, mdU Y), (some ⟨g2, 0, none⟩, 1 % fp), (some ⟨g1, 0, none⟩, Y * Y % fp), (a, Y), (a', D)]) := HS7.out.add hf hb
  have m8 := hb.size
  clear hf hb HS7
  go_wp2_with fail
  refine (pow1_any _ c8 (mdW Y D) _ (HS8.out.at 0 _ _ rfl)).mono ?_
  rintro e w9 ⟨g9, c9, rfl, k9, l9, hf, hb⟩
  have HS9 : Hid (SR w w9 [(some ⟨g9, 0, none⟩, pw1 (mdW Y D)), (some ⟨g8, 0, none⟩, mdW Y D), (some ⟨g7, 0, none⟩, inv0 (mdV Y D)), (some ⟨g6, 0, none⟩, mdV Y D), (some ⟨g5, 0, none⟩, 1 % fp), (some ⟨g4, 0, none⟩, D * (Y * Y % fp) % fp), (some ⟨g3, 0, none⟩, mdU Y), (some ⟨g2, 0, none⟩, 1 % fp), (some ⟨g1, 0, none⟩, Y * Y % fp), (a, Y), (a', D)]) := HS8.out.add hf hb
  have m9 := hb.size
  clear hf hb HS8
  go_wp2_with fail
  refine (fmul_any _ _ c8 c9 (mdW Y D) (pw1 (mdW Y D)) _ (HS9.out.at 1 _ _ rfl) (HS9.out.at 0 _ _ rfl)).mono ?_
  rintro e w10 ⟨g10, c10, rfl, k10, l10, hf, hb⟩
  have HS10 : Hid (SR w w10 [(some ⟨g10, 0, none⟩, mdR Y D), (some ⟨g9, 0, none⟩, pw1 (mdW Y D)), (some ⟨g8, 0, none⟩, mdW Y D), (some ⟨g7, 0, none⟩, inv0 (mdV Y D)), (some ⟨g6, 0, none⟩, mdV Y D), (some ⟨g5, 0, none⟩, 1 % fp), (some ⟨g4, 0, none⟩, D * (Y * Y % fp) % fp), (some ⟨g3, 0, none⟩, mdU Y), (some ⟨g2, 0, none⟩, 1 % fp), (some ⟨g1, 0, none⟩, Y * Y % fp), (a, Y), (a', D)]) := HS9.out.add hf hb
  have m10 := hb.size
  clear hf hb HS9
  go_wp2_with fail
  refine (fmul_any _ _ c10 c10 (mdR Y D) (mdR Y D) _ (HS10.out.at 0 _ _ rfl) (HS10.out.at 0 _ _ rfl)).mono ?_
  rintro e w11 ⟨g11, c11, rfl, k11, l11, hf, hb⟩
  have HS11 : Hid (SR w w11 [(some ⟨g11, 0, none⟩, mdR Y D * mdR Y D % fp), (some ⟨g10, 0, none⟩, mdR Y D), (some ⟨g9, 0, none⟩, pw1 (mdW Y D)), (some ⟨g8, 0, none⟩, mdW Y D), (some ⟨g7, 0, none⟩, inv0 (mdV Y D)), (some ⟨g6, 0, none⟩, mdV Y D), (some ⟨g5, 0, none⟩, 1 % fp), (some ⟨g4, 0, none⟩, D * (Y * Y % fp) % fp), (some ⟨g3, 0, none⟩, mdU Y), (some ⟨g2, 0, none⟩, 1 % fp), (some ⟨g1, 0, none⟩, Y * Y % fp), (a, Y), (a', D)]) := HS10.out.add hf hb
  have m11 := hb.size
  clear hf hb HS10
  go_wp2_with fail
  refine (equal_any _ _ c11 c8 (mdR Y D * mdR Y D % fp) (mdW Y D) _ (HS11.out.at 0 _ _ rfl) (HS11.out.at 3 _ _ rfl)).mono ?_
  rintro e wq ⟨rfl, hb⟩
  have HSq : Hid (SR w wq [(some ⟨g11, 0, none⟩, mdR Y D * mdR Y D % fp), (some ⟨g10, 0, none⟩, mdR Y D), (some ⟨g9, 0, none⟩, pw1 (mdW Y D)), (some ⟨g8, 0, none⟩, mdW Y D), (some ⟨g7, 0, none⟩, inv0 (mdV Y D)), (some ⟨g6, 0, none⟩, mdV Y D), (some ⟨g5, 0, none⟩, 1 % fp), (some ⟨g4, 0, none⟩, D * (Y * Y % fp) % fp), (some ⟨g3, 0, none⟩, mdU Y), (some ⟨g2, 0, none⟩, 1 % fp), (some ⟨g1, 0, none⟩, Y * Y % fp), (a, Y), (a', D)]) := HS11.out.low hb
  have mq := hb.size
  clear hb HS11
  by_cases hq : mdR Y D * mdR Y D % fp = mdW Y D
  · have HQ : Hid (mdOk Y D = true ∧ mdX Y D = mdR Y D) := ⟨by unfold mdOk; rw [decide_eq_true hq]; rfl, by unfold mdX; rw [if_pos hq]⟩
    rw [decide_eq_true hq]
    clear hq
    have HP : Hid (w.heap.size ≤ g10 ∧ g10 < wq.heap.size) := ⟨by omega, by omega⟩
    go_wp2
    go_ret2
    exact ⟨g10, c10, by rw [HQ.out.1]; rfl, HP.out.1, HP.out.2, by rw [HQ.out.2]; exact HSq.out.at 1 _ _ rfl, HSq.out.below⟩
  · have HQ : Hid (¬ (mdR Y D * mdR Y D % fp = mdW Y D)) := hq
    rw [decide_eq_false hq]
    clear hq
    go_wp2_with fail
    refine (small_any 2 _ (by decide) (by decide)).mono ?_
    rintro e w12 ⟨g12, c12, rfl, k12, l12, hf, hb⟩
    have HS12 : Hid (SR w w12 [(some ⟨g12, 0, none⟩, 2 % fp), (some ⟨g11, 0, none⟩, mdR Y D * mdR Y D % fp), (some ⟨g10, 0, none⟩, mdR Y D), (some ⟨g9, 0, none⟩, pw1 (mdW Y D)), (some ⟨g8, 0, none⟩, mdW Y D), (some ⟨g7, 0, none⟩, inv0 (mdV Y D)), (some ⟨g6, 0, none⟩, mdV Y D), (some ⟨g5, 0, none⟩, 1 % fp), (some ⟨g4, 0, none⟩, D * (Y * Y % fp) % fp), (some ⟨g3, 0, none⟩, mdU Y), (some ⟨g2, 0, none⟩, 1 % fp), (some ⟨g1, 0, none⟩, Y * Y % fp), (a, Y), (a', D)]) := HSq.out.add hf hb
    have m12 := hb.size
    clear hf hb HSq
    go_wp2_with fail
    refine (pow2_any _ c12 (2 % fp) _ (HS12.out.at 0 _ _ rfl)).mono ?_
    rintro e w13 ⟨g13, c13, rfl, k13, l13, hf, hb⟩
    have HS13 : Hid (SR w w13 [(some ⟨g13, 0, none⟩, pw2 (2 % fp)), (some ⟨g12, 0, none⟩, 2 % fp), (some ⟨g11, 0, none⟩, mdR Y D * mdR Y D % fp), (some ⟨g10, 0, none⟩, mdR Y D), (some ⟨g9, 0, none⟩, pw1 (mdW Y D)), (some ⟨g8, 0, none⟩, mdW Y D), (some ⟨g7, 0, none⟩, inv0 (mdV Y D)), (some ⟨g6, 0, none⟩, mdV Y D), (some ⟨g5, 0, none⟩, 1 % fp), (some ⟨g4, 0, none⟩, D * (Y * Y % fp) % fp), (some ⟨g3, 0, none⟩, mdU Y), (some ⟨g2, 0, none⟩, 1 % fp), (some ⟨g1, 0, none⟩, Y * Y % fp), (a, Y), (a', D)]) := HS12.out.add hf hb
    have m13 := hb.size
    clear hf hb HS12
    go_wp2_with fail
    refine (fmul_any _ _ c10 c13 (mdR Y D) (pw2 (2 % fp)) _ (HS13.out.at 3 _ _ rfl) (HS13.out.at 0 _ _ rfl)).mono ?_
    rintro e w14 ⟨g14, c14, rfl, k14, l14, hf, hb⟩
    have HS14 : Hid (SR w w14 [(some ⟨g14, 0, none⟩, mdQ Y D), (some ⟨g13, 0, none⟩, pw2 (2 % fp)), (some ⟨g12, 0, none⟩, 2 % fp), (some ⟨g11, 0, none⟩, mdR Y D * mdR Y D % fp), (some ⟨g10, 0, none⟩, mdR Y D), (some ⟨g9, 0, none⟩, pw1 (mdW Y D)), (some ⟨g8, 0, none⟩, mdW Y D), (some ⟨g7, 0, none⟩, inv0 (mdV Y D)), (some ⟨g6, 0, none⟩, mdV Y D), (some ⟨g5, 0, none⟩, 1 % fp), (some ⟨g4, 0, none⟩, D * (Y * Y % fp) % fp), (some ⟨g3, 0, none⟩, mdU Y), (some ⟨g2, 0, none⟩, 1 % fp), (some ⟨g1, 0, none⟩, Y * Y % fp), (a, Y), (a', D)]) := HS13.out.add hf hb
    have m14 := hb.size
    clear hf hb HS13
    go_wp2_with fail
    refine (fmul_any _ _ c14 c14 (mdQ Y D) (mdQ Y D) _ (HS14.out.at 0 _ _ rfl) (HS14.out.at 0 _ _ rfl)).mono ?_
    rintro e w15 ⟨g15, c15, rfl, k15, l15, hf, hb⟩
    have HS15 : Hid (SR w w15 [(some ⟨g15, 0, none⟩, mdQ Y D * mdQ Y D % fp), (some ⟨g14, 0, none⟩, mdQ Y D), (some ⟨g13, 0, none⟩, pw2 (2 % fp)), (some ⟨g12, 0, none⟩, 2 % fp), (some ⟨g11, 0, none⟩, mdR Y D * mdR Y D % fp), (some ⟨g10, 0, none⟩, mdR Y D), (some ⟨g9, 0, none⟩, pw1 (mdW Y D)), (some ⟨g8, 0, none⟩, mdW Y D), (some ⟨g7, 0, none⟩, inv0 (mdV Y D)), (some ⟨g6, 0, none⟩, mdV Y D), (some ⟨g5, 0, none⟩, 1 % fp), (some ⟨g4, 0, none⟩, D * (Y * Y % fp) % fp), (some ⟨g3, 0, none⟩, mdU Y), (some ⟨g2, 0, none⟩, 1 % fp), (some ⟨g1, 0, none⟩, Y * Y % fp), (a, Y), (a', D)]) := HS14.out.add hf hb
    have m15 := hb.size
    clear hf hb HS14
    go_wp2_with fail
    refine (equal_any _ _ c15 c8 (mdQ Y D * mdQ Y D % fp) (mdW Y D) _ (HS15.out.at 0 _ _ rfl) (HS15.out.at 7 _ _ rfl)).mono ?_
    rintro e wz ⟨rfl, hb⟩
    have HSz : Hid (SR w wz [(some ⟨g15, 0, none⟩, mdQ Y D * mdQ Y D % fp), (some ⟨g14, 0, none⟩, mdQ Y D), (some ⟨g13, 0, none⟩, pw2 (2 % fp)), (some ⟨g12, 0, none⟩, 2 % fp), (some ⟨g11, 0, none⟩, mdR Y D * mdR Y D % fp), (some ⟨g10, 0, none⟩, mdR Y D), (some ⟨g9, 0, none⟩, pw1 (mdW Y D)), (some ⟨g8, 0, none⟩, mdW Y D), (some ⟨g7, 0, none⟩, inv0 (mdV Y D)), (some ⟨g6, 0, none⟩, mdV Y D), (some ⟨g5, 0, none⟩, 1 % fp), (some ⟨g4, 0, none⟩, D * (Y * Y % fp) % fp), (some ⟨g3, 0, none⟩, mdU Y), (some ⟨g2, 0, none⟩, 1 % fp), (some ⟨g1, 0, none⟩, Y * Y % fp), (a, Y), (a', D)]) := HS15.out.low hb
    have mz := hb.size
    clear hb HS15
    have HD : Hid (decide (mdQ Y D * mdQ Y D % fp = mdW Y D) = mdOk Y D ∧ mdX Y D = mdQ Y D) := ⟨by unfold mdOk; rw [decide_eq_false HQ.out]; simp, by unfold mdX; rw [if_neg HQ.out]⟩
    rw [HD.out.1]
    have HP : Hid (w.heap.size ≤ g14 ∧ g14 < wz.heap.size) := ⟨by omega, by omega⟩
    go_wp2
    go_ret2
    exact ⟨g14, c14, rfl, HP.out.1, HP.out.2, by rw [HD.out.2]; exact HSz.out.at 1 _ _ rfl, HSz.out.below⟩
end Go.Proofs.Ythghkfncpdnpoac
