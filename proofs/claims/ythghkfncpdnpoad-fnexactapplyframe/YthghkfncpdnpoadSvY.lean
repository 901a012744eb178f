/-
  Own work: frames applied to a book, by the program: acknowledgements and denials.
-/
import Derived.Test.YthghkfncpdnpoadMSvW
import Derived.Test.YthghkfncpdnpoadSvV
namespace Go.Proofs.Ythghkfncpdnpoad
open Go.ChangeShapes Go.WideShapes Go.ChangeAt Go.RowKit
set_option linter.unusedVariables false
variable {w w' : World} {g : Nat} {d u : List Int} {k : Int} {v : Value} {D U : Nat → Prop} {T : List Int} {n H B : Nat}

theorem ack_any (m : Nat) (hb : Bk w g d u k v) (hv : TapV B w v T n) (h0 : 0 ≤ k) (h1 : k ≤ 1048576) (hm : m ≤ n) (hn : n ≤ 1048576) (hH : H ≤ g) (hgB : NeG g v) :
    Calls Try.prog 104 #[.pointer (some ⟨g, 0, none⟩), .int .i64 (k + m)] w fun e w' => e = .returned (.tuple #[]) ∧ Below H w w' ∧ ∃ v', Bk w' g d u (k + m) v' ∧ TapV B w' v' (T.drop (m * 2)) (n - m) ∧ NeG g v' := by
  have hv0 := hv
  obtain ⟨hl, ⟨rfl, hn0⟩ | ⟨t, o, c, rfl, hB, ht, hc, hx, hy⟩⟩ := hv
  · have hm0 : m = 0 := by omega
    subst hm0
    rw [show k + ((0 : Nat) : Int) = k by omega]
    refine (ackN_any hb h0 h1).mono ?_
    rintro e w1 ⟨rfl, q, rfl⟩
    obtain ⟨r1, r2, r3⟩ := bk_ack (q := q) (k' := k) (m := 0) hb hH hgB hv0
    exact ⟨rfl, r2, _, r1, by simpa using r3, hgB⟩
  · refine (ackS_any t o n c m hb h0 h1 hm hc hn hx).mono ?_
    rintro e w1 ⟨rfl, q, rfl⟩
    have hne : NeG g (ackV t o n c m) := fun x hx => hgB x (by unfold ackV at hx; split at hx <;> exact hx)
    obtain ⟨r1, r2, r3⟩ := bk_ack (q := q) (k' := k + m) (m := m) hb hH hne (hv0.drop m hm)
    exact ⟨rfl, r2, _, r1, r3, hne⟩
theorem TapV.slice (h : TapV B w v T n) : ∃ a c, v = .slice a n c := by
  obtain ⟨hl, ⟨h1, h2⟩ | ⟨t, o, c, h1, _⟩⟩ := h
  · exact ⟨none, 0, by rw [h1, h2]⟩
  · exact ⟨_, c, h1⟩
theorem TapV.drew (h : TapV B w v T n) (q : Nat) : TapV B (w.drewN q) v T n := h.block (Nat.le_refl _) (fun t _ _ => rfl)
set_option maxRecDepth 100000 in
set_option maxHeartbeats 1000000 in
theorem applyAck_any (a : Int) (a0 : 0 ≤ a) (a1 : a ≤ 4294967295) (hb : Bk w g d u k v) (hd : SetB d D) (hu : SetB u U) (hv : TapV B w v T n) (h0 : 0 ≤ k) (h1 : k ≤ 1048576) (hn : n ≤ 1048576) (hH : H ≤ g) (hgB : NeG g v) :
    Calls Try.prog 86 #[.pointer (some ⟨g, 0, none⟩), .int .i64 a] w (ApP H B g w (decide (a ≤ k + n)) D U (max a k) (T.drop (ackM k a * 2)) (n - ackM k a)) := by
  obtain ⟨ad, c, rfl⟩ := hv.slice
  have HB : Hid (Bk w g d u k (.slice ad n c)) := hb
  have HV : Hid (TapV B w (.slice ad n c) T n) := hv
  have HSD : Hid (SetB d D) := hd
  have HSU : Hid (SetB u U) := hu
  clear hb hv hd hu
  go_enter Try.func86, Try.ntmps86
  go_wp2_with fail
  refine (admitted_any ad n c HB.out h0 h1 hn).mono ?_
  rintro e w1 ⟨rfl, q, rfl⟩
  have HB1 : Hid (Bk (w.drewN q) g d u k (.slice ad n c)) := HB.out.drew q
  have HV1 : Hid (TapV B (w.drewN q) (.slice ad n c) T n) := HV.out.drew q
  have HW1 : Hid (Below H w (w.drewN q)) := below_dq (Below.refl _ _) q
  clear HB HV
  generalize w.drewN q = w1 at *
  by_cases hle : a ≤ k + n
  · have HD : Hid (decide (a ≤ k + n) = true) := decide_eq_true hle
    have hle' : ¬ (a > k + n) := by omega
    have c0 := HB1.out.ck
    have f0 := HB1.out.fz 64
    have HC : Hid (∀ (e : Ending) (w2 : World), (e = .returned (.tuple #[]) ∧ Below H w1 w2 ∧ ∃ v', Bk w2 g d u (k + ackM k a) v' ∧ TapV B w2 v' (T.drop (ackM k a * 2)) (n - ackM k a) ∧ NeG g v') → ApP H B g w (decide (a ≤ k + n)) D U (max a k) (T.drop (ackM k a * 2)) (n - ackM k a) (.returned (.bool true)) w2) := by
      rintro e w2 ⟨rfl, r1, v', r2, r3, r4⟩
      refine ⟨by rw [HD.out], HW1.out.trans r1, fun _ => ⟨d, u, v', ?_, HSD.out, HSU.out, r3, r4⟩⟩
      have e : k + (ackM k a : Int) = max a k := by unfold ackM; omega
      rw [← e]; exact r2
    have CA := ack_any (ackM k a) HB1.out HV1.out h0 h1 (by unfold ackM; omega) hn hH hgB
    by_cases hka : k ≤ a
    · have e : k + (ackM k a : Int) = a := by unfold ackM; omega
      rw [e] at CA
      clear e
      go_wp2_with fail
      refine CA.mono ?_
      intro e w2 h
      have HF := HC.out e w2 (by have e' : k + (ackM k a : Int) = a := by unfold ackM; omega
                                 rw [e']; exact h)
      obtain ⟨rfl, _⟩ := h
      have HF' : Hid _ := HF
      clear HF HC CA HB1 HV1 HW1 HSD HSU c0 f0
      go_wp2
      go_ret
      exact HF'.out
    · have e : k + (ackM k a : Int) = k := by unfold ackM; omega
      rw [e] at CA
      clear e
      go_wp2_with fail
      refine CA.mono ?_
      intro e w2 h
      have HF := HC.out e w2 (by have e' : k + (ackM k a : Int) = k := by unfold ackM; omega
                                 rw [e']; exact h)
      obtain ⟨rfl, _⟩ := h
      have HF' : Hid _ := HF
      clear HF HC CA HB1 HV1 HW1 HSD HSU c0 f0
      go_wp2
      go_ret
      exact HF'.out
  · have HD : Hid (decide (a ≤ k + n) = false) := decide_eq_false hle
    have hle' : a > k + n := by omega
    have HF : Hid (ApP H B g w (decide (a ≤ k + n)) D U (max a k) (T.drop (ackM k a * 2)) (n - ackM k a) (.returned (.bool false)) w1) := ⟨by rw [HD.out], HW1.out, fun h => by rw [HD.out] at h; cases h⟩
    clear HB1 HV1 HSD HSU
    go_wp2
    go_ret
    exact HF.out
end Go.Proofs.Ythghkfncpdnpoad
