/-
  Own work: denials applied to a book, by the program.
-/
import Derived.Test.YthghkfncpdnpoadSvY
namespace Go.Proofs.Ythghkfncpdnpoad
open Go.ChangeShapes Go.WideShapes Go.ChangeAt Go.RowKit
set_option linter.unusedVariables false
variable {w w' : World} {g : Nat} {d u : List Int} {k : Int} {v : Value} {D U : Nat → Prop} {T : List Int} {n H B : Nat}

theorem ser_yes {s : Nat} (h : s < 256) : serOk (s : Int) = true := decide_eq_true ⟨by omega, by omega⟩
theorem ser_no {s : Nat} (h : ¬ s < 256) : serOk (s : Int) = false := decide_eq_false (fun h' => h (by omega))
theorem hasYes_any {o : Nat} (s : Nat) (hb : BAt w g o d) (hd : SetB d D) (hin : s < 256 ∧ D s) : Calls Try.prog 98 #[.pointer (some ⟨g, o, none⟩), .int .i64 s] w fun e w' => e = .returned (.bool true) ∧ w' = w :=
  hasS_any g o s d D true w hb hd (by
    rw [Int.toNat_natCast]
    exact ⟨fun _ => ⟨by omega, by omega, hin.2⟩, fun h => rfl⟩)
theorem hasNo_any {o : Nat} (s : Nat) (hb : BAt w g o d) (hd : SetB d D) (hin : ¬ (s < 256 ∧ D s)) : Calls Try.prog 98 #[.pointer (some ⟨g, o, none⟩), .int .i64 s] w fun e w' => e = .returned (.bool false) ∧ w' = w :=
  hasS_any g o s d D false w hb hd (by
    rw [Int.toNat_natCast]
    exact ⟨fun h => (by cases h), fun h => absurd ⟨by omega, h.2.2⟩ hin⟩)
theorem TapV.wr (h : TapV B w v T n) (hw : Wr g w w') (hg : NeG g v) : TapV B w' v T n := h.block (by rw [hw.size]; exact Nat.le_refl _) (fun t ht _ => hw.block t (hg t ht))
set_option maxRecDepth 100000 in
set_option maxHeartbeats 1000000 in
theorem denyAdd_any (s : Nat) (hs : s < 256) (hnot : ¬ D s) (hfull : ¬ popS d 32 = 16) (hb : Bk w g d u k v) (hd : SetB d D) (hu : SetB u U) (hv : TapV B w v T n) (hH : H ≤ g) (hgB : NeG g v) :
    Calls Try.prog 85 #[.pointer (some ⟨g, 0, none⟩), .int .i64 s, .int .u32 1] w (ApP H B g w true (fun x => D x ∨ x = s) U k T n) := by
  have HQ : Hid (¬ (s < 256 ∧ D s)) := fun h => hnot h.2
  have HP : Hid (decide (popS d 32 = 16) = false) := decide_eq_false hfull
  have HSO : Hid (serOk (s : Int) = true) := ser_yes hs
  have HB : Hid (Bk w g d u k v) := hb
  have HSD : Hid (SetB d D) := hd
  have HF : ∀ q, Hid (ApP H B g w true (fun x => D x ∨ x = s) U k T n (.returned (.bool true)) ((w.setCell ⟨g, 0 + s / 8, none⟩ (.int .u8 ((addB d s).getD (s / 8) 0))).drewN q)) := fun q => by
    have hw : Wr g w ((w.setCell ⟨g, 0 + s / 8, none⟩ (.int .u8 ((addB d s).getD (s / 8) 0))).drewN q) := ((Wr.refl _ _).setCell _ _).drewN _
    exact ⟨rfl, hw.below hH, fun _ => ⟨_, _, _, (hb.addD s hs).drew q, hd.add s hs, hu, hv.wr hw hgB, hgB⟩⟩
  clear hb hd hu hv hnot hfull
  go_enter Try.func85, Try.ntmps85
  go_wp2_with fail
  refine (isSerial_any _ _).mono ?_
  rintro e w1 ⟨rfl, rfl⟩
  rw [HSO.out]
  go_wp2_with fail
  refine (hasNo_any s HB.out.batd HSD.out HQ.out).mono ?_
  rintro e w2 ⟨rfl, rfl⟩
  go_wp2_with fail
  refine (full_any HB.out).mono ?_
  rintro e w3 ⟨rfl, rfl⟩
  rw [HP.out]
  go_wp2_with fail
  refine (addS_any g 0 s d _ hs HB.out.batd).mono ?_
  rintro e w4 ⟨rfl, q, rfl⟩
  have H2 := HF q
  clear HF HB HSD HQ HP HSO
  generalize (w3.setCell ⟨g, 0 + s / 8, none⟩ (.int .u8 ((addB d s).getD (s / 8) 0))).drewN q = w4 at *
  go_wp2
  go_ret
  exact H2.out
set_option maxRecDepth 100000 in
set_option maxHeartbeats 1000000 in
theorem denyRem_any (s : Nat) (hs : s < 256) (hin : D s) (hb : Bk w g d u k v) (hd : SetB d D) (hu : SetB u U) (hv : TapV B w v T n) (hH : H ≤ g) (hgB : NeG g v) :
    Calls Try.prog 85 #[.pointer (some ⟨g, 0, none⟩), .int .i64 s, .int .u32 0] w (ApP H B g w true (fun x => D x ∧ x ≠ s) U k T n) := by
  have HQ : Hid (s < 256 ∧ D s) := ⟨hs, hin⟩
  have HB : Hid (Bk w g d u k v) := hb
  have HSD : Hid (SetB d D) := hd
  have HF : ∀ q, Hid (ApP H B g w true (fun x => D x ∧ x ≠ s) U k T n (.returned (.bool true)) ((w.setCell ⟨g, 0 + s / 8, none⟩ (.int .u8 ((remB d s).getD (s / 8) 0))).drewN q)) := fun q => by
    have hw : Wr g w ((w.setCell ⟨g, 0 + s / 8, none⟩ (.int .u8 ((remB d s).getD (s / 8) 0))).drewN q) := ((Wr.refl _ _).setCell _ _).drewN _
    exact ⟨rfl, hw.below hH, fun _ => ⟨_, _, _, (hb.remD s hs).drew q, hd.rem s hs, hu, hv.wr hw hgB, hgB⟩⟩
  clear hb hd hu hv hin
  go_enter Try.func85, Try.ntmps85
  go_wp2_with fail
  refine (hasYes_any s HB.out.batd HSD.out HQ.out).mono ?_
  rintro e w2 ⟨rfl, rfl⟩
  go_wp2_with fail
  refine (remS_any g 0 s d _ hs HB.out.batd).mono ?_
  rintro e w4 ⟨rfl, q, rfl⟩
  have H2 := HF q
  clear HF HB HSD HQ
  generalize (w2.setCell ⟨g, 0 + s / 8, none⟩ (.int .u8 ((remB d s).getD (s / 8) 0))).drewN q = w4 at *
  go_wp2
  go_ret
  exact H2.out
set_option maxRecDepth 100000 in
set_option maxHeartbeats 1000000 in
theorem denyNo_any (s b : Nat) (hno1 : ¬ (b = 1 ∧ s < 256 ∧ ¬ D s ∧ ¬ popS d 32 = 16)) (hno0 : ¬ (b = 0 ∧ s < 256 ∧ D s)) (hbb : b < 4294967296) (hb : Bk w g d u k v) (hd : SetB d D) :
    Calls Try.prog 85 #[.pointer (some ⟨g, 0, none⟩), .int .i64 s, .int .u32 b] w fun e w' => e = .returned (.bool false) ∧ w' = w := by
  have HB : Hid (Bk w g d u k v) := hb
  have HSD : Hid (SetB d D) := hd
  clear hb hd
  by_cases h1 : b = 1
  · subst h1
    by_cases hs : s < 256
    · have HSO : Hid (serOk (s : Int) = true) := ser_yes hs
      by_cases hin : D s
      · have HQ : Hid (s < 256 ∧ D s) := ⟨hs, hin⟩
        clear hno1 hno0 hin
        go_enter Try.func85, Try.ntmps85
        go_wp2_with fail
        refine (isSerial_any _ _).mono ?_
        rintro e w1 ⟨rfl, rfl⟩
        rw [HSO.out]
        go_wp2_with fail
        refine (hasYes_any s HB.out.batd HSD.out HQ.out).mono ?_
        rintro e w2 ⟨rfl, rfl⟩
        clear HB HSD HQ HSO
        go_wp2
        go_ret
        exact ⟨rfl, rfl⟩
      · have HP : Hid (decide (popS d 32 = 16) = true) := decide_eq_true (Classical.byContradiction fun h => hno1 ⟨rfl, hs, hin, h⟩)
        have HQ : Hid (¬ (s < 256 ∧ D s)) := fun h => hin h.2
        clear hno1 hno0 hin
        go_enter Try.func85, Try.ntmps85
        go_wp2_with fail
        refine (isSerial_any _ _).mono ?_
        rintro e w1 ⟨rfl, rfl⟩
        rw [HSO.out]
        go_wp2_with fail
        refine (hasNo_any s HB.out.batd HSD.out HQ.out).mono ?_
        rintro e w2 ⟨rfl, rfl⟩
        go_wp2_with fail
        refine (full_any HB.out).mono ?_
        rintro e w3 ⟨rfl, rfl⟩
        rw [HP.out]
        clear HB HSD HQ HSO HP
        go_wp2
        go_ret
        exact ⟨rfl, rfl⟩
    · have HSO : Hid (serOk (s : Int) = false) := ser_no hs
      clear hno1 hno0 hs
      go_enter Try.func85, Try.ntmps85
      go_wp2_with fail
      refine (isSerial_any _ _).mono ?_
      rintro e w1 ⟨rfl, rfl⟩
      rw [HSO.out]
      clear HB HSD HSO
      go_wp2
      go_ret
      exact ⟨rfl, rfl⟩
  · by_cases h0 : b = 0
    · subst h0
      have HQ : Hid (¬ (s < 256 ∧ D s)) := fun h => hno0 ⟨rfl, h⟩
      clear hno1 hno0 h1
      go_enter Try.func85, Try.ntmps85
      go_wp2_with fail
      refine (hasNo_any s HB.out.batd HSD.out HQ.out).mono ?_
      rintro e w2 ⟨rfl, rfl⟩
      clear HB HSD HQ
      go_wp2
      go_ret
      exact ⟨rfl, rfl⟩
    · have h1' : ¬ ((b : Int) = 1) := by omega
      have h0' : ¬ ((b : Int) = 0) := by omega
      clear hno1 hno0 h1 HB HSD
      go_enter Try.func85, Try.ntmps85
      go_wp2
      go_ret
      exact ⟨rfl, rfl⟩
end Go.Proofs.Ythghkfncpdnpoad
