/-
  Own work: what a frame makes of a state, and the frame applied to a book by the program.
-/
import Derived.Test.YthghkfncpdnpoadMSwA
namespace Go.Proofs.Ythghkfncpdnpoad
open Go.ChangeShapes Go.WideShapes Go.ChangeAt Go.RowKit
set_option linter.unusedVariables false

structure ApR where
  ok : Bool
  D : List Int
  U : List Int
  k : Int
  T : List Int
  n : Nat
def apNo : ApR := ⟨false, [], [], 0, [], 0⟩
open Classical in
noncomputable def withS (xs : List Int) (a : Nat) : List Int := upTo (fun v => decide ((v : Int) ∈ xs ∨ v = a)) 256
def lessS (xs : List Int) (a : Nat) : List Int := xs.filter (fun z => z != (a : Int))
open Classical in
/-- What a frame of the kind, with a and b, makes of a state. -/
noncomputable def apR (D U : List Int) (k : Int) (T : List Int) (n : Nat) (kind : Int) (a b : Nat) : ApR :=
  if kind = 1 then (if a < 256 ∧ ¬ (a : Int) ∈ U ∧ ¬ (a : Int) ∈ D then ⟨true, D, withS U a, k, T ++ [(a : Int), (b : Int)], n + 1⟩ else apNo)
  else if kind = 2 then (if b = 1 ∧ a < 256 ∧ ¬ (a : Int) ∈ D ∧ ¬ D.length = 16 then ⟨true, withS D a, U, k, T, n⟩ else if b = 0 ∧ a < 256 ∧ (a : Int) ∈ D then ⟨true, lessS D a, U, k, T, n⟩ else apNo)
  else if kind = 3 then (if b = 0 ∧ (a : Int) ≤ k + n then ⟨true, D, U, max a k, T.drop (ackM k a * 2), n - ackM k a⟩ else apNo)
  else apNo
theorem withS_mem {xs : List Int} {a v : Nat} (h : v < 256) : ((v : Int) ∈ xs ∨ v = a) ↔ (v : Int) ∈ withS xs a := by
  unfold withS
  rw [upTo_mem]
  constructor
  · intro hv; exact ⟨v, h, decide_eq_true hv, rfl⟩
  · rintro ⟨v', h1, h2, h3⟩
    have : v = v' := by omega
    subst this
    exact of_decide_eq_true h2
theorem lessS_mem {xs : List Int} {a v : Nat} : ((v : Int) ∈ xs ∧ v ≠ a) ↔ (v : Int) ∈ lessS xs a := by
  unfold lessS
  rw [List.mem_filter]
  constructor
  · rintro ⟨h1, h2⟩; exact ⟨h1, by rw [bne_iff_ne]; omega⟩
  · rintro ⟨h1, h2⟩; exact ⟨h1, by rw [bne_iff_ne] at h2; omega⟩
def apPost (H B g : Nat) (w : World) (r : ApR) : Ending → World → Prop := ApP H B g w r.ok (fun v => (v : Int) ∈ r.D) (fun v => (v : Int) ∈ r.U) r.k r.T r.n
theorem ApP.to {H B g : Nat} {w w1 : World} {D D' U U' : Nat → Prop} {k : Int} {T : List Int} {n : Nat} {ok : Bool} {e : Ending} {w' : World} (h : ApP H B g w ok D U k T n e w') (hb : Below H w1 w) (hD : ∀ v, v < 256 → (D v ↔ D' v)) (hU : ∀ v, v < 256 → (U v ↔ U' v)) : ApP H B g w1 ok D' U' k T n e w' := by
  obtain ⟨h1, h2, h3⟩ := h
  refine ⟨h1, hb.trans h2, fun ho => ?_⟩
  obtain ⟨d, u, v, r1, r2, r3, r4, r5⟩ := h3 ho
  exact ⟨d, u, v, r1, r2.congr hD, r3.congr hU, r4, r5⟩
set_option maxRecDepth 100000 in
set_option maxHeartbeats 2000000 in
theorem apply_any (seq kind : Int) (a b : Nat) (ha : a < 4294967296) (hbb : b < 4294967296) {w : World} {g H B n : Nat} {d u D U : List Int} {k : Int} {v : Value} {T : List Int} (hb : Bk w g d u k v) (hd : SetB d (fun x => (x : Int) ∈ D)) (hu : SetB u (fun x => (x : Int) ∈ U)) (hv : TapO B w v T n)
    (hSD : SerP D) (h0 : 0 ≤ k) (h1 : k ≤ 1048576) (hn : n ≤ 1048576) (hH : H ≤ g) (hHB : H ≤ B) (hgB : NeG g v) (hBw : B ≤ w.heap.size) :
    Calls Try.prog 48 #[.pointer (some ⟨g, 0, none⟩), .agg #[.int .u32 seq, .int .i64 kind, .int .u32 a, .int .u32 b]] w (apPost H B g w (apR D U k T n kind a b)) := by
  have hgl := hb.lt
  have bw : Below w.heap.size w (w.alloc (.cells #[.int .u32 seq, .int .i64 kind, .int .u32 a, .int .u32 b] 51)) := (Below.refl _ _).alloc (Nat.le_refl _) _
  have HB : Hid (Bk (w.alloc (.cells #[.int .u32 seq, .int .i64 kind, .int .u32 a, .int .u32 b] 51)) g d u k v) := hb.below bw hgl
  have HV : Hid (TapO B (w.alloc (.cells #[.int .u32 seq, .int .i64 kind, .int .u32 a, .int .u32 b] 51)) v T n) := hv.alloc _
  have HW : Hid (Below H w (w.alloc (.cells #[.int .u32 seq, .int .i64 kind, .int .u32 a, .int .u32 b] 51))) := bw.mono (by omega)
  have HZ : Hid (B ≤ (w.alloc (.cells #[.int .u32 seq, .int .i64 kind, .int .u32 a, .int .u32 b] 51)).heap.size) := by
    show _ ≤ _
    simp; omega
  have HSD : Hid (SetB d (fun x => (x : Int) ∈ D)) := hd
  have HSU : Hid (SetB u (fun x => (x : Int) ∈ U)) := hu
  have HPL : Hid (popS d 32 = D.length) := pop_len hd hSD
  have HSER : Hid (SerP D) := hSD
  clear hb hd hu hv hSD bw hBw
  by_cases k1 : kind = 1
  · subst k1
    by_cases hc : a < 256 ∧ ¬ (a : Int) ∈ U ∧ ¬ (a : Int) ∈ D
    · have HR : Hid (apR D U k T n 1 a b = ⟨true, D, withS U a, k, T ++ [(a : Int), (b : Int)], n + 1⟩) := by show _ = _; unfold apR; rw [if_pos rfl, if_pos hc]
      go_enter Try.func48, Try.ntmps48
      go_wp2_with fail
      refine (tapYes_any (H := H) (B := B) (T := T) (n := n) a b hc.1 hc.2.1 hc.2.2 HB.out HSD.out HSU.out HV.out hn hH hHB hgB HZ.out).mono ?_
      intro e w2 h
      have HF : Hid (apPost H B g w (apR D U k T n 1 a b) e w2) := by
        show apPost _ _ _ _ _ _ _
        rw [HR.out]
        exact ApP.to h HW.out (fun v _ => Iff.rfl) (fun v hv => withS_mem hv)
      obtain ⟨rfl, h⟩ := h
      clear h HB HV HW HZ HSD HSU HPL HSER HR
      go_wp2
      go_ret
      exact HF.out
    · have HR : Hid (apR D U k T n 1 a b = apNo) := by show _ = _; unfold apR; rw [if_pos rfl, if_neg hc]
      go_enter Try.func48, Try.ntmps48
      go_wp2_with fail
      refine (tapNo_any a b hc HB.out HSD.out HSU.out).mono ?_
      intro e w2 h
      have HF : Hid (apPost H B g w (apR D U k T n 1 a b) e w2) := by
        show apPost _ _ _ _ _ _ _
        rw [HR.out]
        exact ⟨h.1, (show w2 = _ from h.2) ▸ HW.out, fun h' => by cases h'⟩
      obtain ⟨rfl, h⟩ := h
      clear h HB HV HW HZ HSD HSU HPL HSER HR
      go_wp2
      go_ret
      exact HF.out
  by_cases k2 : kind = 2
  · subst k2
    clear k1
    by_cases hc : b = 1 ∧ a < 256 ∧ ¬ (a : Int) ∈ D ∧ ¬ D.length = 16
    · have HR : Hid (apR D U k T n 2 a b = ⟨true, withS D a, U, k, T, n⟩) := by show _ = _; unfold apR; rw [if_neg (by decide), if_pos rfl, if_pos hc]
      have HC : Hid (a < 256 ∧ ¬ (a : Int) ∈ D ∧ ¬ popS d 32 = 16) := ⟨hc.2.1, hc.2.2.1, by rw [HPL.out]; exact hc.2.2.2⟩
      obtain ⟨rfl, _⟩ := hc
      go_enter Try.func48, Try.ntmps48
      go_wp2_with fail
      refine (denyAdd_any (H := H) (B := B) (T := T) (n := n) a HC.out.1 HC.out.2.1 HC.out.2.2 HB.out HSD.out HSU.out HV.out.tapV hH hgB).mono ?_
      intro e w2 h
      have HF : Hid (apPost H B g w (apR D U k T n 2 a 1) e w2) := by
        show apPost _ _ _ _ _ _ _
        rw [HR.out]
        exact ApP.to h HW.out (fun v hv => withS_mem hv) (fun v _ => Iff.rfl)
      obtain ⟨rfl, h⟩ := h
      clear h HB HV HW HZ HSD HSU HPL HSER HR
      go_wp2
      go_ret
      exact HF.out
    by_cases hc0 : b = 0 ∧ a < 256 ∧ (a : Int) ∈ D
    · have HR : Hid (apR D U k T n 2 a b = ⟨true, lessS D a, U, k, T, n⟩) := by show _ = _; unfold apR; rw [if_neg (by decide), if_pos rfl, if_neg hc, if_pos hc0]
      have HC : Hid (a < 256 ∧ (a : Int) ∈ D) := hc0.2
      clear hc
      obtain ⟨rfl, _⟩ := hc0
      go_enter Try.func48, Try.ntmps48
      go_wp2_with fail
      refine (denyRem_any (H := H) (B := B) (T := T) (n := n) a HC.out.1 HC.out.2 HB.out HSD.out HSU.out HV.out.tapV hH hgB).mono ?_
      intro e w2 h
      have HF : Hid (apPost H B g w (apR D U k T n 2 a 0) e w2) := by
        show apPost _ _ _ _ _ _ _
        rw [HR.out]
        exact ApP.to h HW.out (fun v hv => lessS_mem) (fun v _ => Iff.rfl)
      obtain ⟨rfl, h⟩ := h
      clear h HB HV HW HZ HSD HSU HPL HSER HR
      go_wp2
      go_ret
      exact HF.out
    · have HR : Hid (apR D U k T n 2 a b = apNo) := by show _ = _; unfold apR; rw [if_neg (by decide), if_pos rfl, if_neg hc, if_neg hc0]
      rw [← HPL.out] at hc
      have HC : Hid (¬ (b = 1 ∧ a < 256 ∧ ¬ (a : Int) ∈ D ∧ ¬ popS d 32 = 16)) := hc
      have HC0 : Hid (¬ (b = 0 ∧ a < 256 ∧ (a : Int) ∈ D)) := hc0
      clear hc hc0
      go_enter Try.func48, Try.ntmps48
      go_wp2_with fail
      refine (denyNo_any a b HC.out HC0.out hbb HB.out HSD.out).mono ?_
      intro e w2 h
      have HF : Hid (apPost H B g w (apR D U k T n 2 a b) e w2) := by
        show apPost _ _ _ _ _ _ _
        rw [HR.out]
        exact ⟨h.1, (show w2 = _ from h.2) ▸ HW.out, fun h' => by cases h'⟩
      obtain ⟨rfl, h⟩ := h
      clear h HB HV HW HZ HSD HSU HPL HSER HR
      go_wp2
      go_ret
      exact HF.out
  by_cases k3 : kind = 3
  · subst k3
    clear k1 k2
    by_cases hb0 : b = 0
    · subst hb0
      by_cases hc : (a : Int) ≤ k + n
      · have HR : Hid (apR D U k T n 3 a 0 = ⟨true, D, U, max a k, T.drop (ackM k a * 2), n - ackM k a⟩) := by show _ = _; unfold apR; rw [if_neg (by decide), if_neg (by decide), if_pos rfl, if_pos ⟨rfl, hc⟩]
        have HD : Hid (decide ((a : Int) ≤ k + n) = true) := decide_eq_true hc
        clear hc
        go_enter Try.func48, Try.ntmps48
        go_wp2_with fail
        refine (applyAck_any (H := H) (B := B) (T := T) (n := n) a (by omega) (by omega) HB.out HSD.out HSU.out HV.out.tapV h0 h1 hn hH hgB).mono ?_
        intro e w2 h
        have HF : Hid (apPost H B g w (apR D U k T n 3 a 0) e w2) := by
          show apPost _ _ _ _ _ _ _
          rw [HR.out]
          exact ApP.to (by rw [HD.out] at h; exact h) HW.out (fun v _ => Iff.rfl) (fun v _ => Iff.rfl)
        rw [HD.out] at h
        obtain ⟨rfl, h⟩ := h
        clear h HB HV HW HZ HSD HSU HPL HSER HR
        go_wp2
        go_ret
        exact HF.out
      · have HR : Hid (apR D U k T n 3 a 0 = apNo) := by show _ = _; unfold apR; rw [if_neg (by decide), if_neg (by decide), if_pos rfl, if_neg (fun h => hc h.2)]
        have HD : Hid (decide ((a : Int) ≤ k + n) = false) := decide_eq_false hc
        clear hc
        go_enter Try.func48, Try.ntmps48
        go_wp2_with fail
        refine (applyAck_any (H := H) (B := B) (T := T) (n := n) a (by omega) (by omega) HB.out HSD.out HSU.out HV.out.tapV h0 h1 hn hH hgB).mono ?_
        intro e w2 h
        have HF : Hid (apPost H B g w (apR D U k T n 3 a 0) e w2) := by
          show apPost _ _ _ _ _ _ _
          rw [HR.out]
          exact (by rw [HD.out] at h; exact ⟨h.1, HW.out.trans h.2.1, fun h' => by cases h'⟩)
        rw [HD.out] at h
        obtain ⟨rfl, h⟩ := h
        clear h HB HV HW HZ HSD HSU HPL HSER HR
        go_wp2
        go_ret
        exact HF.out
    · have hb0' : ¬ ((b : Int) = 0) := by omega
      have HF : Hid (apPost H B g w (apR D U k T n 3 a b) (.returned (.bool false)) (w.alloc (.cells #[.int .u32 seq, .int .i64 3, .int .u32 a, .int .u32 b] 51))) := by
        show apPost _ _ _ _ _ _ _
        have : apR D U k T n 3 a b = apNo := by unfold apR; rw [if_neg (by decide), if_neg (by decide), if_pos rfl, if_neg (fun h => hb0 h.1)]
        rw [this]
        exact ⟨rfl, HW.out, fun h' => by cases h'⟩
      clear HB HV HW HZ HSD HSU HPL HSER
      go_enter Try.func48, Try.ntmps48
      go_wp2
      go_ret
      exact HF.out
  · have HF : Hid (apPost H B g w (apR D U k T n kind a b) (.returned (.bool false)) (w.alloc (.cells #[.int .u32 seq, .int .i64 kind, .int .u32 a, .int .u32 b] 51))) := by
      show apPost _ _ _ _ _ _ _
      have : apR D U k T n kind a b = apNo := by unfold apR; rw [if_neg k1, if_neg k2, if_neg k3]
      rw [this]
      exact ⟨rfl, HW.out, fun h' => by cases h'⟩
    clear HB HV HW HZ HSD HSU HPL HSER
    go_enter Try.func48, Try.ntmps48
    go_wp2
    go_ret
    exact HF.out
end Go.Proofs.Ythghkfncpdnpoad
