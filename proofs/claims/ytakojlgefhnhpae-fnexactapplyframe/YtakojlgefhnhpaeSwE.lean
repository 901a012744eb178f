/-
  Own work: serials taken out of a list, by the model.
-/
import Derived.Test.YtakojlgefhnhpaeSwD
namespace Go.Proofs.Ytakojlgefhnhpae
open Go.ChangeShapes Go.WideShapes Go.ChangeAt Go.RowKit
set_option linter.unusedVariables false

structure LES (w : World) (xs : List Int) (a k : Nat) (v : Value) (wr : World) : Prop where
  own : Iow w.heap.size wr v (lessS (xs.take k) a)
  below : Below w.heap.size w wr
theorem less_yes {xs : List Int} {a k : Nat} (h : k < xs.length) (hne : ¬ xs.getD k 0 = (a : Int)) : lessS (xs.take (k + 1)) a = lessS (xs.take k) a ++ [xs.getD k 0] := by
  unfold lessS
  rw [take_snoc xs k h, List.filter_append]
  simp; simpa [List.getD] using hne
theorem less_no {xs : List Int} {a k : Nat} (h : k < xs.length) (he : xs.getD k 0 = (a : Int)) : lessS (xs.take (k + 1)) a = lessS (xs.take k) a := by
  unfold lessS
  rw [take_snoc xs k h, List.filter_append]
  simp; simpa [List.getD] using he
theorem less_len (xs : List Int) (a k : Nat) : (lessS (xs.take k) a).length ≤ k := by
  unfold lessS
  exact Nat.le_trans (List.length_filter_le _ _) (by rw [List.length_take]; omega)
set_option maxRecDepth 100000 in
set_option maxHeartbeats 1000000 in
theorem less_any (ad : Option Addr) (n cap : Nat) (xs : List Int) (a : Nat) (w : World) (hn : xs.length = n) (hm : n ≤ 1048576) (ha : At .i64 w ad xs) :
    Calls Try.prog 96 #[.slice ad n cap, .int .i64 a] w fun e w' => ∃ v, e = .returned v ∧ Iow w.heap.size w' v (lessS xs a) ∧ Below w.heap.size w w' := by
  have HA : Hid (At .i64 w ad xs) := ha
  have HNX : Hid (xs.length = n) := hn
  have H0 : Hid (LES w xs a 0 (.slice (some ⟨w.heap.size, 0, none⟩) 0 0) (w.alloc (.cells #[] 2))) :=
    ⟨⟨by simp [lessS], .inr ⟨w.heap.size, 0, #[], rfl, Nat.le_refl _, heap_alloc_new w _, Nat.le_refl _, by simp [maxLen], rfl, rfl⟩⟩, (Below.refl _ _).alloc (Nat.le_refl _) _⟩
  clear ha hn
  go_enter Try.func96, Try.ntmps96
  go_wp2_with fail
  go_loopw [5, 6] (fun l i wr => ∃ (k : Nat) (v : Value), k ≤ n ∧ i = .int .i64 k ∧ v = l ∧ LES w xs a k v wr) (fun _ i _ => n - (intOf i).toNat)
  case atStart => exact ⟨0, _, by omega, rfl, rfl, H0.out⟩
  case round =>
    clear H0
    obtain ⟨k, l, hk, rfl, rfl, hst⟩ := hrel
    by_cases hlt : k < n
    · have hlt' : (k : Int) < n := by omega
      have HST : Hid (LES w xs a k l wr) := hst
      obtain ⟨b, off, ea, hb, hc⟩ := (HA.out.below hst.below).get (by have := HNX.out; omega)
      have hck := hc k (by have := HNX.out; omega)
      subst ea
      clear hst hc hb
      have HLT : Hid (k < xs.length) := by show _ < _; have := HNX.out; omega
      by_cases hne : xs.getD k 0 = (a : Int)
      · have HF : Hid (LES w xs a (k + 1) l wr) := ⟨by rw [less_no HLT.out hne]; exact HST.out.own, HST.out.below⟩
        rw [hne] at hck
        clear hne
        go_wp2
        go_roundw
        case rel => exact ⟨k + 1, _, by omega, by go_num, rfl, HF.out⟩
        case measure => simp [intOf]; omega
      · have HN : Hid (lessS (xs.take (k + 1)) a = lessS (xs.take k) a ++ [xs.getD k 0]) := less_yes HLT.out hne
        have HL : Hid ((lessS (xs.take k) a).length ≤ 1048576) := Nat.le_trans (less_len xs a k) (by omega)
        generalize xs.getD k 0 = z at *
        have HO : Hid (Iow w.heap.size (wr.alloc (.cells #[.int .i64 z] 2)) l (lessS (xs.take k) a)) := HST.out.own.alloc _
        have HZ : Hid (w.heap.size ≤ (wr.alloc (.cells #[.int .i64 z] 2)).heap.size) := by
          show _ ≤ _
          have := HST.out.below.size
          simp; omega
        go_wp2_with (first
          | (refine wpList_app1 _ rfl (.tmp 20) (.tmp 25) rfl w.heap.size _ (lessS (xs.take k) a) rfl HO.out wr z rfl rfl HL.out HZ.out ?_)
          | fail)
        intro v' w3 h1 h2
        have HF : Hid (LES w xs a (k + 1) v' w3) := ⟨by rw [HN.out]; exact h1, (HST.out.below.alloc HST.out.below.size _).trans h2⟩
        clear h1 h2 HO HZ HL hck
        go_wp2
        go_roundw
        case rel => exact ⟨k + 1, _, by omega, by go_num, rfl, HF.out⟩
        case measure => simp [intOf]; omega
    · have hke : k = n := by omega
      have hlt' : ¬ ((k : Int) < n) := by omega
      have HF : Hid (∃ v, Ending.returned l = .returned v ∧ Iow w.heap.size wr v (lessS xs a) ∧ Below w.heap.size w wr) := ⟨l, rfl, by
        have := hst.own
        rwa [List.take_of_length_le (by have := HNX.out; omega)] at this, hst.below⟩
      clear hst hke
      go_wp2
      go_ret
      exact HF.out
end Go.Proofs.Ytakojlgefhnhpae
