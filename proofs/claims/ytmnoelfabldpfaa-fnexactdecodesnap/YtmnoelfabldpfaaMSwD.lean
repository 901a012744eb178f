/-
  Own work: serials put into a list and taken out of it, by the model.
-/
import Derived.Test.YtmnoelfabldpfaaSwC
import Derived.Test.YtmnoelfabldpfaaSvG
namespace Go.Proofs.Ytmnoelfabldpfaa
open Go.ChangeShapes Go.WideShapes Go.ChangeAt Go.RowKit
set_option linter.unusedVariables false

open Classical in
set_option maxRecDepth 100000 in
set_option maxHeartbeats 1000000 in
theorem with_any (ad : Option Addr) (n cap : Nat) (xs : List Int) (a : Nat) (w : World) (hn : xs.length = n) (hm : n ≤ 1048576) (ha : At .i64 w ad xs) :
    Calls Try.prog 60 #[.slice ad n cap, .int .i64 a] w fun e w' => ∃ v, e = .returned v ∧ Iow w.heap.size w' v (withS xs a) ∧ Below w.heap.size w w' := by
  have HW : Hid (withS xs a = upTo (fun v => decide ((v : Int) ∈ xs ∨ v = a)) 256) := rfl
  have HPD : Hid (∀ v : Nat, (fun v : Nat => decide ((v : Int) ∈ xs ∨ v = a)) v = true ↔ ((v : Int) ∈ xs ∨ v = a)) := fun v => by simp
  generalize (fun v : Nat => decide ((v : Int) ∈ xs ∨ v = a)) = P at HW HPD
  have HA : Hid (At .i64 w ad xs) := ha
  have HNX : Hid (xs.length = n) := hn
  have H0 : Hid (LIS w P 0 (.slice (some ⟨w.heap.size, 0, none⟩) 0 0) (w.alloc (.cells #[] 2))) :=
    ⟨⟨by simp [upTo], .inr ⟨w.heap.size, 0, #[], rfl, Nat.le_refl _, heap_alloc_new w _, Nat.le_refl _, by simp [maxLen], rfl, rfl⟩⟩, (Below.refl _ _).alloc (Nat.le_refl _) _⟩
  clear ha hn
  go_enter Try.func60, Try.ntmps60
  go_wp2_with fail
  go_loopw [5, 6] (fun l i wr => ∃ (k : Nat) (v : Value), k ≤ 256 ∧ i = .int .i64 k ∧ v = l ∧ LIS w P k v wr) (fun _ i _ => 256 - (intOf i).toNat)
  case atStart => exact ⟨0, _, by omega, rfl, rfl, H0.out⟩
  case round =>
    clear H0
    obtain ⟨k, l, hk, rfl, rfl, hst⟩ := hrel
    by_cases hlt : k < 256
    · have hlt' : (k : Int) < 256 := by omega
      have HST : Hid (LIS w P k l wr) := hst
      clear hst
      by_cases hp : P k = true
      · have HN : Hid (upTo P (k + 1) = upTo P k ++ [(k : Int)]) := by show _ = _; rw [upTo_succ, if_pos hp]
        have HL : Hid ((upTo P k).length ≤ 1048576) := Nat.le_trans (upTo_len P k) (by omega)
        have HO : Hid (Iow w.heap.size (wr.alloc (.cells #[.int .i64 (k : Int)] 2)) l (upTo P k)) := HST.out.own.alloc _
        have HZ : Hid (w.heap.size ≤ (wr.alloc (.cells #[.int .i64 (k : Int)] 2)).heap.size) := by
          show _ ≤ _
          have := HST.out.below.size
          simp; omega
        have HD : Hid ((k : Int) ∈ xs ∨ k = a) := (HPD.out k).1 hp
        clear hp
        by_cases hka : k = a
        · subst hka
          go_wp2_with (first
            | (refine wpList_app1 _ rfl (.tmp 20) (.tmp 22) rfl w.heap.size _ (upTo P k) rfl HO.out wr k rfl rfl HL.out HZ.out ?_)
            | fail)
          intro v' w3 h1 h2
          have HF : Hid (LIS w P (k + 1) v' w3) := ⟨by rw [HN.out]; exact h1, (HST.out.below.alloc HST.out.below.size _).trans h2⟩
          clear h1 h2 HO HZ HL
          go_wp2
          go_roundw
          case rel => exact ⟨k + 1, _, by omega, by go_num, rfl, HF.out⟩
          case measure => simp [intOf]; omega
        · have hka' : ¬ ((k : Int) = (a : Int)) := by omega
          have HM : Hid (memB (k : Int) xs = true) := memB_yes (HD.out.resolve_right hka)
          clear hka
          go_wp2_with fail
          refine (holds_any ad n cap xs k _ HNX.out hm (HA.out.below HST.out.below)).mono ?_
          rintro e w2 ⟨rfl, rfl⟩
          rw [HM.out]
          go_wp2_with (first
            | (refine wpList_app1 _ rfl (.tmp 20) (.tmp 22) rfl w.heap.size _ (upTo P k) rfl HO.out _ k rfl rfl HL.out HZ.out ?_)
            | fail)
          intro v' w3 h1 h2
          have HF : Hid (LIS w P (k + 1) v' w3) := ⟨by rw [HN.out]; exact h1, (HST.out.below.alloc HST.out.below.size _).trans h2⟩
          clear h1 h2 HO HZ HL
          go_wp2
          go_roundw
          case rel => exact ⟨k + 1, _, by omega, by go_num, rfl, HF.out⟩
          case measure => simp [intOf]; omega
      · have HF : Hid (LIS w P (k + 1) l wr) := ⟨by rw [upTo_succ, if_neg hp]; exact HST.out.own, HST.out.below⟩
        have hka' : ¬ ((k : Int) = (a : Int)) := fun h => hp ((HPD.out k).2 (.inr (by omega)))
        have HM : Hid (memB (k : Int) xs = false) := memB_no (fun h => hp ((HPD.out k).2 (.inl h)))
        clear hp
        go_wp2_with fail
        refine (holds_any ad n cap xs k _ HNX.out hm (HA.out.below HST.out.below)).mono ?_
        rintro e w2 ⟨rfl, rfl⟩
        rw [HM.out]
        go_wp2
        go_roundw
        case rel => exact ⟨k + 1, _, by omega, by go_num, rfl, HF.out⟩
        case measure => simp [intOf]; omega
    · have hke : k = 256 := by omega
      subst hke
      have HF : Hid (∃ v, Ending.returned l = .returned v ∧ Iow w.heap.size wr v (withS xs a) ∧ Below w.heap.size w wr) := ⟨l, rfl, by rw [HW.out]; exact hst.own, hst.below⟩
      clear hst
      go_wp2
      go_ret
      exact HF.out
end Go.Proofs.Ytmnoelfabldpfaa
namespace Go.Proofs.Ytmnoelfabldpfaa
open Go.ChangeShapes Go.WideShapes Go.ChangeAt Go.RowKit
set_option linter.unusedVariables false

structure LES (w : World) (xs : List Int) (a k : Nat) (v : Value) (wr : World) : Prop where
  own : Iow w.heap.size wr v (lessS (xs.take k) a)
  below : Below w.heap.size w wr
theorem less_yes {xs : List Int} {a k : Nat} (h : k < xs.length) (hne : ¬ xs.getD k 0 = (a : Int)) : lessS (xs.take (k + 1)) a = lessS (xs.take k) a ++ [xs.getD k 0] := by
  unfold lessS
  rw [take_snoc xs k h, List.filter_append]
  simp; simpa [List.getD] using hne
theorem less_no {xs : List Int} {a k : Nat} (h : k < xs.length) (he : xs.getD k 0 = (a : Int)) : lessS (xs.take (k + 1)) a = lessS (xs.take k) a := by
  unfold lessS
  rw [take_snoc xs k h, List.filter_append]
  simp; simpa [List.getD] using he
theorem less_len (xs : List Int) (a k : Nat) : (lessS (xs.take k) a).length ≤ k := by
  unfold lessS
  exact Nat.le_trans (List.length_filter_le _ _) (by rw [List.length_take]; omega)
end Go.Proofs.Ytmnoelfabldpfaa
