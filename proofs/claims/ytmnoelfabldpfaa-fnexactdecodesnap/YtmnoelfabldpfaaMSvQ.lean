/-
  Own work: a set of serials as a list, and how many they are, by the program.
-/
import Derived.Test.YtmnoelfabldpfaaSvP
import Derived.Test.YtmnoelfabldpfaaSvK
namespace Go.Proofs.Ytmnoelfabldpfaa
open Go.ChangeShapes Go.WideShapes Go.ChangeAt Go.RowKit
set_option linter.unusedVariables false

theorem Try.infoI64q : (Try.prog.info? 2).map (fun i => (i.zero, i.size, i.bytes)) = some (some (.int .i64 0), 1, 8) := by kernel_rfl
/-- Serials in memory of the call's own, from block B on. -/
def Iow (B : Nat) (w : World) (v : Value) (xs : List Int) : Prop := w.ownsRow B 2 1 v xs.length (xs.map (Value.int .i64))
theorem Iow.nil (B : Nat) (w : World) : Iow B w (.slice none 0 0) [] := ⟨by simp, .inl ⟨rfl, rfl⟩⟩
theorem Iow.ownBlock {B : Nat} {w : World} {v : Value} {xs : List Int} (h : Iow B w v xs) : ∀ k, v.ownBlock = some k → B ≤ k := fun k hk => by
  rcases h.2 with ⟨h', _⟩ | ⟨g, c, cur, h', hb, _⟩
  · rw [h'] at hk; simp [Value.ownBlock] at hk
  · rw [h'] at hk; simp [Value.ownBlock] at hk; omega
theorem Iow.one {B : Nat} {w : World} {v : Value} {xs : List Int} (h : Iow B w v xs) : v.oneCell' = true := by
  rcases h.2 with ⟨h, _⟩ | ⟨g, c, cur, h, _⟩
  · rw [h]; rfl
  · rw [h]; rfl
theorem wpList_app1 (w : World) {ops : Array Oper} {rest : List Oper} {o : Oper} {a : Act} {Q : Exit → Act → World → Prop} (hg : o.guard = none) (sx x : Operand)
    (hop : o.op = Op.call { callee := Callee.builtin Builtin.append, args := #[sx, x], argTypes := #[24, 24] }) (B : Nat) (v : Value) (xs : List Int) (hs : a.eval sx = v) (hown : Iow B w v xs)
    (wb : World) (z : Int) (hw : w = wb.alloc (.cells #[.int .i64 z] 2)) (hx : a.eval x = .slice (some ⟨wb.heap.size, 0, none⟩) 1 1) (hm : xs.length ≤ 1048576) (hB : B ≤ w.heap.size)
    (hK : ∀ v' w', Iow B w' v' (xs ++ [z]) → Below B w w' → wpList Try.prog ops Q rest (a.put o.dst v') w') :
    wpList Try.prog ops Q (o :: rest) a w := by
  obtain ⟨i0, hi, hz0, hz1, hz2⟩ := info_parts Try.infoI64q
  refine wpList_append_own_at w hg sx x 24 hop B 2 i0 (.int .i64 0) 1 8 Try.underlying24 hi hz0 hz1 hz2 rfl (by decide) v xs.length _ hs hown ⟨wb.heap.size, 0, none⟩ 1 1 [.int .i64 z] hx rfl (by rw [hw]; exact cell_one_new wb _ _) (by simp [Value.oneCell']) (by unfold maxLen; omega) (by omega) hB ?_
  intro v' w' h1 h2 _ _
  refine hK v' w' ?_ ((Below.refl _ _).grown h2 hB hown.ownBlock)
  unfold Iow
  rw [List.map_append, List.length_append]; exact h1

theorem Iow.alloc {B : Nat} {w : World} {v : Value} {xs : List Int} (h : Iow B w v xs) (o : Obj) : Iow B (w.alloc o) v xs := World.ownsRow.alloc h _
structure LIS (w : World) (P : Nat → Bool) (k : Nat) (v : Value) (wr : World) : Prop where
  own : Iow w.heap.size wr v (upTo P k)
  below : Below w.heap.size w wr
set_option maxRecDepth 100000 in
set_option maxHeartbeats 1000000 in
theorem list_any (g o : Nat) (bs : List Int) (P : Nat → Bool) (w : World) (hb : ∀ w', Below w.heap.size w w' → BAt w' g o bs) (hs : SetB bs (fun v => P v = true)) :
    Calls Try.prog 59 #[.pointer (some ⟨g, o, none⟩)] w fun e w' => ∃ v, e = .returned v ∧ Iow w.heap.size w' v (upTo P 256) ∧ Below w.heap.size w w' := by
  have HB : Hid (∀ w', Below w.heap.size w w' → BAt w' g o bs) := hb
  have HS : Hid (SetB bs (fun v => P v = true)) := hs
  have H0 : Hid (LIS w P 0 (.slice none 0 0) w) := ⟨Iow.nil _ _, Below.refl _ _⟩
  clear hb hs
  go_enter Try.func59, Try.ntmps59
  go_wp2_with fail
  go_loopw [3, 5] (fun l i wr => ∃ (k : Nat) (v : Value), k ≤ 256 ∧ i = .int .i64 k ∧ v = l ∧ LIS w P k v wr) (fun _ i _ => 256 - (intOf i).toNat)
  case atStart => exact ⟨0, _, by omega, rfl, rfl, H0.out⟩
  case round =>
    clear H0
    obtain ⟨k, l, hk, rfl, rfl, hst⟩ := hrel
    by_cases hlt : k < 256
    · have hlt' : (k : Int) < 256 := by omega
      have HST : Hid (LIS w P k l wr) := hst
      have HQ : Hid (P k = true ↔ (0 ≤ (k : Int) ∧ (k : Int) < 256 ∧ P (k : Int).toNat = true)) := by
        show _ ↔ _
        rw [Int.toNat_natCast]; exact ⟨fun h => ⟨by omega, by omega, h⟩, fun h => h.2.2⟩
      clear hst
      go_wp2_with fail
      refine (hasS_any g o k bs _ (P k) _ (HB.out _ HST.out.below) HS.out HQ.out).mono ?_
      rintro e w2 ⟨rfl, rfl⟩
      by_cases hp : P k = true
      · have HN : Hid (upTo P (k + 1) = upTo P k ++ [(k : Int)]) := by show _ = _; rw [upTo_succ, if_pos hp]
        rw [hp]
        have HL : Hid ((upTo P k).length ≤ 1048576) := Nat.le_trans (upTo_len P k) (by omega)
        have HO : Hid (Iow w.heap.size (w2.alloc (.cells #[.int .i64 (k : Int)] 2)) l (upTo P k)) := HST.out.own.alloc _
        have HZ : Hid (w.heap.size ≤ (w2.alloc (.cells #[.int .i64 (k : Int)] 2)).heap.size) := by
          show _ ≤ _
          have := HST.out.below.size
          simp; omega
        clear hp HQ
        go_wp2_with (first
          | (refine wpList_app1 _ rfl (.tmp 11) (.tmp 13) rfl w.heap.size _ (upTo P k) rfl HO.out w2 k rfl rfl HL.out HZ.out ?_)
          | fail)
        intro v' w3 h1 h2
        have HF : Hid (LIS w P (k + 1) v' w3) := ⟨by rw [HN.out]; exact h1, (HST.out.below.alloc HST.out.below.size _).trans h2⟩
        clear h1 h2 HO HZ HL
        go_wp2
        go_roundw
        case rel => exact ⟨k + 1, _, by omega, by go_num, rfl, HF.out⟩
        case measure => simp [intOf]; omega
      · have HF : Hid (LIS w P (k + 1) l w2) := ⟨by rw [upTo_succ, if_neg hp]; exact HST.out.own, HST.out.below⟩
        rw [Bool.not_eq_true] at hp
        rw [hp]
        clear hp HQ
        go_wp2
        go_roundw
        case rel => exact ⟨k + 1, _, by omega, by go_num, rfl, HF.out⟩
        case measure => simp [intOf]; omega
    · have hke : k = 256 := by omega
      subst hke
      have HF : Hid (∃ v, Ending.returned l = .returned v ∧ Iow w.heap.size wr v (upTo P 256) ∧ Below w.heap.size w wr) := ⟨l, rfl, hst.own, hst.below⟩
      clear hst
      go_wp2
      go_ret
      exact HF.out
end Go.Proofs.Ytmnoelfabldpfaa
namespace Go.Proofs.Ytmnoelfabldpfaa
open Go.ChangeShapes Go.WideShapes Go.ChangeAt Go.RowKit
set_option linter.unusedVariables false

theorem pop8_le (x : Nat) : pop8 x ≤ 8 := by
  unfold pop8; exact Nat.le_trans (List.length_filter_le _ _) (by simp)
theorem tab_pop (T : ByteArray) (h : ∀ y : Fin T.size, (T[y.val]).toNat = pop8 y.val) (x : Nat) (hx : x < T.size) : wrap64 ((T[x]).toNat : Int) = pop8 x := by
  have e : (T[x]).toNat = pop8 x := h ⟨x, hx⟩
  rw [e]
  have := pop8_le x
  unfold wrap64; omega
end Go.Proofs.Ytmnoelfabldpfaa
