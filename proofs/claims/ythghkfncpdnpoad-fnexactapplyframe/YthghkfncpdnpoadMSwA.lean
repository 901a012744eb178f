/-
  Own work: taps applied to a book, by the program.
-/
import Derived.Test.YthghkfncpdnpoadSvZ
namespace Go.Proofs.Ythghkfncpdnpoad
open Go.ChangeShapes Go.WideShapes Go.ChangeAt Go.RowKit
set_option linter.unusedVariables false
variable {w w' : World} {g : Nat} {d u : List Int} {k : Int} {v : Value} {D U : Nat → Prop} {T : List Int} {n H B : Nat}

theorem TapO.ownBlock (h : TapO B w v T n) : ∀ k, v.ownBlock = some k → B ≤ k := fun k hk => by
  rcases h.2 with ⟨h', _⟩ | ⟨g, c, cur, h', hb, _⟩
  · rw [h'] at hk; simp [Value.ownBlock] at hk
  · rw [h'] at hk; simp [Value.ownBlock] at hk; omega
theorem TapO.wrg (h : TapO B w v T n) (hne : NeG g v) (hw : Wr g w w') : TapO B w' v T n := by
  refine ⟨h.1, ?_⟩
  rcases h.2 with h' | ⟨t, c, cur, h1, h2, h3, h4⟩
  · exact .inl h'
  · exact .inr ⟨t, c, cur, h1, h2, by rw [hw.block t (hne t (by rw [h1]; rfl))]; exact h3, h4⟩
theorem TapO.alloc (h : TapO B w v T n) (o : Obj) : TapO B (w.alloc o) v T n := World.ownsRow.alloc h _
theorem wpList_appT1 (w : World) {ops : Array Oper} {rest : List Oper} {o : Oper} {a : Act} {Q : Exit → Act → World → Prop} (hg : o.guard = none) (sx x : Operand)
    (hop : o.op = Op.call { callee := Callee.builtin Builtin.append, args := #[sx, x], argTypes := #[36, 36] }) (B : Nat) (v : Value) (T : List Int) (n : Nat) (hs : a.eval sx = v) (hown : TapO B w v T n)
    (wb : World) (s nw : Int) (hw : w = wb.alloc (.cells #[.int .i64 s, .int .i64 nw] 92)) (hx : a.eval x = .slice (some ⟨wb.heap.size, 0, none⟩) 1 1) (hm : n ≤ 1048576) (hB : B ≤ w.heap.size)
    (hK : ∀ v' w', TapO B w' v' (T ++ [s, nw]) (n + 1) → v'.oneCell' = true → Below B w w' → w.grownBy w' v.ownBlock → (v'.ownBlock = v.ownBlock ∨ v'.ownBlock = some w.heap.size) → wpList Try.prog ops Q rest (a.put o.dst v') w') :
    wpList Try.prog ops Q (o :: rest) a w := by
  obtain ⟨i0, hi, hz0, hz1, hz2⟩ := info_parts Try.infoTap
  refine wpList_append_own_at w hg sx x 36 hop B 92 i0 (.agg #[.int .i64 0, .int .i64 0]) 2 16 Try.underlying36 hi hz0 hz1 hz2 rfl (by decide) v n _ hs hown ⟨wb.heap.size, 0, none⟩ 1 1 [.int .i64 s, .int .i64 nw] hx rfl ?_ (by simp [Value.oneCell']) (by unfold maxLen; omega) (by omega) hB ?_
  · intro j z hz
    have hj : j < 2 := by have := (List.getElem?_eq_some_iff.1 hz).1; simpa using this
    rw [Addr.add_lit, hw, cell_of_row _ _ _ _ _ _ (heap_alloc_new wb _), Nat.zero_add]
    have : j = 0 ∨ j = 1 := by omega
    rcases this with rfl | rfl <;> simpa using hz
  intro v' w' h1 h2 _ h5
  refine hK v' w' ?_ ?_ ((Below.refl _ _).grown h2 hB hown.ownBlock) h2 h5
  · unfold TapO
    rw [List.map_append]; exact h1
  · rcases h1.2 with ⟨h, _⟩ | ⟨g, c, cur, h, _⟩
    · rw [h]; rfl
    · rw [h]; rfl
set_option maxRecDepth 100000 in
set_option maxHeartbeats 1000000 in
theorem admit_any (s : Nat) (nw : Int) (hs : s < 256) (hb : Bk w g d u k v) (hd : SetB d D) (hu : SetB u U) (hv : TapO B w v T n) (hn : n ≤ 1048576) (hH : H ≤ g) (hHB : H ≤ B) (hgB : NeG g v) (hBw : B ≤ w.heap.size) :
    Calls Try.prog 101 #[.pointer (some ⟨g, 0, none⟩), .int .i64 s, .int .i64 nw] w fun e w' => e = .returned (.tuple #[]) ∧ Below H w w' ∧ ∃ u' v', Bk w' g d u' k v' ∧ SetB u' (fun x => U x ∨ x = s) ∧ TapV B w' v' (T ++ [(s : Int), nw]) (n + 1) ∧ NeG g v' := by
  have HB : Hid (Bk w g d u k v) := hb
  have HN : ∀ q, Hid (Bk ((w.setCell ⟨g, 32 + s / 8, none⟩ (.int .u8 ((addB u s).getD (s / 8) 0))).drewN q) g d (addB u s) k v ∧ TapO B ((w.setCell ⟨g, 32 + s / 8, none⟩ (.int .u8 ((addB u s).getD (s / 8) 0))).drewN q) v T n ∧ Below H w ((w.setCell ⟨g, 32 + s / 8, none⟩ (.int .u8 ((addB u s).getD (s / 8) 0))).drewN q) ∧ B ≤ ((w.setCell ⟨g, 32 + s / 8, none⟩ (.int .u8 ((addB u s).getD (s / 8) 0))).drewN q).heap.size) := fun q => by
    have hw : Wr g w ((w.setCell ⟨g, 32 + s / 8, none⟩ (.int .u8 ((addB u s).getD (s / 8) 0))).drewN q) := ((Wr.refl _ _).setCell _ _).drewN _
    exact ⟨(hb.addU s hs).drew q, hv.wrg hgB hw, hw.below hH, by rw [hw.size]; exact hBw⟩
  have HU : Hid (SetB (addB u s) (fun x => U x ∨ x = s)) := hu.add s hs
  clear hb hd hu hv hBw
  go_enter Try.func101, Try.ntmps101
  go_wp2_with fail
  refine (addS_any g 32 s u _ hs HB.out.batu).mono ?_
  rintro e w4 ⟨rfl, q, rfl⟩
  have H2 := HN q
  clear HN HB
  generalize (w.setCell ⟨g, 32 + s / 8, none⟩ (.int .u8 ((addB u s).getD (s / 8) 0))).drewN q = w4 at *
  have c1 := H2.out.1.cv
  have HA : Hid (TapO B (w4.alloc (.cells #[.int .i64 (s : Int), .int .i64 nw] 92)) v T n) := H2.out.2.1.alloc _
  have HBW : Hid (B ≤ (w4.alloc (.cells #[.int .i64 (s : Int), .int .i64 nw] 92)).heap.size) := by
    show _ ≤ _
    have := H2.out.2.2.2
    simp; omega
  go_wp2_with (first
    | (refine wpList_appT1 _ rfl (.tmp 15) (.tmp 19) rfl B v T n rfl HA.out w4 s nw rfl rfl hn HBW.out ?_)
    | fail)
  intro v' w5 h1 ho h2 hgr how
  obtain ⟨a', c', rfl⟩ := h1.tapV.slice
  have hg4 := H2.out.1.lt
  have hb4 : Bk (w4.alloc (.cells #[.int .i64 (s : Int), .int .i64 nw] 92)) g d (addB u s) k v := H2.out.1.below ((Below.refl _ _).alloc (Nat.le_refl _) _) hg4
  have hb5 : Bk w5 g d (addB u s) k v := ⟨by rw [hgr.block g hb4.lt (fun e => hgB g e.symm rfl)]; exact hb4.row, hb4.ld, hb4.lu, hb4.bd, hb4.bu⟩
  have hne5 : NeG g (.slice a' (n + 1 : Nat) c') := fun x hx => by
    rcases how with e | e
    · exact hgB x (e ▸ hx)
    · rw [e] at hx
      have hx' := Option.some.inj hx
      have := World.size_alloc w4 (.cells #[.int .i64 (s : Int), .int .i64 nw] 92)
      omega
  have f1 := hb5.fz 65
  have c5 := hb5.cv
  have HF : Hid (Below H w (w5.setCell ⟨g, 65, none⟩ (.slice a' (n + 1 : Nat) c')) ∧ ∃ u' v'', Bk (w5.setCell ⟨g, 65, none⟩ (.slice a' (n + 1 : Nat) c')) g d u' k v'' ∧ SetB u' (fun x => U x ∨ x = s) ∧ TapV B (w5.setCell ⟨g, 65, none⟩ (.slice a' (n + 1 : Nat) c')) v'' (T ++ [(s : Int), nw]) (n + 1) ∧ NeG g v'') := by
    have hw : Wr g w5 (w5.setCell ⟨g, 65, none⟩ (.slice a' (n + 1 : Nat) c')) := (Wr.refl _ _).setCell _ _
    refine ⟨?_, addB u s, _, hb5.setV _, HU.out, h1.tapV.wr hw hne5, hne5⟩
    have b1 : Below H w4 (w4.alloc (.cells #[.int .i64 (s : Int), .int .i64 nw] 92)) := (Below.refl _ _).alloc (by have := H2.out.1.lt; omega) _
    exact ((H2.out.2.2.1.trans b1).trans (h2.mono (by omega))).trans (hw.below hH)
  clear h1 h2 hb4 hb5 hne5 hgr how HA HBW H2 HU c1
  go_wp2
  go_end0
  exact ⟨rfl, HF.out⟩
end Go.Proofs.Ythghkfncpdnpoad
namespace Go.Proofs.Ythghkfncpdnpoad
open Go.ChangeShapes Go.WideShapes Go.ChangeAt Go.RowKit
set_option linter.unusedVariables false
variable {w w' : World} {g : Nat} {d u : List Int} {k : Int} {v : Value} {D U : Nat → Prop} {T : List Int} {n H B : Nat}

set_option maxRecDepth 100000 in
set_option maxHeartbeats 1000000 in
theorem tapYes_any (s : Nat) (nw : Int) (hs : s < 256) (hnu : ¬ U s) (hnd : ¬ D s) (hb : Bk w g d u k v) (hd : SetB d D) (hu : SetB u U) (hv : TapO B w v T n) (hn : n ≤ 1048576) (hH : H ≤ g) (hHB : H ≤ B) (hgB : NeG g v) (hBw : B ≤ w.heap.size) :
    Calls Try.prog 84 #[.pointer (some ⟨g, 0, none⟩), .int .i64 s, .int .i64 nw] w (ApP H B g w true D (fun x => U x ∨ x = s) k (T ++ [(s : Int), nw]) (n + 1)) := by
  have HSO : Hid (serOk (s : Int) = true) := ser_yes hs
  have HB : Hid (Bk w g d u k v) := hb
  have HSD : Hid (SetB d D) := hd
  have HSU : Hid (SetB u U) := hu
  have HNU : Hid (¬ (s < 256 ∧ U s)) := fun h => hnu h.2
  have HND : Hid (¬ (s < 256 ∧ D s)) := fun h => hnd h.2
  have CA := admit_any s nw hs hb hd hu hv hn hH hHB hgB hBw
  clear hb hd hu hv hnu hnd hBw
  go_enter Try.func84, Try.ntmps84
  go_wp2_with fail
  refine (isSerial_any _ _).mono ?_
  rintro e w1 ⟨rfl, rfl⟩
  rw [HSO.out]
  go_wp2_with fail
  refine (hasNo_any s HB.out.batu HSU.out HNU.out).mono ?_
  rintro e w2 ⟨rfl, rfl⟩
  go_wp2_with fail
  refine (hasNo_any s HB.out.batd HSD.out HND.out).mono ?_
  rintro e w3 ⟨rfl, rfl⟩
  go_wp2_with fail
  refine CA.mono ?_
  rintro e w4 ⟨rfl, hb4, u', v', r1, r2, r3, r4⟩
  have HF : Hid (ApP H B g w3 true D (fun x => U x ∨ x = s) k (T ++ [(s : Int), nw]) (n + 1) (.returned (.bool true)) w4) := ⟨rfl, hb4, fun _ => ⟨_, _, _, r1, HSD.out, r2, r3, r4⟩⟩
  clear hb4 r1 r2 r3 CA HB HSD HSU HNU HND HSO
  go_wp2
  go_ret
  exact HF.out
set_option maxRecDepth 100000 in
set_option maxHeartbeats 1000000 in
theorem tapNo_any (s : Nat) (nw : Int) (hno : ¬ (s < 256 ∧ ¬ U s ∧ ¬ D s)) (hb : Bk w g d u k v) (hd : SetB d D) (hu : SetB u U) :
    Calls Try.prog 84 #[.pointer (some ⟨g, 0, none⟩), .int .i64 s, .int .i64 nw] w fun e w' => e = .returned (.bool false) ∧ w' = w := by
  have HB : Hid (Bk w g d u k v) := hb
  have HSD : Hid (SetB d D) := hd
  have HSU : Hid (SetB u U) := hu
  clear hb hd hu
  by_cases hs : s < 256
  · have HSO : Hid (serOk (s : Int) = true) := ser_yes hs
    by_cases hin : U s
    · have HQ : Hid (s < 256 ∧ U s) := ⟨hs, hin⟩
      clear hno hin
      go_enter Try.func84, Try.ntmps84
      go_wp2_with fail
      refine (isSerial_any _ _).mono ?_
      rintro e w1 ⟨rfl, rfl⟩
      rw [HSO.out]
      go_wp2_with fail
      refine (hasYes_any s HB.out.batu HSU.out HQ.out).mono ?_
      rintro e w2 ⟨rfl, rfl⟩
      clear HB HSD HSU HQ HSO
      go_wp2
      go_ret
      exact ⟨rfl, rfl⟩
    · have HQ : Hid (¬ (s < 256 ∧ U s)) := fun h => hin h.2
      have HY : Hid (s < 256 ∧ D s) := ⟨hs, Classical.byContradiction fun h => hno ⟨hs, hin, h⟩⟩
      clear hno hin
      go_enter Try.func84, Try.ntmps84
      go_wp2_with fail
      refine (isSerial_any _ _).mono ?_
      rintro e w1 ⟨rfl, rfl⟩
      rw [HSO.out]
      go_wp2_with fail
      refine (hasNo_any s HB.out.batu HSU.out HQ.out).mono ?_
      rintro e w2 ⟨rfl, rfl⟩
      go_wp2_with fail
      refine (hasYes_any s HB.out.batd HSD.out HY.out).mono ?_
      rintro e w3 ⟨rfl, rfl⟩
      clear HB HSD HSU HQ HSO HY
      go_wp2
      go_ret
      exact ⟨rfl, rfl⟩
  · have HSO : Hid (serOk (s : Int) = false) := ser_no hs
    clear hno hs
    go_enter Try.func84, Try.ntmps84
    go_wp2_with fail
    refine (isSerial_any _ _).mono ?_
    rintro e w1 ⟨rfl, rfl⟩
    rw [HSO.out]
    clear HB HSD HSU HSO
    go_wp2
    go_ret
    exact ⟨rfl, rfl⟩
end Go.Proofs.Ythghkfncpdnpoad
