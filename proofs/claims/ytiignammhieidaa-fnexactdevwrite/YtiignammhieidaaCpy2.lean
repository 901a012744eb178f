/-
  Own work: the model's copy of a device.
-/
import Derived.Test.YtiignammhieidaaAppE
namespace Go.Proofs.Ytiignammhieidaa
open Go.ChangeShapes Go.WideShapes Go.ChangeAt Go.RowKit
set_option linter.unusedVariables false

def GA2 (S D L cap : Nat) (a : Option Addr) (zs : List Int) (f : Int) (d : Bool) : Nat → World → Value → Prop
  | 0, w, v => ∃ B, v = .slice (some ⟨B, 0, none⟩) 0 0 ∧ Own w S (.slice (some ⟨B, 0, none⟩) 0 0) []
  | 1, _, v => v = .pointer (some ⟨D, 0, none⟩)
  | 2, _, v => v = .slice a L cap
  | 3, w, v => OwnN w S v zs
  | 4, _, v => v = .pointer (some ⟨D, 2, none⟩)
  | 5, _, v => v = .int .i64 f
  | 6, _, v => v = .pointer (some ⟨D, 3, none⟩)
  | 7, _, v => v = .bool d
  | 8, w, v => ∃ dv, v = .agg #[dv, .slice none 0 0, .int .i64 f, .bool d] ∧ OwnN w S dv zs
  | _, w, v => ∃ A, v = .pointer (some ⟨A, 0, none⟩) ∧ S ≤ A ∧ w.heap[A]? = some (.cells #[.slice none 0 0, .slice none 0 0, .int .i64 0, .bool false] 29 (0, 0))
theorem GA2_mono (S D L cap : Nat) (a : Option Addr) (zs : List Int) (f : Int) (d : Bool) (i : Nat) (w w' : World) (v : Value) (hm : Below w.heap.size w w') (h : GA2 S D L cap a zs f d i w v) : GA2 S D L cap a zs f d i w' v := by
  unfold GA2 at *
  split at h
  all_goals first
    | exact h
    | exact h.grow hm
    | (obtain ⟨dv, e, h⟩ := h; exact ⟨dv, e, h.grow hm⟩)
    | (obtain ⟨W, e, h1, h2⟩ := h; exact ⟨W, e, h1, by rw [hm.block _ (Array.getElem?_eq_some_iff.1 h2).1]; exact h2⟩)
def GQ2 (D A S E b5 o5 m cx k : Nat) (cv : Value) (qs : List Q1) (s : Int) (xa : Option Addr) (c : Nat) (z : List Int) : Nat → (Nat → Bool) → World → Value → Prop
  | 0, _, _, v => v = .pointer (some ⟨A, 1, none⟩)
  | 1, _, _, v => v = cv
  | 2, _, _, v => v = .pointer (some ⟨D, 1, none⟩)
  | 3, _, _, v => v = .slice (some ⟨b5, o5, none⟩) m cx
  | 4, _, _, v => v = .int .i64 k
  | 5, _, _, v => v = .pointer (some ⟨b5, o5 + k * 2, none⟩)
  | 6, _, _, v => v = .pointer (some ⟨b5, o5 + k * 2, none⟩)
  | 7, _, _, v => v = .int .i64 s
  | 8, _, w, v => ∃ B, v = .slice (some ⟨B, 0, none⟩) 0 0 ∧ Own w S (.slice (some ⟨B, 0, none⟩) 0 0) []
  | 9, _, _, v => v = .pointer (some ⟨D, 1, none⟩)
  | 10, _, _, v => v = .slice (some ⟨b5, o5, none⟩) m cx
  | 11, _, _, v => v = .int .i64 k
  | 12, _, _, v => v = .pointer (some ⟨b5, o5 + k * 2, none⟩)
  | 13, _, _, v => v = .pointer (some ⟨b5, o5 + k * 2 + 1, none⟩)
  | 14, _, _, v => v = .slice xa z.length c
  | 15, _, w, v => OwnN w S v z
  | 16, _, w, v => ∃ a c', v = .agg #[.int .i64 s, .slice a z.length c'] ∧ OwnN w S (.slice a z.length c') z
  | 17, _, w, v => ∃ K a c', v = .slice (some ⟨K, 0, none⟩) 1 1 ∧ S ≤ K ∧ w.heap[K]? = some (.cells #[.int .i64 s, .slice a z.length c'] 44 (0, 0)) ∧ OwnN w S (.slice a z.length c') z
  | 18, _, w, v => ∃ q : Q1, q.s = s ∧ q.z = z ∧ POwn w E v (qs ++ [q])
  | _, _, _, v => v = .pointer (some ⟨A, 1, none⟩)
theorem Own.grown {w w' : World} {S : Nat} {v : Value} {z : List Int} {r : Option Nat} (h : Own w S v z) (hg : w.grownBy w' r) (hr : ∀ k, r = some k → k < S) : Own w' S v z :=
  h.keep (fun k e => hg.block k (ownsRow_lt h.1 k e).2.1 (fun er => by have := hr k er.symm; have := (ownsRow_lt h.1 k e).1; omega))
theorem GQ2_stab (D A S E b5 o5 m cx k : Nat) (cv : Value) (qs : List Q1) (s : Int) (xa : Option Addr) (c : Nat) (z : List Int) (hr : ∀ k, cv.ownBlock = some k → k < S) (j : Nat) (L : Nat → Bool) (w w' : World) (i : Nat) (v : Value)
    (hM : (i ≠ 18 → Below w.heap.size w w') ∧ w.grownBy w' cv.ownBlock) (hij : i ≠ j) (hL : L i = false) (h : GQ2 D A S E b5 o5 m cx k cv qs s xa c z j L w v) : GQ2 D A S E b5 o5 m cx k cv qs s xa c z j (updK L i) w' v := by
  have hg := hM.2
  unfold GQ2 at *
  split at h
  all_goals first
    | exact h
    | exact OwnN.grown h hg hr
    | (obtain ⟨B, e, h⟩ := h; exact ⟨B, e, Own.grown h hg hr⟩)
    | (obtain ⟨a, c', e, h⟩ := h; exact ⟨a, c', e, OwnN.grown h hg hr⟩)
    | (obtain ⟨K, a, c', e, h1, h2, h⟩ := h; exact ⟨K, a, c', e, h1, by rw [hg.block _ (Array.getElem?_eq_some_iff.1 h2).1 (fun er => by have := hr K er.symm; omega)]; exact h2, OwnN.grown h hg hr⟩)
    | (obtain ⟨q, e1, e2, h⟩ := h; exact ⟨q, e1, e2, h.below (hM.1 hij)⟩)

set_option maxHeartbeats 2000000 in
set_option maxRecDepth 100000 in
theorem scp_any (v : Value) (zs : List Int) (ps : List PD) (f : Int) (d : Bool) (w : World) (h : DAt w v zs ps f d) (hz : zs.length ≤ 1048576) (hn : ps.length ≤ 1048576) (hps : ∀ i, (ps.getD i (0, [])).2.length ≤ 1048576) :
    Calls Try.prog 21 #[v] w fun e w' => ∃ r, e = .returned r ∧ DvOwn w' w.heap.size r zs ps f d ∧ Below w.heap.size w w' := by
  have HSD : Hid _ := Try.sizeDv
  obtain ⟨a, cap, x, cx, rfl, hA, hP, hcap⟩ := h
  have HA : Hid (At .u8 w a zs) := hA
  have HP : Hid (PAt w x ps) := hP
  have HPS : Hid (∀ i, (ps.getD i (0, [])).2.length ≤ 1048576) := hps
  obtain ⟨L, hL⟩ : ∃ L, zs.length = L := ⟨_, rfl⟩
  obtain ⟨m, hm⟩ : ∃ m, ps.length = m := ⟨_, rfl⟩
  rw [hL] at hz ⊢
  rw [hm] at hn ⊢
  have HHM : Hid (ps.length = m) := hm
  have HHL : Hid (zs.length = L) := hL
  clear hL hm hA hP hcap hps
  have HS0 : Hid (B2 w _ #[.slice a L cap, .slice x m cx, .int .i64 f, .bool d]) := B2.start w #[.slice a L cap, .slice x m cx, .int .i64 f, .bool d]
  go_enter Try.func21, Try.ntmps21
  go_wp2_with fail
  have st1 := HS0.out
  clear HS0
  generalize ((w.alloc (.cells #[.slice a L cap, .slice x m cx, .int .i64 f, .bool d] 29)).alloc (.cells #[.slice none 0 0, .slice none 0 0, .int .i64 0, .bool false] 29)) = w1 at *
  have HS1 : Hid (B2 w w1 #[.slice a L cap, .slice x m cx, .int .i64 f, .bool d]) := st1
  have hs1 : w.heap.size + 1 < w1.heap.size := (Array.getElem?_eq_some_iff.1 st1.b1).1
  clear st1
  refine wp_region_any (by kernel_rfl) ?_
  refine wpAny_slotsL 10 (fun w w' => Below w.heap.size w w') (frame := (fun (c0 c1 c2 c4 c14 c15 c16 c17 c18 c19 c20 c21 c22 c23 c24 c25 c26 c27 c28 c29 c30 c31 c32 c33 c34 c35 c36 c37 c38 c39 c40 c41 : Value) => fun (t : Nat → Value) => ({ tmps := List.toArray (c0 :: c1 :: c2 :: t 9 :: c4 :: t 0 :: t 1 :: t 2 :: t 3 :: t 4 :: t 5 :: t 6 :: t 7 :: t 8 :: c14 :: c15 :: c16 :: c17 :: c18 :: c19 :: c20 :: c21 :: c22 :: c23 :: c24 :: c25 :: c26 :: c27 :: c28 :: c29 :: c30 :: c31 :: c32 :: c33 :: c34 :: c35 :: c36 :: c37 :: c38 :: c39 :: c40 :: c41 :: []), defers := [] } : Act)) _ _ _ _ _ _ _ _ _ _ _ _ _ _ _ _ _ _ _ _ _ _ _ _ _ _ _ _ _ _ _ _)
    (Ext := fun w' => B2 w w' #[.slice a L cap, .slice x m cx, .int .i64 f, .bool d] ∧ Below w1.heap.size w1 w') (Good := GA2 w1.heap.size w.heap.size L cap a zs f d) (by rfl) (by kernel_rfl) (GA2_mono _ _ _ _ _ _ _ _) (by kernel_rfl) (by kernel_rfl) ?hop ?hend _ _ ((fun (x0 x1 x2 x3 x4 x5 x6 x7 x8 x9 : Value) => fun (i : Nat) => if i = 0 then x0 else if i = 1 then x1 else if i = 2 then x2 else if i = 3 then x3 else if i = 4 then x4 else if i = 5 then x5 else if i = 6 then x6 else if i = 7 then x7 else if i = 8 then x8 else if i = 9 then x9 else undef) _ _ _ _ _ _ _ _ _ _) _ (by simp) (by simp) ?ext ?start (by simp)
  case start => intro i hi h; exact absurd h (by rw [Array.getD_eq_getD_getElem?, Array.getElem?_replicate]; split <;> simp)
  case ext => exact ⟨B2.grow HS1.out (Below.refl _ _).drew, (Below.refl _ _).drew⟩
  case hop =>
    intro i o t w' hil ho hx hdep K hK
    obtain ⟨hx, hxb⟩ := hx
    obtain ⟨c0, c1, c2, c3⟩ := row4 hx.b0
    obtain rfl | rfl | rfl | rfl | rfl | rfl | rfl | rfl | rfl | rfl : i = 0 ∨ i = 1 ∨ i = 2 ∨ i = 3 ∨ i = 4 ∨ i = 5 ∨ i = 6 ∨ i = 7 ∨ i = 8 ∨ i = 9 := by omega
    all_goals (simp at ho; subst ho)
    · clear hdep
      have hb9 := (Below.refl w'.heap.size w').alloc (Nat.le_refl _) (.cells #[] 5)
      have hK' := hK (w'.alloc (.cells #[] 5)) (.slice (some ⟨w'.heap.size, 0, none⟩) 0 0) ⟨w'.heap.size, rfl, Own.empty w' _ hxb.size⟩ ⟨hx.grow hb9, hxb.trans (hb9.mono hxb.size)⟩ hb9
      clear hK
      go_simp
      simpa [upd] using hK'
    · clear hdep
      go_simp
      exact hK w' (.pointer (some ⟨w.heap.size, 0, none⟩)) rfl ⟨hx, hxb⟩ (Below.refl _ _)
    · have d1 : t 1 = _ := hdep ⟨1, .data⟩ (by simp) rfl
      clear hdep
      go_simp
      simpa [upd, d1] using hK w' (.slice a L cap) rfl ⟨hx, hxb⟩ (Below.refl _ _)
    · obtain ⟨B, d0, O0⟩ := hdep ⟨0, .data⟩ (by simp) rfl
      have d2 : t 2 = _ := hdep ⟨2, .data⟩ (by simp) rfl
      clear hdep
      refine wp_appE w' (.tmp 5) (.tmp 7) rfl w1.heap.size B d0 O0 a L cap zs d2 HHL.out (At.below HA.out hx.below) hz hxb.size ?_
      intro v9 w9 O9 hb9
      exact hK w9 v9 (.inr O9) ⟨hx.grow hb9, hxb.trans (hb9.mono hxb.size)⟩ hb9
    · clear hdep
      go_simp
      exact hK w' (.pointer (some ⟨w.heap.size, 2, none⟩)) rfl ⟨hx, hxb⟩ (Below.refl _ _)
    · have d4 : t 4 = _ := hdep ⟨4, .data⟩ (by simp) rfl
      clear hdep
      go_simp
      simpa [upd, d4] using hK w' (.int .i64 f) rfl ⟨hx, hxb⟩ (Below.refl _ _)
    · clear hdep
      go_simp
      exact hK w' (.pointer (some ⟨w.heap.size, 3, none⟩)) rfl ⟨hx, hxb⟩ (Below.refl _ _)
    · have d6 : t 6 = _ := hdep ⟨6, .data⟩ (by simp) rfl
      clear hdep
      go_simp
      simpa [upd, d6] using hK w' (.bool d) rfl ⟨hx, hxb⟩ (Below.refl _ _)
    · have d3 : OwnN w' w1.heap.size (t 3) zs := hdep ⟨3, .data⟩ (by simp) rfl
      have d5 : t 5 = _ := hdep ⟨5, .data⟩ (by simp) rfl
      have d7 : t 7 = _ := hdep ⟨7, .data⟩ (by simp) rfl
      clear hdep
      obtain ⟨da, dc, e2⟩ := d3.sl'
      rw [e2] at d3
      have hK' := hK w' (.agg #[.slice da zs.length dc, .slice none 0 0, .int .i64 f, .bool d]) ⟨_, rfl, d3⟩ ⟨hx, hxb⟩ (Below.refl _ _)
      clear d3 hK
      go_simp
      simpa [upd, e2, d5, d7] using hK'
    · clear hdep
      have hb9 := (Below.refl w'.heap.size w').alloc (Nat.le_refl _) (.cells #[.slice none 0 0, .slice none 0 0, .int .i64 0, .bool false] 29)
      have hK' := hK (w'.alloc (.cells #[.slice none 0 0, .slice none 0 0, .int .i64 0, .bool false] 29)) (.pointer (some ⟨w'.heap.size, 0, none⟩)) ⟨w'.heap.size, rfl, hxb.size, heap_alloc_new w' _⟩ ⟨hx.grow hb9, hxb.trans (hb9.mono hxb.size)⟩ hb9
      clear hK
      go_simp
      simpa [upd] using hK'
  case hend =>
    intro o t w' ho hx hg K hK
    simp at ho; subst ho
    obtain ⟨hx, hxb⟩ := hx
    obtain ⟨dv, h7, O7⟩ := hg 8 (by decide)
    obtain ⟨A, h8, hA1, hbA⟩ := hg 9 (by decide)
    clear hg
    obtain ⟨da, dc, rfl⟩ := O7.sl'
    have hAl := (Array.getElem?_eq_some_iff.1 hbA).1
    refine wp_store_row 29 (.tmp 3) (.tmp 13) rfl A #[.slice da zs.length dc, .slice none 0 0, .int .i64 f, .bool d] h8 h7 29 _ hbA HSD.out rfl (all4e _ _ _ _ _ _ _ _) ?_
    apply hK
    have hwr := Wr.setRow A w' #[.slice da zs.length dc, .slice none 0 0, .int .i64 f, .bool d]
    have hrow : (w'.setRow A #[.slice da zs.length dc, .slice none 0 0, .int .i64 f, .bool d]).heap[A]? = some (.cells #[.slice da zs.length dc, .slice none 0 0, .int .i64 f, .bool d] 29 (0, 0)) := setRow_heap _ _ _ _ _ _ hbA
    have hne : ∀ k, (Value.slice da zs.length dc).ownBlock = some k → k ≠ A := fun k e ek => by
      obtain ⟨_, _, cur, h3⟩ := O7.lt k e
      rw [ek, hbA] at h3; simp at h3
    have hsx := hxb.size
    have st3 : CS w (w'.setRow A #[.slice da zs.length dc, .slice none 0 0, .int .i64 f, .bool d]) #[.slice a L cap, .slice x m cx, .int .i64 f, .bool d] A w'.heap.size (.slice da zs.length dc) (.slice none 0 0) zs f d [] :=
      ⟨hx.below.trans (hwr.below (by omega)), by rw [hwr.block _ (by omega)]; exact hx.b0, by rw [hwr.block _ (by omega)]; exact hx.b1, hrow, (O7.keep (fun k e => hwr.block k (hne k e))).mono (by omega), POwn.nil _ _, ⟨by omega, hAl, by rw [hwr.size]; exact Nat.le_refl _⟩, fun k e => ⟨(O7.lt k e).2.1, hne k e⟩⟩
    clear hwr hrow O7 hx hxb hbA h7 hK hne hsx hA1 hAl
    generalize (w'.setRow A #[.slice da zs.length dc, .slice none 0 0, .int .i64 f, .bool d]) = w3 at *
    generalize w'.heap.size = E at *
    obtain ⟨c0, c1, c2, c3⟩ := row4 st3.b0
    have HS3 : Hid (CS w w3 #[.slice a L cap, .slice x m cx, .int .i64 f, .bool d] A E (.slice da zs.length dc) (.slice none 0 0) zs f d []) := st3
    clear st3 HS1
    go_wp2
    clear h8
    have st3 := HS3.out
    clear HS3 c0 c1 c2 c3
    go_loopw [4] (fun i wr => ∃ (k : Nat) (cv : Value) (qs : List Q1), k ≤ m ∧ i = .int .i64 k ∧ qps qs = ps.take k ∧ CS w wr #[.slice a L cap, .slice x m cx, .int .i64 f, .bool d] A E (.slice da zs.length dc) cv zs f d qs) (fun i _ => m - (intOf i).toNat)
    case atStart => exact ⟨0, _, [], Nat.zero_le _, rfl, rfl, st3⟩
    case round =>
      obtain ⟨k, cv, qs, hk, rfl, hqs, st⟩ := hrel
      clear st3
      obtain ⟨y0, y1, y2, y3⟩ := row4 st.b0
      by_cases hlt : k < m
      · obtain ⟨b5, o5, rfl, hb5, hc5⟩ := PAt.get HP.out (by rw [HHM.out]; omega)
        obtain ⟨xa, xc, q1, q2, q4⟩ := hc5 k (by rw [HHM.out]; exact hlt)
        have hzl := HPS.out k
        have hnew : ps.take (k + 1) = ps.take k ++ [((ps.getD k (0, [])).1, (ps.getD k (0, [])).2)] := by
          have hk' : k < ps.length := by rw [HHM.out]; exact hlt
          have e : ps.getD k (0, []) = ps[k] := by simp [List.getD, hk']
          rw [e]; exact List.take_succ_eq_append_getElem hk'
        have hql : qs.length = k := by
          have h1 : (qps qs).length = (ps.take k).length := by rw [hqs]
          have h2 : ps.length = m := HHM.out
          simp [qps] at h1; omega
        rw [← hqs] at hnew
        have HNEW : Hid (ps.take (k + 1) = qps qs ++ [((ps.getD k (0, [])).1, (ps.getD k (0, [])).2)]) := hnew
        clear hnew hqs hc5
        generalize (ps.getD k (0, [])).1 = s at *
        generalize (ps.getD k (0, [])).2 = z at *
        have hlt' : (k : Int) < m := by omega
        have HS3 : Hid (CS w wr #[.slice a L cap, .slice (some ⟨b5, o5, none⟩) m cx, .int .i64 f, .bool d] A E (.slice da zs.length dc) cv zs f d qs) := st
        have HQ4 : Hid (At .u8 w xa z) := q4
        have HCB : Hid (∀ j, cv.ownBlock = some j → E ≤ j ∧ j < wr.heap.size) := fun j e => ⟨(ownsRow_lt st.pow.row j e).1, (ownsRow_lt st.pow.row j e).2.1⟩
        have hEw := st.hE
        have HQ12 : Hid _ := And.intro q1 q2
        clear st q4 q1 q2
        have HLT : Hid (∀ (i : Nat) (p : Q1) (k : Nat), qs[i]? = some p → p.v.ownBlock = some k → k < wr.heap.size) := fun i p k hp e => ((CS.pow HS3.out).each i p hp).lt k e |>.2.1
        have hcS : ∀ k, cv.ownBlock = some k → k < wr.heap.size := fun j e => (HCB.out j e).2
        go_wp2_with fail
        clear y0 y1 y2 y3
        refine wp_region_any (by kernel_rfl) ?_
        refine wpAny_slotsK 20 (fun i w w' => (i ≠ 18 → Below w.heap.size w w') ∧ w.grownBy w' cv.ownBlock) (frame := (fun (c0 c1 c2 c3 c4 c5 c6 c7 c8 c9 c10 c11 c12 c13 c14 c15 c16 c17 c18 c19 c20 c41 : Value) => fun (t : Nat → Value) => ({ tmps := List.toArray (c0 :: c1 :: c2 :: c3 :: c4 :: c5 :: c6 :: c7 :: c8 :: c9 :: c10 :: c11 :: c12 :: c13 :: c14 :: c15 :: c16 :: c17 :: c18 :: c19 :: c20 :: t 0 :: t 1 :: t 2 :: t 3 :: t 4 :: t 5 :: t 6 :: t 7 :: t 8 :: t 9 :: t 10 :: t 11 :: t 12 :: t 13 :: t 14 :: t 15 :: t 16 :: t 17 :: t 18 :: t 19 :: c41 :: []), defers := [] } : Act)) _ _ _ _ _ _ _ _ _ _ _ _ _ _ _ _ _ _ _ _ _ _)
          (Ext := fun Ls w' => wr.grownBy w' cv.ownBlock ∧ (Ls 18 = false → Below wr.heap.size wr w')) (Good := GQ2 w.heap.size A wr.heap.size E b5 o5 m cx k cv qs s xa xc z) (by rfl) (by kernel_rfl) (GQ2_stab _ _ _ _ _ _ _ _ _ _ _ _ _ _ _ hcS) (by kernel_rfl) (by kernel_rfl) ?hop ?hend _ _ ((fun (x0 x1 x2 x3 x4 x5 x6 x7 x8 x9 x10 x11 x12 x13 x14 x15 x16 x17 x18 x19 : Value) => fun (i : Nat) => if i = 0 then x0 else if i = 1 then x1 else if i = 2 then x2 else if i = 3 then x3 else if i = 4 then x4 else if i = 5 then x5 else if i = 6 then x6 else if i = 7 then x7 else if i = 8 then x8 else if i = 9 then x9 else if i = 10 then x10 else if i = 11 then x11 else if i = 12 then x12 else if i = 13 then x13 else if i = 14 then x14 else if i = 15 then x15 else if i = 16 then x16 else if i = 17 then x17 else if i = 18 then x18 else if i = 19 then x19 else undef) _ _ _ _ _ _ _ _ _ _ _ _ _ _ _ _ _ _ _ _) _ (by simp) (by simp) ?ext ?start (by simp)
        case start => intro i hi h; exact absurd h (by rw [Array.getD_eq_getD_getElem?, Array.getElem?_replicate]; split <;> simp)
        case ext => exact ⟨grown_of_below (Below.refl _ _).drew, fun _ => (Below.refl _ _).drew⟩
        case hop =>
          intro i o Ls t w' hil ho hLi hx hdep K hK
          obtain ⟨hxg, hx9⟩ := hx
          have hgr : ∀ ww : World, Below w'.heap.size w' ww → wr.grownBy ww cv.ownBlock := fun ww hb => grown_trans hxg (grown_of_below hb)
          have h9 : ∀ (j : Nat) (ww : World), j ≠ 18 → Below w'.heap.size w' ww → updK Ls j 18 = false → Below wr.heap.size wr ww := fun j ww hj hb hL => by
            have hL' : Ls 18 = false := by simpa [updK, Ne.symm hj] using hL
            exact (hx9 hL').trans (hb.mono hxg.size)
          have haf : w'.heap[A]? = some (.cells #[.slice da zs.length dc, cv, .int .i64 f, .bool d] 29 (0, 0)) := by
            rw [hxg.block A (by omega) (fun e => by have := HCB.out A e.symm; omega)]; exact CS.aft HS3.out
          have hbb : w'.heap[w.heap.size]? = some (.cells #[.slice a L cap, .slice (some ⟨b5, o5, none⟩) m cx, .int .i64 f, .bool d] 29 (0, 0)) := by
            rw [hxg.block _ (by omega) (fun e => by have := HCB.out _ e.symm; omega)]; exact CS.b0 HS3.out
          obtain ⟨a0, a1, a2, a3⟩ := row4 haf
          obtain ⟨y0, y1, y2, y3⟩ := row4 hbb
          have hbw : Below w.heap.size w w' := by
            have hb0 := CS.below HS3.out
            have hsz := hb0.size
            exact hb0.trans ⟨hxg.os, hxg.tape, hxg.output, hxg.size, fun k hk => hxg.block k (by omega) (fun e => by have := HCB.out k e.symm; omega)⟩
          have q1' : w'.cell? ⟨b5, o5 + k * 2, none⟩ = some (.int .i64 s) := by rw [hbw.cell (p := ⟨b5, o5 + k * 2, none⟩) hb5]; exact HQ12.out.1
          have q2' : w'.cell? ⟨b5, o5 + k * 2 + 1, none⟩ = some (.slice xa z.length xc) := by rw [hbw.cell (p := ⟨b5, o5 + k * 2 + 1, none⟩) hb5]; exact HQ12.out.2
          have REF : Hid (∀ j, j ≠ 18 → (wr.grownBy w' cv.ownBlock ∧ (updK Ls j 18 = false → Below wr.heap.size wr w'))) := fun j hj => ⟨hxg, h9 j w' hj (Below.refl _ _)⟩
          have RM : Hid (∀ j, (j ≠ 18 → Below w'.heap.size w' w') ∧ w'.grownBy w' cv.ownBlock) := fun j => ⟨fun _ => Below.refl _ _, grown_of_below (Below.refl _ _)⟩
          have hs9 := hxg.size
          have H9 : Hid _ := h9
          have HGR : Hid _ := hgr
          have HX9 : Hid _ := hx9
          have HXG : Hid _ := hxg
          clear h9 hgr hx9 hxg haf hbb
          obtain rfl | rfl | rfl | rfl | rfl | rfl | rfl | rfl | rfl | rfl | rfl | rfl | rfl | rfl | rfl | rfl | rfl | rfl | rfl | rfl : i = 0 ∨ i = 1 ∨ i = 2 ∨ i = 3 ∨ i = 4 ∨ i = 5 ∨ i = 6 ∨ i = 7 ∨ i = 8 ∨ i = 9 ∨ i = 10 ∨ i = 11 ∨ i = 12 ∨ i = 13 ∨ i = 14 ∨ i = 15 ∨ i = 16 ∨ i = 17 ∨ i = 18 ∨ i = 19 := by omega
          all_goals (simp at ho; subst ho)
          · clear hdep
            go_simp
            exact hK w' (.pointer (some ⟨A, 1, none⟩)) rfl (REF.out 0 (by decide)) (RM.out 0)
          · have d0 : t 0 = _ := hdep ⟨0, .data⟩ (by simp) rfl
            clear hdep
            go_simp
            simpa [upd, d0] using hK w' (cv) rfl (REF.out 1 (by decide)) (RM.out 1)
          · clear hdep
            go_simp
            exact hK w' (.pointer (some ⟨w.heap.size, 1, none⟩)) rfl (REF.out 2 (by decide)) (RM.out 2)
          · have d2 : t 2 = _ := hdep ⟨2, .data⟩ (by simp) rfl
            clear hdep
            go_simp
            simpa [upd, d2] using hK w' (.slice (some ⟨b5, o5, none⟩) m cx) rfl (REF.out 3 (by decide)) (RM.out 3)
          · clear hdep
            go_simp
            exact hK w' (.int .i64 k) rfl (REF.out 4 (by decide)) (RM.out 4)
          · have d3 : t 3 = _ := hdep ⟨3, .data⟩ (by simp) rfl
            have d4 : t 4 = _ := hdep ⟨4, .data⟩ (by simp) rfl
            clear hdep
            go_simp
            simpa [upd, d3, d4] using hK w' (.pointer (some ⟨b5, o5 + k * 2, none⟩)) rfl (REF.out 5 (by decide)) (RM.out 5)
          · have d5 : t 5 = _ := hdep ⟨5, .data⟩ (by simp) rfl
            clear hdep
            go_simp
            simpa [upd, d5] using hK w' (.pointer (some ⟨b5, o5 + k * 2, none⟩)) rfl (REF.out 6 (by decide)) (RM.out 6)
          · have d6 : t 6 = _ := hdep ⟨6, .data⟩ (by simp) rfl
            clear hdep
            go_simp
            simpa [upd, d6] using hK w' (.int .i64 s) rfl (REF.out 7 (by decide)) (RM.out 7)
          · clear hdep
            have hb9 := (Below.refl w'.heap.size w').alloc (Nat.le_refl _) (.cells #[] 5)
            have hK' := hK (w'.alloc (.cells #[] 5)) (.slice (some ⟨w'.heap.size, 0, none⟩) 0 0) ⟨w'.heap.size, rfl, Own.empty w' _ hs9⟩ ⟨HGR.out _ hb9, H9.out 8 _ (by decide) hb9⟩ ⟨fun _ => hb9, grown_of_below hb9⟩
            clear hK
            go_simp
            simpa [upd] using hK'
          · clear hdep
            go_simp
            exact hK w' (.pointer (some ⟨w.heap.size, 1, none⟩)) rfl (REF.out 9 (by decide)) (RM.out 9)
          · have d9 : t 9 = _ := hdep ⟨9, .data⟩ (by simp) rfl
            clear hdep
            go_simp
            simpa [upd, d9] using hK w' (.slice (some ⟨b5, o5, none⟩) m cx) rfl (REF.out 10 (by decide)) (RM.out 10)
          · clear hdep
            go_simp
            exact hK w' (.int .i64 k) rfl (REF.out 11 (by decide)) (RM.out 11)
          · have d10 : t 10 = _ := hdep ⟨10, .data⟩ (by simp) rfl
            have d11 : t 11 = _ := hdep ⟨11, .data⟩ (by simp) rfl
            clear hdep
            go_simp
            simpa [upd, d10, d11] using hK w' (.pointer (some ⟨b5, o5 + k * 2, none⟩)) rfl (REF.out 12 (by decide)) (RM.out 12)
          · have d12 : t 12 = _ := hdep ⟨12, .data⟩ (by simp) rfl
            clear hdep
            go_simp
            simpa [upd, d12] using hK w' (.pointer (some ⟨b5, o5 + k * 2 + 1, none⟩)) rfl (REF.out 13 (by decide)) (RM.out 13)
          · have d13 : t 13 = _ := hdep ⟨13, .data⟩ (by simp) rfl
            clear hdep
            go_simp
            simpa [upd, d13] using hK w' (.slice xa z.length xc) rfl (REF.out 14 (by decide)) (RM.out 14)
          · obtain ⟨B, d8, O8⟩ := hdep ⟨8, .data⟩ (by simp) rfl
            have d14 : t 14 = _ := hdep ⟨14, .data⟩ (by simp) rfl
            clear hdep
            refine wp_appE w' (.tmp 29) (.tmp 35) rfl wr.heap.size B d8 O8 xa z.length xc z d14 rfl (At.below HQ4.out hbw) hzl hs9 ?_
            intro v9 w9 O9 hb9
            exact hK w9 v9 (.inr O9) ⟨HGR.out w9 hb9, H9.out 15 w9 (by decide) hb9⟩ ⟨fun _ => hb9, grown_of_below hb9⟩
          · have d7 : t 7 = _ := hdep ⟨7, .data⟩ (by simp) rfl
            have d6 : OwnN w' wr.heap.size (t 15) z := hdep ⟨15, .data⟩ (by simp) rfl
            clear hdep
            obtain ⟨ea, ec, e6⟩ := d6.sl'
            rw [e6] at d6
            have hK' := hK w' (.agg #[.int .i64 s, .slice ea z.length ec]) ⟨ea, ec, rfl, d6⟩ (REF.out 16 (by decide)) (RM.out 16)
            clear d6 hK
            go_simp
            simpa [upd, e6, d7] using hK'
          · obtain ⟨ea, ec, e7, O7⟩ := hdep ⟨16, .data⟩ (by simp) rfl
            clear hdep
            have hb9 := (Below.refl w'.heap.size w').alloc (Nat.le_refl _) (.cells #[.int .i64 s, .slice ea z.length ec] 44)
            have hK' := hK (w'.alloc (.cells #[.int .i64 s, .slice ea z.length ec] 44)) (.slice (some ⟨w'.heap.size, 0, none⟩) 1 1) ⟨w'.heap.size, ea, ec, rfl, hs9, heap_alloc_new w' _, O7.grow hb9⟩ ⟨HGR.out _ hb9, H9.out 17 _ (by decide) hb9⟩ ⟨fun _ => hb9, grown_of_below hb9⟩
            clear hK O7 hb9
            go_simp
            simpa [upd, e7] using hK'
          · have d1 : t 1 = _ := hdep ⟨1, .data⟩ (by simp) rfl
            obtain ⟨B, ea, ec, e8, hB, hbB, O8⟩ := hdep ⟨17, .data⟩ (by simp) rfl
            clear hdep
            have hP9 := (CS.pow HS3.out).below (HX9.out hLi)
            refine wp_appP w' (.tmp 22) (.tmp 38) rfl E wr.heap.size cv qs ⟨s, ea, ec, z⟩ d1 hP9 HLT.out B e8 hbB (.inl O8) (by omega) (by omega) (by omega) ?_
            intro v9 w9 hP9' hg9
            exact hK w9 v9 ⟨_, rfl, rfl, hP9'⟩ ⟨grown_trans HXG.out hg9, fun h => by simp [updK] at h⟩ ⟨fun h => absurd rfl h, hg9⟩
          · clear hdep
            go_simp
            exact hK w' (.pointer (some ⟨A, 1, none⟩)) rfl (REF.out 19 (by decide)) (RM.out 19)
        case hend =>
          intro o Ls t w' ho hx hg K hK
          simp at ho; subst ho
          obtain ⟨hxg, _⟩ := hx
          obtain ⟨q', hq1, hq2, hP9⟩ := hg 18 (by decide)
          have h10 : t 19 = _ := hg 19 (by decide)
          clear hg
          obtain ⟨na, nc, e9, _⟩ := hP9.mine
          obtain ⟨n9, hn9⟩ : ∃ n9, (qs ++ [q']).length = n9 := ⟨_, rfl⟩
          rw [hn9] at e9
          clear hn9
          rw [e9] at hP9
          have haf : w'.heap[A]? = some (.cells #[.slice da zs.length dc, cv, .int .i64 f, .bool d] 29 (0, 0)) := by
            rw [hxg.block A (by omega) (fun e => by have := HCB.out A e.symm; omega)]; exact CS.aft HS3.out
          obtain ⟨a0, a1, a2, a3⟩ := row4 haf
          have f1 := frozen_of_row w' A 1 _ _ haf
          have hA9 := row_setCell (i := 1) (.slice na n9 nc) haf rfl
          have hoth : ∀ j, j ≠ A → (w'.setCell ⟨A, 1, none⟩ (.slice na n9 nc)).heap[j]? = w'.heap[j]? := fun j hj => heap_setCell_other w' ⟨A, 1, none⟩ j (.slice na n9 nc) (by simpa using hj)
          have hsz : (w'.setCell ⟨A, 1, none⟩ (.slice na n9 nc)).heap.size = w'.heap.size := by simp [World.setCell]
          have hPn : POwn (w'.setCell ⟨A, 1, none⟩ (.slice na n9 nc)) E (.slice na n9 nc) (qs ++ [q']) := hP9.keep (fun j hj _ => hoth j (by omega))
          have st' : CS w (w'.setCell ⟨A, 1, none⟩ (.slice na n9 nc)) #[.slice a L cap, .slice (some ⟨b5, o5, none⟩) m cx, .int .i64 f, .bool d] A E (.slice da zs.length dc) (.slice na n9 nc) zs f d (qs ++ [q']) :=
            CS.turn HS3.out hxg.os hxg.tape hxg.output (by rw [hsz]; exact hxg.size) (fun j hj hjA => (hoth j hjA).trans (hxg.block j (by omega) (fun e => by have := HCB.out j e.symm; omega))) hA9 hPn
          have hqn : qps (qs ++ [q']) = ps.take (k + 1) := by rw [HNEW.out]; simp [qps, hq1, hq2]
          have HS' : Hid (CS w (w'.setCell ⟨A, 1, none⟩ (.slice na n9 nc)) #[.slice a L cap, .slice (some ⟨b5, o5, none⟩) m cx, .int .i64 f, .bool d] A E (.slice da zs.length dc) (.slice na n9 nc) zs f d (qs ++ [q'])) := st'
          have HQN : Hid (qps (qs ++ [q']) = ps.take (k + 1)) := hqn
          clear st' hqn hPn hsz hoth hA9 haf hP9 hxg a0 a2 a3
          go_simp
          apply hK
          clear e9 h10
          go_wp2
          go_roundw
          case rel => exact ⟨k + 1, .slice na n9 nc, qs ++ [q'], by omega, by go_num, HQN.out, HS'.out⟩
          case measure => simp [intOf]; omega
      · have hkm : k = m := by omega
        subst hkm
        have hall : qps qs = ps := by rw [hqs, ← HHM.out, List.take_length]
        have hlt' : ¬ (k : Int) < k := by omega
        obtain ⟨a0, a1, a2, a3⟩ := row4 st.aft
        obtain ⟨ca, cc, rfl, _⟩ := st.pow.mine
        have hM := st.typed
        have hE := st.hE
        have HM : Hid (DvOwn wr (w.heap.size + 2) (.agg #[.slice da zs.length dc, .slice ca qs.length cc, .int .i64 f, .bool d]) zs (qps qs) f d) := hM
        have HB1 : Hid (wr.heap[w.heap.size + 1]? = some (.cells #[.slice none 0 0, .slice none 0 0, .int .i64 0, .bool false] 29 (0, 0))) := st.b1
        have HBL : Hid (Below w.heap.size w wr) := st.below
        have HALL : Hid (qps qs = ps) := hall
        clear st hM hall hqs
        generalize qs.length = n9 at *
        go_wp2_with (refine wpList_store_row rfl 29 (.tmp 2) (.tmp 41) rfl (w.heap.size + 1) #[.slice da zs.length dc, .slice ca n9 cc, .int .i64 f, .bool d] rfl rfl 29 _ HB1.out HSD.out rfl (all4e _ _ _ _ _ _ _ _) ?_)
        (try simp only [Exit.inBlock, Exit.then])
        refine bodyPost_ret (v := .agg #[.slice da zs.length dc, .slice ca n9 cc, .int .i64 f, .bool d]) (results_cell_row rfl _ _ (w.heap.size + 1) 29 _ (0, 0) _ rfl (setRow_heap _ _ _ _ _ _ HB1.out) Try.underlying29 rfl HSD.out) rfl ⟨_, rfl, ?_, ?_⟩
        · have hM := HM.out
          rw [HALL.out] at hM
          exact (hM.keep (fun j _ _ hj _ _ => (Wr.setRow _ _ _).block j (by omega)) (by rw [size_setRow]; exact Nat.le_refl _)).mono (by omega)
        · exact HBL.out.trans ((Wr.setRow _ _ _).below (by omega))
end Go.Proofs.Ytiignammhieidaa
