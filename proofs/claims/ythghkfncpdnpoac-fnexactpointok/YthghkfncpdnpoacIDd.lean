/-
  Own work: decode, by the program (written by wip/mkdec.py).
-/
import Derived.Test.YthghkfncpdnpoacIDc
import Derived.Test.YthghkfncpdnpoacReg8
namespace Go.Proofs.Ythghkfncpdnpoac
open Go.ChangeShapes Go.WideShapes Go.ChangeAt Go.RowKit
set_option linter.unusedVariables false

theorem updK_ne {L : Nat → Bool} {i j : Nat} (h : j ≠ i) : updK L i j = L j := by unfold updK; simp [h]
theorem updK_same {L : Nat → Bool} {i : Nat} : updK L i i = true := by unfold updK; simp
/-- The world in a region of decode: before operation k the point is as A says, behind it as B says. -/
def ExD (w0 : World) (g k : Nat) (A B : World → Prop) (L : Nat → Bool) (w' : World) : Prop := WrH g w0 w' ∧ (L k = false → A w') ∧ (L k = true → B w')
theorem ExD.ref {w0 : World} {g k : Nat} {A B : World → Prop} {L : Nat → Bool} {w' : World} (i : Nat) (hi : i ≠ k) (h : ExD w0 g k A B L w') : ExD w0 g k A B (updK L i) w' :=
  ⟨h.1, by rw [updK_ne (Ne.symm hi)]; exact h.2.1, by rw [updK_ne (Ne.symm hi)]; exact h.2.2⟩
theorem ExD.low {w0 : World} {g k : Nat} {A B : World → Prop} {L : Nat → Bool} {w' ww : World} (i : Nat) (hi : i ≠ k) (h : ExD w0 g k A B L w') (hA : A w' → A ww) (hB : B w' → B ww) (b : Below w'.heap.size w' ww) : ExD w0 g k A B (updK L i) ww :=
  ⟨h.1.trans (WrH.of_below b), by rw [updK_ne (Ne.symm hi)]; exact fun q => hA (h.2.1 q), by rw [updK_ne (Ne.symm hi)]; exact fun q => hB (h.2.2 q)⟩
theorem wp_loadE {w : World} {o : Oper} {a : Act} {K : Act → World → Prop} {Q : Exit → Act → World → Prop} (x : Operand) (ho : o.op = .load 82 x)
    (g p : Nat) (es : List Int) (hx : a.eval x = .pointer (some ⟨g, p, none⟩)) (h : EAt w g p es) (hK : K (a.put o.dst (.agg (es.map (Value.int .u64)).toArray)) w) : o.wp Try.prog a w K Q := by
  have hr : w.rangeAt g p (es.map (Value.int .u64)) := fun j v hv => by
    have hj : j < es.length := by have := (List.getElem?_eq_some_iff.1 hv).1; simpa using this
    rw [h.2.2 j (by have := h.2.1.1; omega)]
    simp [hj] at hv; simp [hj, hv]
  have hl := h.2.1.1
  exact wp_load_mid 82 x ho g p hx (es.map (Value.int .u64)) _ hr Try.underlying82 rfl (by rw [Try.sizeEl]; simp [hl]) hK

theorem wp_midT {w : World} {g : Nat} {x y z t : List Int} {o : Oper} {a : Act} {K : Act → World → Prop} {Q : Exit → Act → World → Prop} (pt : Pt w g x y z t) (px py : Operand) (ho : o.op = .store 82 px py)
    (es : List Int) (hx : a.eval px = .pointer (some ⟨g, 15, none⟩)) (hy : a.eval py = .agg (es.map (Value.int .u64)).toArray) (hk : EOk es)
    (hK : ∀ w', Pt w' g x y z es → Wr g w w' → K (a.put o.dst undef) w') : o.wp Try.prog a w K Q := by
  have hsz : ((es.map (Value.int .u64)).toArray).size = 5 := by simp [hk.1]
  have hl : (pl x y z t).length = 20 := by unfold pl; simp [pt.x.1, pt.y.1, pt.z.1, pt.t.1]
  refine wp_store_mid 82 px py ho g 15 ((es.map (Value.int .u64)).toArray) hx hy (by rw [hsz]; exact fun j hj => ⟨by rw [pt.row.cell (15 + j) (by omega)]; rfl, pt.row.frozen _⟩) (sizeEl hk.1) (all_oneCell_toArray (ints_oneCell _ _)) (hK _ ?_ (Wr.setCells _ _ 15 (Wr.refl _ _)))
  have hr := RowW.setCells es (pl x y z t) w 15 pt.row
  rw [over_t pt.x.1 pt.y.1 pt.z.1 pt.t.1 hk.1] at hr
  exact ⟨hr, pt.x, pt.y, pt.z, hk⟩
/-- A product, as a value. -/
def TG (X Y : Int) (v : Value) : Prop := ∃ ts, EOk ts ∧ ev ts = X * Y % fp ∧ v = .agg (ts.map (Value.int .u64)).toArray

def dcY (zs : List Int) : Int := val 256 zs % (fp + 19)
def dcO (zs : List Int) : Bool := val 256 zs / (fp + 19) == 1
def dc1 (zs : List Int) : Int := drX (uF (dcY zs)) (vF (dcY zs))
def dcX (zs : List Int) : Int := if ((dc1 zs % 2 == 1) != dcO zs) = true then (0 - dc1 zs) % fp else dc1 zs
def dcR (zs : List Int) : Bool := zs.length == 32 && decide (dcY zs < fp) && drR (uF (dcY zs)) (vF (dcY zs)) && ((dcX zs % 2 == 1) == dcO zs)
/-- What decode answers. -/
def DC (w : World) (g : Nat) (zs : List Int) (e : Ending) (w' : World) : Prop :=
  ∃ x y z t, Pt w' g x y z t ∧ WrH g w w' ∧ e = .returned (.bool (dcR zs)) ∧ (dcR zs = true → ev x = dcX zs ∧ ev y = dcY zs ∧ ev z = 1 ∧ ev t = dcX zs * dcY zs % fp)
theorem dc_num (a b c d V : Int) (ha : 0 ≤ a) (ha' : a < 18446744073709551616) (hb : 0 ≤ b) (hb' : b < 18446744073709551616) (hc : 0 ≤ c) (hc' : c < 18446744073709551616) (hd : 0 ≤ d) (hd' : d < 18446744073709551616) (hV : val 18446744073709551616 [a, b, c, d] = V) :
    (d / 9223372036854775808 == 1) = (V / (fp + 19) == 1) := by
  have : d / 9223372036854775808 = V / (fp + 19) := by
    subst hV
    simp only [val, fp_lit]
    omega
  rw [this]

set_option maxHeartbeats 8000000 in
theorem decode_any (g : Nat) (x y z t0 : List Int) (p : Option Addr) (n cap : Nat) (zs : List Int) (w : World) (hn : zs.length = n) (hm : n ≤ 1048576) (ha : At .u8 w p zs) (hz : Byte zs) (hp : Pt w g x y z t0) :
    Calls Try.prog 53 #[.pointer (some ⟨g, 0, none⟩), .slice p n cap] w (DC w g zs) := by
  have HP : Hid (Pt w g x y z t0) := hp
  have hlt := hp.row.lt
  clear hp
  by_cases h32 : n = 32
  · have h32' : ((n : Int) == 32) = true := by rw [h32]; rfl
    have H32 : Hid (32 ≤ n) := by show _ ≤ _; omega
    have HLN : Hid (zs.length = 32) := by show _ = _; omega
    have htk : zs.take 32 = zs := List.take_of_length_le (by omega)
    clear h32
    go_enter Try.func53, Try.ntmps53
    go_wp2_with fail
    have cl := nof_any p n cap zs w hn H32.out hm ha hz
    refine cl.mono ?_
    rintro e w1 ⟨ms, hl, hw, hv, rfl, b1⟩
    rw [htk] at hv
    match ms, hl with
    | [a, b, c, d], _ =>
    obtain ⟨a0, a1⟩ := hw.get 0
    obtain ⟨b0, b1'⟩ := hw.get 1
    obtain ⟨c0, c1⟩ := hw.get 2
    obtain ⟨d0, d1⟩ := hw.get 3
    simp only [List.getD_cons_zero, List.getD_cons_succ] at a0 a1 b0 b1' c0 c1 d0 d1
    have HO : Hid ((d / 9223372036854775808 == 1) = dcO zs) := dc_num a b c d _ a0 a1 b0 b1' c0 c1 d0 d1 hv
    have HY : Hid (val B51 (lmb a b c d) = dcY zs) := by
      show _ = _
      rw [lmb_val a b c d a0 a1 b0 b1' c0 c1 d0 d1, hv]; rfl
    have HP1 : Hid (Pt w1 g x y z t0) := HP.out.below b1 hlt
    have HW1 : Hid (WrH g w w1) := WrH.of_below b1
    have HWD : Hid (Wrd [a, b, c, d]) := hw
    clear HP b1 hv cl hw ha hz htk
    have HZN : Hid (RowW (w1.alloc (.cells #[.int .u64 0, .int .u64 0, .int .u64 0, .int .u64 0] 100)) w1.heap.size 100 [0, 0, 0, 0]) := heap_alloc_new w1 _
    have HSZ : Hid ((Try.prog.info? 100).map (·.size) = some (([a, b, c, d].map (Value.int .u64)).toArray).size) := sizeNum rfl
    go_wp2_with (first
      | (refine wpList_store_row rfl 100 (.tmp 5) (.tmp 11) rfl w1.heap.size (([a, b, c, d].map (Value.int .u64)).toArray) rfl rfl 100 _ HZN.out HSZ.out rfl (all_oneCell_toArray (ints_oneCell _ _)) ?_)
      | fail)
    have R2 : RowW ((w1.alloc (.cells #[.int .u64 0, .int .u64 0, .int .u64 0, .int .u64 0] 100)).setRow w1.heap.size #[.int .u64 a, .int .u64 b, .int .u64 c, .int .u64 d]) w1.heap.size 100 [a, b, c, d] := HZN.out.setRow [a, b, c, d]
    have B2 : Below w1.heap.size w1 ((w1.alloc (.cells #[.int .u64 0, .int .u64 0, .int .u64 0, .int .u64 0] 100)).setRow w1.heap.size #[.int .u64 a, .int .u64 b, .int .u64 c, .int .u64 d]) := (below_new2 _ _).trans ((Wr.setRow _ _ _).below (Nat.le_refl _))
    have hlt1 := HP1.out.row.lt
    generalize (w1.alloc (.cells #[.int .u64 0, .int .u64 0, .int .u64 0, .int .u64 0] 100)).setRow w1.heap.size #[.int .u64 a, .int .u64 b, .int .u64 c, .int .u64 d] = w2 at *
    have HP2 : Hid (Pt w2 g x y z t0) := HP1.out.below B2 hlt1
    have HW2 : Hid (WrH g w w2) := HW1.out.trans (WrH.of_below B2)
    have HR2 : Hid (RowW w2 w1.heap.size 100 [a, b, c, d]) := R2
    clear R2 B2 HP1 HW1 HZN
    generalize w1.heap.size = Gn at *
    go_wp2_with fail
    refine (bit255_any Gn [a, b, c, d] _ rfl HR2.out HWD.out).mono ?_
    rintro e w2' ⟨rfl, rfl⟩
    simp only [List.getD_cons_zero, List.getD_cons_succ]
    go_wp2_with (first
      | (refine wpList_load_row rfl 100 (.tmp 5) rfl Gn rfl 100 _ (0, 0) _ HR2.out Try.underlying100 rfl HSZ.out ?_)
      | fail)
    rw [HO.out]
    refine (elementOf_any a b c d _ a0 a1 b0 b1' c0 c1 d0 d1).mono ?_
    rintro e w3 ⟨rfl, b3⟩
    have HS3 : Hid (RunP w w3 g x y z t0 [] []) := ⟨HW2.out.trans (WrH.of_below b3), hlt, HP2.out.below b3 HP2.out.row.lt, by simp, List.Pairwise.nil, by simp⟩
    have HKlm : Hid (EOk (lmb a b c d) ∧ val B51 (lmb a b c d) = dcY zs) := ⟨lmb_ok a b c d, HY.out⟩
    have HLS : Hid (lsE (lmb a b c d) = lmb a b c d ↔ dcY zs < fp) := by
      show _ ↔ _
      rw [← HY.out]; exact lmb_least a b c d
    clear b3 HP2 HW2 HR2 HO HSZ HWD HY
    generalize lmb a b c d = ys at *
    clear a0 a1 b0 b1' c0 c1 d0 d1
    have HKys : Hid (EOk ys ∧ ev ys = ev ys) := ⟨HKlm.out.1, rfl⟩
    go_wp2_with (first
      | (refine wpList_midP HS3.out rfl (.tmp 18) (.tmp 16) rfl 5 (by decide) ys x ys z t0 (over_y HS3.out.pt.x.1 HS3.out.pt.y.1 HKlm.out.1.1) ⟨HS3.out.pt.x, HKlm.out.1, HS3.out.pt.z, HS3.out.pt.t⟩ rfl rfl HKlm.out.1 rfl ?_)
      | fail)
    intro w4 S4
    have HS4 : Hid (RunP w w4 g x ys z t0 [] []) := S4
    clear S4 HS3
    have HA : Hid (∀ (w' ww : World), Below w'.heap.size w' ww → Pt w' g x ys z t0 → Pt ww g x ys z t0) := fun w' ww b h => h.below b h.row.lt
    have hyl := HKys.out.1.1
    have hll := lsE_len ys
    by_cases hle : lsE ys = ys
    · have HQ : Hid (decide (ys = lsE ys) = true) := decide_eq_true hle.symm
      have HYL : Hid (dcY zs < fp) := HLS.out.1 hle
      have HEV : Hid (ev ys = dcY zs) := by
        show _ = _
        have := (lsE_all HKys.out.1).2.2
        rw [hle, HKlm.out.2] at this; exact this.symm
      clear hle
      have EX0 : Hid (ExD w g 11 (fun w1 => Pt w1 g x ys z t0) (fun w1 => ∃ xs, EOk xs ∧ ev xs = dc1 zs ∧ Pt w1 g xs ys z t0) (fun n => (Array.replicate 14 false).getD n false) w4.drew) := ⟨HS4.out.wrh.trans (WrH.of_below (Below.refl _ _).drew), fun _ => ⟨HS4.out.pt.row, HS4.out.pt.x, HS4.out.pt.y, HS4.out.pt.z, HS4.out.pt.t⟩, fun q => absurd q (by simp)⟩
      have HB : Hid (∀ (w' ww : World), Below w'.heap.size w' ww → (∃ xs, EOk xs ∧ ev xs = dc1 zs ∧ Pt w' g xs ys z t0) → (∃ xs, EOk xs ∧ ev xs = dc1 zs ∧ Pt ww g xs ys z t0)) := fun w' ww b ⟨xs, h1, h2, h⟩ => ⟨xs, h1, h2, h.below b h.row.lt⟩
      have REF : Hid (∀ i, i ≠ 11 → ∀ (L : Nat → Bool) (w' : World), ExD w g 11 (fun w1 => Pt w1 g x ys z t0) (fun w1 => ∃ xs, EOk xs ∧ ev xs = dc1 zs ∧ Pt w1 g xs ys z t0) L w' → ExD w g 11 (fun w1 => Pt w1 g x ys z t0) (fun w1 => ∃ xs, EOk xs ∧ ev xs = dc1 zs ∧ Pt w1 g xs ys z t0) (updK L i) w') := fun i hi L w' h => ExD.ref i hi h
      have YY : Hid (∀ (L : Nat → Bool) (w' : World), ExD w g 11 (fun w1 => Pt w1 g x ys z t0) (fun w1 => ∃ xs, EOk xs ∧ ev xs = dc1 zs ∧ Pt w1 g xs ys z t0) L w' → EAt w' g 5 ys) := fun L w' h => by
        cases hL : L 11
        · exact (h.2.1 hL).ey
        · obtain ⟨_, _, _, q⟩ := h.2.2 hL
          exact q.ey
      go_wp2
      refine wp_region_any (by kernel_rfl) ?_
      refine wpAny_slotsG (fun _ _ _ => True) (frame := (fun (c0 c1 c2 c3 c4 c5 c6 c7 c8 c9 c10 c11 c12 c13 c14 c15 c16 c17 c18 c33 c34 c35 c36 c37 c38 c39 c40 c41 c42 c43 c44 c45 c46 c47 c48 c49 c50 c51 c52 c53 c54 c55 c56 c57 c58 c59 c60 c61 c62 c63 c64 c65 : Value) => fun (t : Nat → Value) => ({ tmps := List.toArray (c0 :: c1 :: c2 :: c3 :: c4 :: c5 :: c6 :: c7 :: c8 :: c9 :: c10 :: c11 :: c12 :: c13 :: c14 :: c15 :: c16 :: c17 :: c18 :: t 0 :: t 1 :: t 2 :: t 3 :: t 4 :: t 5 :: t 6 :: t 7 :: t 8 :: t 9 :: t 10 :: t 11 :: t 12 :: t 13 :: c33 :: c34 :: c35 :: c36 :: c37 :: c38 :: c39 :: c40 :: c41 :: c42 :: c43 :: c44 :: c45 :: c46 :: c47 :: c48 :: c49 :: c50 :: c51 :: c52 :: c53 :: c54 :: c55 :: c56 :: c57 :: c58 :: c59 :: c60 :: c61 :: c62 :: c63 :: c64 :: c65 :: []), defers := [] } : Act)) _ _ _ _ _ _ _ _ _ _ _ _ _ _ _ _ _ _ _ _ _ _ _ _ _ _ _ _ _ _ _ _ _ _ _ _ _ _ _ _ _ _ _ _ _ _ _ _ _ _ _ _)
        (Ext := fun L w' => ExD w g 11 (fun w1 => Pt w1 g x ys z t0) (fun w1 => ∃ xs, EOk xs ∧ ev xs = dc1 zs ∧ Pt w1 g xs ys z t0) L w') (Good := fun i L _ v => if i = 0 then v = .pointer (some ⟨g, 0, none⟩) else if i = 1 then v = .pointer (some ⟨g, 0, none⟩) else if i = 2 then v = .pointer (some ⟨g, 5, none⟩) else if i = 3 then v = .agg (ys.map (Value.int .u64)).toArray else if i = 4 then v = .pointer (some ⟨g, 0, none⟩) else if i = 5 then v = .pointer (some ⟨g, 0, none⟩) else if i = 6 then v = .pointer (some ⟨g, 5, none⟩) else if i = 7 then v = .agg ((lsE ys).map (Value.int .u64)).toArray else if i = 8 then v = .bool false else if i = 9 then v = .bool false else if i = 10 then v = .pointer (some ⟨g, 0, none⟩) else if i = 11 then v = .bool (drR (uF (dcY zs)) (vF (dcY zs))) ∧ L 11 = true else if i = 12 then v = .bool (!(drR (uF (dcY zs)) (vF (dcY zs)))) else if i = 13 then v = .bool (!(drR (uF (dcY zs)) (vF (dcY zs)))) else True) ?hstab (by kernel_rfl) ?hop ?hdone _ _ ((fun (x0 x1 x2 x3 x4 x5 x6 x7 x8 x9 x10 x11 x12 x13 : Value) => fun (i : Nat) => if i = 0 then x0 else if i = 1 then x1 else if i = 2 then x2 else if i = 3 then x3 else if i = 4 then x4 else if i = 5 then x5 else if i = 6 then x6 else if i = 7 then x7 else if i = 8 then x8 else if i = 9 then x9 else if i = 10 then x10 else if i = 11 then x11 else if i = 12 then x12 else if i = 13 then x13 else undef) _ _ _ _ _ _ _ _ _ _ _ _ _ _) _ (by simp) ?ext ?start (by simp)
      case start => intro i hi h; exact absurd h (by rw [Array.getD_eq_getD_getElem?, Array.getElem?_replicate]; split <;> simp)
      case ext => exact EX0.out
      case hstab =>
        intro j L w w' i v _ _ _ h
        by_cases hj : j = 11
        · subst hj
          simp at h ⊢
          exact ⟨h.1, by unfold updK; simp [h.2]⟩
        · simp only [if_neg hj] at h ⊢
          exact h
      case hop =>
        intro i o L t w' ho hLi hx hdep K hK
        have hi : i < 14 := (Array.getElem?_eq_some_iff.1 ho).1
        obtain rfl | rfl | rfl | rfl | rfl | rfl | rfl | rfl | rfl | rfl | rfl | rfl | rfl | rfl : i = 0 ∨ i = 1 ∨ i = 2 ∨ i = 3 ∨ i = 4 ∨ i = 5 ∨ i = 6 ∨ i = 7 ∨ i = 8 ∨ i = 9 ∨ i = 10 ∨ i = 11 ∨ i = 12 ∨ i = 13 := by omega
        all_goals (simp at ho; subst ho)
        · clear hdep
          have hK' := hK w' (.pointer (some ⟨g, 0, none⟩)) (by simp) (REF.out 0 (by decide) L w' hx) trivial
          clear hK
          rw [if_pos (by rfl)]
          go_simp
          simpa [upd] using hK'
        · have d0 : t 0 = .pointer (some ⟨g, 0, none⟩) := by simpa using hdep ⟨0, .data⟩ (by simp) rfl
          clear hdep
          have hK' := hK w' (.pointer (some ⟨g, 0, none⟩)) (by simp) (REF.out 1 (by decide) L w' hx) trivial
          clear hK
          rw [if_pos (by rfl)]
          go_simp
          simpa [upd, d0] using hK'
        · have d1 : t 1 = .pointer (some ⟨g, 0, none⟩) := by simpa using hdep ⟨1, .data⟩ (by simp) rfl
          clear hdep
          have hK' := hK w' (.pointer (some ⟨g, 5, none⟩)) (by simp) (REF.out 2 (by decide) L w' hx) trivial
          clear hK
          rw [if_pos (by rfl)]
          go_simp
          simpa [upd, d1] using hK'
        · have d2 : t 2 = .pointer (some ⟨g, 5, none⟩) := by simpa using hdep ⟨2, .data⟩ (by simp) rfl
          clear hdep
          have hK' := hK w' (.agg (ys.map (Value.int .u64)).toArray) (by simp) (REF.out 3 (by decide) L w' hx) trivial
          have ex := YY.out L w' hx
          clear hK
          rw [if_pos (by rfl)]
          refine wp_loadE (.tmp 21) rfl g 5 ys (show t 2 = _ from d2) ex ?_
          go_simp
          simpa [upd, d2] using hK'
        · clear hdep
          have hK' := hK w' (.pointer (some ⟨g, 0, none⟩)) (by simp) (REF.out 4 (by decide) L w' hx) trivial
          clear hK
          rw [if_pos (by rfl)]
          go_simp
          simpa [upd] using hK'
        · have d4 : t 4 = .pointer (some ⟨g, 0, none⟩) := by simpa using hdep ⟨4, .data⟩ (by simp) rfl
          clear hdep
          have hK' := hK w' (.pointer (some ⟨g, 0, none⟩)) (by simp) (REF.out 5 (by decide) L w' hx) trivial
          clear hK
          rw [if_pos (by rfl)]
          go_simp
          simpa [upd, d4] using hK'
        · have d5 : t 5 = .pointer (some ⟨g, 0, none⟩) := by simpa using hdep ⟨5, .data⟩ (by simp) rfl
          clear hdep
          have hK' := hK w' (.pointer (some ⟨g, 5, none⟩)) (by simp) (REF.out 6 (by decide) L w' hx) trivial
          clear hK
          rw [if_pos (by rfl)]
          go_simp
          simpa [upd, d5] using hK'
        · have d6 : t 6 = .pointer (some ⟨g, 5, none⟩) := by simpa using hdep ⟨6, .data⟩ (by simp) rfl
          clear hdep
          have A := leastE_any g 5 ys w' (YY.out L w' hx)
          have hK' : ∀ ww, Below w'.heap.size w' ww → K _ ww := fun ww b => hK ww (.agg ((lsE ys).map (Value.int .u64)).toArray) (by simp) (ExD.low 7 (by decide) hx (fun q => HA.out _ _ b q) (fun q => HB.out _ _ b q) b) trivial
          clear hK
          rw [if_pos (by rfl)]
          go_simp
          refine A.mono ?_
          rintro e w9 ⟨rfl, hb⟩
          have hK2 := hK' w9 hb
          clear hK' A hb
          go_simp
          simpa [upd, d6] using hK2
        · have d3 : t 3 = .agg (ys.map (Value.int .u64)).toArray := by simpa using hdep ⟨3, .data⟩ (by simp) rfl
          have d7 : t 7 = .agg ((lsE ys).map (Value.int .u64)).toArray := by simpa using hdep ⟨7, .data⟩ (by simp) rfl
          clear hdep
          have hK' := hK w' (.bool false) (by simp) (REF.out 8 (by decide) L w' hx) trivial
          clear hK
          rw [if_pos (by rfl)]
          go_simp
          simp only [run_eqW _ 9998 5 82 Try.underlying82 ys (lsE ys) hyl hll, HQ.out, Result.andThen_ok]
          go_simp
          simpa [upd, d3, d7] using hK'
        · have d8 : t 8 = .bool false := by simpa using hdep ⟨8, .data⟩ (by simp) rfl
          clear hdep
          have hK' := hK w' (.bool false) (by simp) (REF.out 9 (by decide) L w' hx) trivial
          clear hK
          rw [if_pos (by rfl)]
          go_simp
          simpa [upd, d8] using hK'
        · have d9 : t 9 = .bool false := by simpa using hdep ⟨9, .guard⟩ (by simp) rfl
          clear hdep
          have hK' := hK w' (.pointer (some ⟨g, 0, none⟩)) (by simp) (REF.out 10 (by decide) L w' hx) trivial
          clear hK
          rw [if_pos (by simp [Region.wanted, yielded, d9])]
          go_simp
          simpa [upd, d9] using hK'
        · have d10 : t 10 = .pointer (some ⟨g, 0, none⟩) := by simpa using hdep ⟨10, .data⟩ (by simp) rfl
          have d9 : t 9 = .bool false := by simpa using hdep ⟨9, .guard⟩ (by simp) rfl
          clear hdep
          have A := findX_any g x ys z t0 w' (hx.2.1 hLi)
          rw [HEV.out] at A
          have hK' : ∀ ww, (∃ xs, EOk xs ∧ ev xs = dc1 zs ∧ Pt ww g xs ys z t0) → WrH g w' ww → K _ ww := fun ww hq hw => hK ww (.bool (drR (uF (dcY zs)) (vF (dcY zs)))) (by simp [updK]) ⟨hx.1.trans hw, fun q => absurd q (by rw [updK_same]; decide), fun _ => hq⟩ trivial
          clear hK
          rw [if_pos (by simp [Region.wanted, yielded, d9])]
          go_simp
          refine A.mono ?_
          rintro e w9 ⟨xs, hk, rfl, hv, hp, hw⟩
          have hK2 := hK' w9 ⟨xs, hk, hv, hp⟩ hw
          clear hK' A hk hv hp hw
          go_simp
          simpa [upd, d9, d10] using hK2
        · have d11 : t 11 = .bool (drR (uF (dcY zs)) (vF (dcY zs))) ∧ L 11 = true := by simpa using hdep ⟨11, .data⟩ (by simp) rfl
          have d9 : t 9 = .bool false := by simpa using hdep ⟨9, .guard⟩ (by simp) rfl
          clear hdep
          have hK' := hK w' (.bool (!(drR (uF (dcY zs)) (vF (dcY zs))))) (by simp) (REF.out 12 (by decide) L w' hx) trivial
          clear hK
          rw [if_pos (by simp [Region.wanted, yielded, d9])]
          go_simp
          simpa [upd, d9, d11] using hK'
        · have d9 : t 9 = .bool false := by simpa using hdep ⟨9, .data⟩ (by simp) rfl
          have d12 : t 12 = .bool (!(drR (uF (dcY zs)) (vF (dcY zs)))) := by simpa using hdep ⟨12, .data⟩ (by simp) rfl
          clear hdep
          have hK' := hK w' (.bool (!(drR (uF (dcY zs)) (vF (dcY zs))))) (by simp) (REF.out 13 (by decide) L w' hx) trivial
          clear hK
          rw [if_pos (by rfl)]
          go_simp
          simpa [upd, d9, d12] using hK'
      case hdone =>
        intro L t w' hx hg
        have d0 : t 0 = .pointer (some ⟨g, 0, none⟩) := by simpa using hg 0 (by decide)
        have d1 : t 1 = .pointer (some ⟨g, 0, none⟩) := by simpa using hg 1 (by decide)
        have d2 : t 2 = .pointer (some ⟨g, 5, none⟩) := by simpa using hg 2 (by decide)
        have d3 : t 3 = .agg (ys.map (Value.int .u64)).toArray := by simpa using hg 3 (by decide)
        have d4 : t 4 = .pointer (some ⟨g, 0, none⟩) := by simpa using hg 4 (by decide)
        have d5 : t 5 = .pointer (some ⟨g, 0, none⟩) := by simpa using hg 5 (by decide)
        have d6 : t 6 = .pointer (some ⟨g, 5, none⟩) := by simpa using hg 6 (by decide)
        have d7 : t 7 = .agg ((lsE ys).map (Value.int .u64)).toArray := by simpa using hg 7 (by decide)
        have d8 : t 8 = .bool false := by simpa using hg 8 (by decide)
        have d9 : t 9 = .bool false := by simpa using hg 9 (by decide)
        have d10 : t 10 = .pointer (some ⟨g, 0, none⟩) := by simpa using hg 10 (by decide)
        have d11 : t 11 = .bool (drR (uF (dcY zs)) (vF (dcY zs))) ∧ L 11 = true := by simpa using hg 11 (by decide)
        have d12 : t 12 = .bool (!(drR (uF (dcY zs)) (vF (dcY zs)))) := by simpa using hg 12 (by decide)
        have d13 : t 13 = .bool (!(drR (uF (dcY zs)) (vF (dcY zs)))) := by simpa using hg 13 (by decide)
        clear hg
        obtain ⟨xs, hk, hv, hpt⟩ := hx.2.2 d11.2
        have HS5 : Hid (RunP w w' g xs ys z t0 [] []) := ⟨hx.1, hlt, hpt, by simp, List.Pairwise.nil, by simp⟩
        have HKxs : Hid (EOk xs ∧ ev xs = dc1 zs) := ⟨hk, hv⟩
        clear hx HS4 HA EX0 REF YY HQ HB hk hv hpt
        dsimp only
        rw [d0, d1, d2, d3, d4, d5, d6, d7, d8, d9, d10, d11.1, d12, d13]
        clear d0 d1 d2 d3 d4 d5 d6 d7 d8 d9 d10 d11 d12 d13
        cases hr : drR (uF (dcY zs)) (vF (dcY zs))
        · have HDR : Hid (dcR zs = false) := by
            show _ = _
            unfold dcR; rw [hr]; simp
          clear hr
          go_wp2
          go_ret
          refine ⟨xs, ys, z, t0, HS5.out.pt, HS5.out.wrh, by rw [HDR.out]; rfl, fun h => ?_⟩
          rw [HDR.out] at h; cases h
        · have HDR : Hid (dcR zs = ((dcX zs % 2 == 1) == dcO zs)) := by
            show _ = _
            unfold dcR; rw [hr, decide_eq_true HYL.out, show (zs.length == 32) = true from by rw [HLN.out]; rfl]; simp
          clear hr
          go_wp2_with fail
          refine (isOdd_any g 0 xs _ HS5.out.pt.ex).mono ?_
          rintro e w6 ⟨rfl, b⟩
          rw [HKxs.out.2]
          have HS6 : Hid (RunP w w6 g xs ys z t0 [] []) := HS5.out.call b
          clear b HS5 HKlm HLS HYL HKys
          have HXD : Hid (dcX zs = if ((dc1 zs % 2 == 1) != dcO zs) = true then (0 - dc1 zs) % fp else dc1 zs) := rfl
          obtain ⟨od, hod⟩ : ∃ od, od = dcO zs := ⟨_, rfl⟩
          obtain ⟨o1, ho1⟩ : ∃ o1, o1 = (dc1 zs % 2 == 1) := ⟨_, rfl⟩
          rw [← hod, ← ho1]
          have HOD : Hid (od = dcO zs) := hod
          have HXE : Hid (dcX zs = if (o1 != od) = true then (0 - dc1 zs) % fp else dc1 zs) := by
            show _ = _
            rw [HXD.out, ← hod, ← ho1]
          clear hod ho1 HXD
          cases od
          · cases o1
            · have HKns : Hid (EOk xs ∧ ev xs = dcX zs) := ⟨HKxs.out.1, by rw [HKxs.out.2, HXE.out]; rfl⟩
              have HS8 : Hid (RunP w w6 g xs ys z t0 [] []) := HS6.out
              clear HS6 HKxs
              generalize hxn : xs = ns at *
              clear hxn
              go_wp2_with (first
                | (refine wpList_midP HS8.out rfl (.tmp 49) (.tmp 47) rfl 10 (by decide) oneL ns ys oneL t0 (over_z HS8.out.pt.x.1 HS8.out.pt.y.1 HS8.out.pt.z.1 one_ok.1) ⟨HS8.out.pt.x, HS8.out.pt.y, one_ok, HS8.out.pt.t⟩ rfl rfl one_ok rfl ?_)
                | fail)
              intro wa Sa
              have HSa : Hid (RunP w wa g ns ys oneL t0 [] []) := Sa
              clear Sa HS8
              have EX0 : Hid (ExD w g 10 (fun w1 => Pt w1 g ns ys oneL t0) (fun w1 => ∃ ts, EOk ts ∧ ev ts = ev ns * ev ys % fp ∧ Pt w1 g ns ys oneL ts) (fun n => (Array.replicate 11 false).getD n false) wa.drew) := ⟨HSa.out.wrh.trans (WrH.of_below (Below.refl _ _).drew), fun _ => ⟨HSa.out.pt.row, HSa.out.pt.x, HSa.out.pt.y, HSa.out.pt.z, HSa.out.pt.t⟩, fun q => absurd q (by simp)⟩
              have HA : Hid (∀ (w' ww : World), Below w'.heap.size w' ww → Pt w' g ns ys oneL t0 → Pt ww g ns ys oneL t0) := fun w' ww b h => h.below b h.row.lt
              have HB : Hid (∀ (w' ww : World), Below w'.heap.size w' ww → (∃ ts, EOk ts ∧ ev ts = ev ns * ev ys % fp ∧ Pt w' g ns ys oneL ts) → (∃ ts, EOk ts ∧ ev ts = ev ns * ev ys % fp ∧ Pt ww g ns ys oneL ts)) := fun w' ww b ⟨ts, h1, h2, h⟩ => ⟨ts, h1, h2, h.below b h.row.lt⟩
              have REF : Hid (∀ i, i ≠ 10 → ∀ (L : Nat → Bool) (w' : World), ExD w g 10 (fun w1 => Pt w1 g ns ys oneL t0) (fun w1 => ∃ ts, EOk ts ∧ ev ts = ev ns * ev ys % fp ∧ Pt w1 g ns ys oneL ts) L w' → ExD w g 10 (fun w1 => Pt w1 g ns ys oneL t0) (fun w1 => ∃ ts, EOk ts ∧ ev ts = ev ns * ev ys % fp ∧ Pt w1 g ns ys oneL ts) (updK L i) w') := fun i hi L w' h => ExD.ref i hi h
              have YY : Hid (∀ (L : Nat → Bool) (w' : World), ExD w g 10 (fun w1 => Pt w1 g ns ys oneL t0) (fun w1 => ∃ ts, EOk ts ∧ ev ts = ev ns * ev ys % fp ∧ Pt w1 g ns ys oneL ts) L w' → EAt w' g 0 ns ∧ EAt w' g 5 ys) := fun L w' h => by
                cases hL : L 10
                · exact ⟨(h.2.1 hL).ex, (h.2.1 hL).ey⟩
                · obtain ⟨_, _, _, q⟩ := h.2.2 hL
                  exact ⟨q.ex, q.ey⟩
              go_wp2
              refine wp_region_any (by kernel_rfl) ?_
              refine wpAny_slotsG (fun _ _ _ => True) (frame := (fun (c0 c1 c2 c3 c4 c5 c6 c7 c8 c9 c10 c11 c12 c13 c14 c15 c16 c17 c18 c19 c20 c21 c22 c23 c24 c25 c26 c27 c28 c29 c30 c31 c32 c33 c34 c35 c36 c37 c38 c39 c40 c41 c42 c43 c44 c45 c46 c47 c48 c49 c60 c61 c62 c63 c64 c65 : Value) => fun (t : Nat → Value) => ({ tmps := List.toArray (c0 :: c1 :: c2 :: c3 :: c4 :: c5 :: c6 :: c7 :: c8 :: c9 :: c10 :: c11 :: c12 :: c13 :: c14 :: c15 :: c16 :: c17 :: c18 :: c19 :: c20 :: c21 :: c22 :: c23 :: c24 :: c25 :: c26 :: c27 :: c28 :: c29 :: c30 :: c31 :: c32 :: c33 :: c34 :: c35 :: c36 :: c37 :: c38 :: c39 :: c40 :: c41 :: c42 :: c43 :: c44 :: c45 :: c46 :: c47 :: c48 :: c49 :: t 0 :: t 1 :: t 2 :: t 3 :: t 4 :: t 5 :: t 6 :: t 7 :: t 8 :: t 9 :: c60 :: c61 :: c62 :: c63 :: c64 :: c65 :: []), defers := [] } : Act)) _ _ _ _ _ _ _ _ _ _ _ _ _ _ _ _ _ _ _ _ _ _ _ _ _ _ _ _ _ _ _ _ _ _ _ _ _ _ _ _ _ _ _ _ _ _ _ _ _ _ _ _ _ _ _ _)
                (Ext := fun L w' => ExD w g 10 (fun w1 => Pt w1 g ns ys oneL t0) (fun w1 => ∃ ts, EOk ts ∧ ev ts = ev ns * ev ys % fp ∧ Pt w1 g ns ys oneL ts) L w') (Good := fun i L _ v => if i = 0 then v = .pointer (some ⟨g, 0, none⟩) else if i = 1 then v = .pointer (some ⟨g, 0, none⟩) else if i = 2 then v = .pointer (some ⟨g, 0, none⟩) else if i = 3 then v = .pointer (some ⟨g, 0, none⟩) else if i = 4 then v = .pointer (some ⟨g, 0, none⟩) else if i = 5 then v = .pointer (some ⟨g, 0, none⟩) else if i = 6 then v = .pointer (some ⟨g, 5, none⟩) else if i = 7 then TG (ev ns) (ev ys) (v) else if i = 8 then v = .pointer (some ⟨g, 0, none⟩) else if i = 9 then v = .pointer (some ⟨g, 15, none⟩) else if i = 10 then v = undef ∧ L 10 = true else True) ?hstab (by kernel_rfl) ?hop ?hdone _ _ ((fun (x0 x1 x2 x3 x4 x5 x6 x7 x8 x9 : Value) => fun (i : Nat) => if i = 0 then x0 else if i = 1 then x1 else if i = 2 then x2 else if i = 3 then x3 else if i = 4 then x4 else if i = 5 then x5 else if i = 6 then x6 else if i = 7 then x7 else if i = 8 then x8 else if i = 9 then x9 else undef) _ _ _ _ _ _ _ _ _ _) _ (by simp) ?ext ?start (by simp)
              case start => intro i hi h; exact absurd h (by rw [Array.getD_eq_getD_getElem?, Array.getElem?_replicate]; split <;> simp)
              case ext => exact EX0.out
              case hstab =>
                intro j L w w' i v _ _ _ h
                by_cases hj : j = 10
                · subst hj
                  simp at h ⊢
                  exact ⟨h.1, by unfold updK; simp [h.2]⟩
                · simp only [if_neg hj] at h ⊢
                  exact h
              case hop =>
                intro i o L t w' ho hLi hx hdep K hK
                have hi : i < 11 := (Array.getElem?_eq_some_iff.1 ho).1
                obtain rfl | rfl | rfl | rfl | rfl | rfl | rfl | rfl | rfl | rfl | rfl : i = 0 ∨ i = 1 ∨ i = 2 ∨ i = 3 ∨ i = 4 ∨ i = 5 ∨ i = 6 ∨ i = 7 ∨ i = 8 ∨ i = 9 ∨ i = 10 := by omega
                all_goals (simp at ho; subst ho)
                · clear hdep
                  have hK' := hK w' (.pointer (some ⟨g, 0, none⟩)) (by simp) (REF.out 0 (by decide) L w' hx) trivial
                  clear hK
                  rw [if_pos (by rfl)]
                  go_simp
                  simpa [upd] using hK'
                · clear hdep
                  have hK' := hK w' (.pointer (some ⟨g, 0, none⟩)) (by simp) (REF.out 1 (by decide) L w' hx) trivial
                  clear hK
                  rw [if_pos (by rfl)]
                  go_simp
                  simpa [upd] using hK'
                · have d1 : t 1 = .pointer (some ⟨g, 0, none⟩) := by simpa using hdep ⟨1, .data⟩ (by simp) rfl
                  clear hdep
                  have hK' := hK w' (.pointer (some ⟨g, 0, none⟩)) (by simp) (REF.out 2 (by decide) L w' hx) trivial
                  clear hK
                  rw [if_pos (by rfl)]
                  go_simp
                  simpa [upd, d1] using hK'
                · have d2 : t 2 = .pointer (some ⟨g, 0, none⟩) := by simpa using hdep ⟨2, .data⟩ (by simp) rfl
                  clear hdep
                  have hK' := hK w' (.pointer (some ⟨g, 0, none⟩)) (by simp) (REF.out 3 (by decide) L w' hx) trivial
                  clear hK
                  rw [if_pos (by rfl)]
                  go_simp
                  simpa [upd, d2] using hK'
                · clear hdep
                  have hK' := hK w' (.pointer (some ⟨g, 0, none⟩)) (by simp) (REF.out 4 (by decide) L w' hx) trivial
                  clear hK
                  rw [if_pos (by rfl)]
                  go_simp
                  simpa [upd] using hK'
                · have d4 : t 4 = .pointer (some ⟨g, 0, none⟩) := by simpa using hdep ⟨4, .data⟩ (by simp) rfl
                  clear hdep
                  have hK' := hK w' (.pointer (some ⟨g, 0, none⟩)) (by simp) (REF.out 5 (by decide) L w' hx) trivial
                  clear hK
                  rw [if_pos (by rfl)]
                  go_simp
                  simpa [upd, d4] using hK'
                · have d5 : t 5 = .pointer (some ⟨g, 0, none⟩) := by simpa using hdep ⟨5, .data⟩ (by simp) rfl
                  clear hdep
                  have hK' := hK w' (.pointer (some ⟨g, 5, none⟩)) (by simp) (REF.out 6 (by decide) L w' hx) trivial
                  clear hK
                  rw [if_pos (by rfl)]
                  go_simp
                  simpa [upd, d5] using hK'
                · have d3 : t 3 = .pointer (some ⟨g, 0, none⟩) := by simpa using hdep ⟨3, .data⟩ (by simp) rfl
                  have d6 : t 6 = .pointer (some ⟨g, 5, none⟩) := by simpa using hdep ⟨6, .data⟩ (by simp) rfl
                  clear hdep
                  have A := times_any g 0 g 5 ns ys w' (YY.out L w' hx).1 (YY.out L w' hx).2
                  have hK' : ∀ ww ts, EOk ts → ev ts = ev ns * ev ys % fp → Below w'.heap.size w' ww → K _ ww := fun ww ts h1 h2 b => hK ww (.agg (ts.map (Value.int .u64)).toArray) (by simp; exact ⟨ts, h1, h2, rfl⟩) (ExD.low 7 (by decide) hx (fun q => HA.out _ _ b q) (fun q => HB.out _ _ b q) b) trivial
                  clear hK
                  rw [if_pos (by rfl)]
                  go_simp
                  refine A.mono ?_
                  rintro e w9 ⟨ts, h1, h2, rfl, hb⟩
                  have hK2 := hK' w9 ts h1 h2 hb
                  clear hK' A hb h1 h2
                  go_simp
                  simpa [upd, d3, d6] using hK2
                · have d0 : t 0 = .pointer (some ⟨g, 0, none⟩) := by simpa using hdep ⟨0, .data⟩ (by simp) rfl
                  clear hdep
                  have hK' := hK w' (.pointer (some ⟨g, 0, none⟩)) (by simp) (REF.out 8 (by decide) L w' hx) trivial
                  clear hK
                  rw [if_pos (by rfl)]
                  go_simp
                  simpa [upd, d0] using hK'
                · have d8 : t 8 = .pointer (some ⟨g, 0, none⟩) := by simpa using hdep ⟨8, .data⟩ (by simp) rfl
                  clear hdep
                  have hK' := hK w' (.pointer (some ⟨g, 15, none⟩)) (by simp) (REF.out 9 (by decide) L w' hx) trivial
                  clear hK
                  rw [if_pos (by rfl)]
                  go_simp
                  simpa [upd, d8] using hK'
                · have d9 : t 9 = .pointer (some ⟨g, 15, none⟩) := by simpa using hdep ⟨9, .data⟩ (by simp) rfl
                  have d7 : TG (ev ns) (ev ys) (t 7) := by simpa using hdep ⟨7, .data⟩ (by simp) rfl
                  clear hdep
                  obtain ⟨ts, h1, h2, h3⟩ := d7
                  rw [if_pos (by rfl)]
                  refine wp_midT (hx.2.1 hLi) (.tmp 59) (.tmp 57) rfl ts (show t 9 = _ from d9) (show t 7 = _ from h3) h1 ?_
                  intro ww hp hw
                  have hK' := hK ww undef (by simp [updK]) ⟨hx.1.trans hw.wrH, fun q => absurd q (by rw [updK_same]; decide), fun _ => ⟨ts, h1, h2, hp⟩⟩ trivial
                  clear hK
                  go_simp
                  simpa [upd, d9, h3] using hK'
              case hdone =>
                intro L t w' hx hg
                have d0 : t 0 = .pointer (some ⟨g, 0, none⟩) := by simpa using hg 0 (by decide)
                have d1 : t 1 = .pointer (some ⟨g, 0, none⟩) := by simpa using hg 1 (by decide)
                have d2 : t 2 = .pointer (some ⟨g, 0, none⟩) := by simpa using hg 2 (by decide)
                have d3 : t 3 = .pointer (some ⟨g, 0, none⟩) := by simpa using hg 3 (by decide)
                have d4 : t 4 = .pointer (some ⟨g, 0, none⟩) := by simpa using hg 4 (by decide)
                have d5 : t 5 = .pointer (some ⟨g, 0, none⟩) := by simpa using hg 5 (by decide)
                have d6 : t 6 = .pointer (some ⟨g, 5, none⟩) := by simpa using hg 6 (by decide)
                have d7 : TG (ev ns) (ev ys) (t 7) := by simpa using hg 7 (by decide)
                have d8 : t 8 = .pointer (some ⟨g, 0, none⟩) := by simpa using hg 8 (by decide)
                have d9 : t 9 = .pointer (some ⟨g, 15, none⟩) := by simpa using hg 9 (by decide)
                have d10 : t 10 = undef ∧ L 10 = true := by simpa using hg 10 (by decide)
                clear hg
                obtain ⟨ts, hk, hv, hpt⟩ := hx.2.2 d10.2
                obtain ⟨ts', _, _, e7⟩ := d7
                have HSb : Hid (RunP w w' g ns ys oneL ts [] []) := ⟨hx.1, hlt, hpt, by simp, List.Pairwise.nil, by simp⟩
                have HKts : Hid (EOk ts ∧ ev ts = dcX zs * dcY zs % fp) := ⟨hk, by rw [hv, HKns.out.2, HEV.out]⟩
                clear hx HSa HA EX0 REF YY HB hk hv hpt
                dsimp only
                rw [d0, d1, d2, d3, d4, d5, d6, e7, d8, d9]
                clear d0 d1 d2 d3 d4 d5 d6 e7 d8 d9 d10
                go_wp2_with fail
                refine (isOdd_any g 0 ns _ HSb.out.pt.ex).mono ?_
                rintro e wc ⟨rfl, b⟩
                rw [HKns.out.2]
                have HSc : Hid (RunP w wc g ns ys oneL ts [] []) := HSb.out.call b
                clear b HSb
                obtain ⟨o2, ho2⟩ : ∃ o2, o2 = (dcX zs % 2 == 1) := ⟨_, rfl⟩
                rw [← ho2]
                have HDD : Hid (dcR zs = (o2 == false)) := by
                  show _ = _
                  rw [HDR.out, ← ho2, ← HOD.out]
                clear ho2
                go_wp2
                go_ret
                exact ⟨ns, ys, oneL, ts, HSc.out.pt, HSc.out.wrh, by rw [HDD.out]; cases o2 <;> rfl, fun _ => ⟨HKns.out.2, HEV.out, by decide, HKts.out.2⟩⟩
            · go_wp2_with fail
              refine (negated_any g 0 xs _ HS6.out.pt.ex).mono ?_
              rintro e w7 ⟨ns, hk, hv, rfl, b⟩
              have HKns : Hid (EOk ns ∧ ev ns = dcX zs) := ⟨hk, by rw [hv, HKxs.out.2, HXE.out]; rfl⟩
              have HS7 : Hid (RunP w w7 g xs ys z t0 [] []) := HS6.out.call b
              clear hk hv b HS6
              go_wp2_with (first
                | (refine wpList_midP HS7.out rfl (.tmp 45) (.tmp 43) rfl 0 (by decide) ns ns ys z t0 (over_x HS7.out.pt.x.1 HKns.out.1.1) ⟨HKns.out.1, HS7.out.pt.y, HS7.out.pt.z, HS7.out.pt.t⟩ rfl rfl HKns.out.1 rfl ?_)
                | fail)
              intro w8 S8
              have HS8 : Hid (RunP w w8 g ns ys z t0 [] []) := S8
              clear S8 HS7
              go_wp2_with (first
                | (refine wpList_midP HS8.out rfl (.tmp 49) (.tmp 47) rfl 10 (by decide) oneL ns ys oneL t0 (over_z HS8.out.pt.x.1 HS8.out.pt.y.1 HS8.out.pt.z.1 one_ok.1) ⟨HS8.out.pt.x, HS8.out.pt.y, one_ok, HS8.out.pt.t⟩ rfl rfl one_ok rfl ?_)
                | fail)
              intro wa Sa
              have HSa : Hid (RunP w wa g ns ys oneL t0 [] []) := Sa
              clear Sa HS8
              have EX0 : Hid (ExD w g 10 (fun w1 => Pt w1 g ns ys oneL t0) (fun w1 => ∃ ts, EOk ts ∧ ev ts = ev ns * ev ys % fp ∧ Pt w1 g ns ys oneL ts) (fun n => (Array.replicate 11 false).getD n false) wa.drew) := ⟨HSa.out.wrh.trans (WrH.of_below (Below.refl _ _).drew), fun _ => ⟨HSa.out.pt.row, HSa.out.pt.x, HSa.out.pt.y, HSa.out.pt.z, HSa.out.pt.t⟩, fun q => absurd q (by simp)⟩
              have HA : Hid (∀ (w' ww : World), Below w'.heap.size w' ww → Pt w' g ns ys oneL t0 → Pt ww g ns ys oneL t0) := fun w' ww b h => h.below b h.row.lt
              have HB : Hid (∀ (w' ww : World), Below w'.heap.size w' ww → (∃ ts, EOk ts ∧ ev ts = ev ns * ev ys % fp ∧ Pt w' g ns ys oneL ts) → (∃ ts, EOk ts ∧ ev ts = ev ns * ev ys % fp ∧ Pt ww g ns ys oneL ts)) := fun w' ww b ⟨ts, h1, h2, h⟩ => ⟨ts, h1, h2, h.below b h.row.lt⟩
              have REF : Hid (∀ i, i ≠ 10 → ∀ (L : Nat → Bool) (w' : World), ExD w g 10 (fun w1 => Pt w1 g ns ys oneL t0) (fun w1 => ∃ ts, EOk ts ∧ ev ts = ev ns * ev ys % fp ∧ Pt w1 g ns ys oneL ts) L w' → ExD w g 10 (fun w1 => Pt w1 g ns ys oneL t0) (fun w1 => ∃ ts, EOk ts ∧ ev ts = ev ns * ev ys % fp ∧ Pt w1 g ns ys oneL ts) (updK L i) w') := fun i hi L w' h => ExD.ref i hi h
              have YY : Hid (∀ (L : Nat → Bool) (w' : World), ExD w g 10 (fun w1 => Pt w1 g ns ys oneL t0) (fun w1 => ∃ ts, EOk ts ∧ ev ts = ev ns * ev ys % fp ∧ Pt w1 g ns ys oneL ts) L w' → EAt w' g 0 ns ∧ EAt w' g 5 ys) := fun L w' h => by
                cases hL : L 10
                · exact ⟨(h.2.1 hL).ex, (h.2.1 hL).ey⟩
                · obtain ⟨_, _, _, q⟩ := h.2.2 hL
                  exact ⟨q.ex, q.ey⟩
              go_wp2
              refine wp_region_any (by kernel_rfl) ?_
              refine wpAny_slotsG (fun _ _ _ => True) (frame := (fun (c0 c1 c2 c3 c4 c5 c6 c7 c8 c9 c10 c11 c12 c13 c14 c15 c16 c17 c18 c19 c20 c21 c22 c23 c24 c25 c26 c27 c28 c29 c30 c31 c32 c33 c34 c35 c36 c37 c38 c39 c40 c41 c42 c43 c44 c45 c46 c47 c48 c49 c60 c61 c62 c63 c64 c65 : Value) => fun (t : Nat → Value) => ({ tmps := List.toArray (c0 :: c1 :: c2 :: c3 :: c4 :: c5 :: c6 :: c7 :: c8 :: c9 :: c10 :: c11 :: c12 :: c13 :: c14 :: c15 :: c16 :: c17 :: c18 :: c19 :: c20 :: c21 :: c22 :: c23 :: c24 :: c25 :: c26 :: c27 :: c28 :: c29 :: c30 :: c31 :: c32 :: c33 :: c34 :: c35 :: c36 :: c37 :: c38 :: c39 :: c40 :: c41 :: c42 :: c43 :: c44 :: c45 :: c46 :: c47 :: c48 :: c49 :: t 0 :: t 1 :: t 2 :: t 3 :: t 4 :: t 5 :: t 6 :: t 7 :: t 8 :: t 9 :: c60 :: c61 :: c62 :: c63 :: c64 :: c65 :: []), defers := [] } : Act)) _ _ _ _ _ _ _ _ _ _ _ _ _ _ _ _ _ _ _ _ _ _ _ _ _ _ _ _ _ _ _ _ _ _ _ _ _ _ _ _ _ _ _ _ _ _ _ _ _ _ _ _ _ _ _ _)
                (Ext := fun L w' => ExD w g 10 (fun w1 => Pt w1 g ns ys oneL t0) (fun w1 => ∃ ts, EOk ts ∧ ev ts = ev ns * ev ys % fp ∧ Pt w1 g ns ys oneL ts) L w') (Good := fun i L _ v => if i = 0 then v = .pointer (some ⟨g, 0, none⟩) else if i = 1 then v = .pointer (some ⟨g, 0, none⟩) else if i = 2 then v = .pointer (some ⟨g, 0, none⟩) else if i = 3 then v = .pointer (some ⟨g, 0, none⟩) else if i = 4 then v = .pointer (some ⟨g, 0, none⟩) else if i = 5 then v = .pointer (some ⟨g, 0, none⟩) else if i = 6 then v = .pointer (some ⟨g, 5, none⟩) else if i = 7 then TG (ev ns) (ev ys) (v) else if i = 8 then v = .pointer (some ⟨g, 0, none⟩) else if i = 9 then v = .pointer (some ⟨g, 15, none⟩) else if i = 10 then v = undef ∧ L 10 = true else True) ?hstab (by kernel_rfl) ?hop ?hdone _ _ ((fun (x0 x1 x2 x3 x4 x5 x6 x7 x8 x9 : Value) => fun (i : Nat) => if i = 0 then x0 else if i = 1 then x1 else if i = 2 then x2 else if i = 3 then x3 else if i = 4 then x4 else if i = 5 then x5 else if i = 6 then x6 else if i = 7 then x7 else if i = 8 then x8 else if i = 9 then x9 else undef) _ _ _ _ _ _ _ _ _ _) _ (by simp) ?ext ?start (by simp)
              case start => intro i hi h; exact absurd h (by rw [Array.getD_eq_getD_getElem?, Array.getElem?_replicate]; split <;> simp)
              case ext => exact EX0.out
              case hstab =>
                intro j L w w' i v _ _ _ h
                by_cases hj : j = 10
                · subst hj
                  simp at h ⊢
                  exact ⟨h.1, by unfold updK; simp [h.2]⟩
                · simp only [if_neg hj] at h ⊢
                  exact h
              case hop =>
                intro i o L t w' ho hLi hx hdep K hK
                have hi : i < 11 := (Array.getElem?_eq_some_iff.1 ho).1
                obtain rfl | rfl | rfl | rfl | rfl | rfl | rfl | rfl | rfl | rfl | rfl : i = 0 ∨ i = 1 ∨ i = 2 ∨ i = 3 ∨ i = 4 ∨ i = 5 ∨ i = 6 ∨ i = 7 ∨ i = 8 ∨ i = 9 ∨ i = 10 := by omega
                all_goals (simp at ho; subst ho)
                · clear hdep
                  have hK' := hK w' (.pointer (some ⟨g, 0, none⟩)) (by simp) (REF.out 0 (by decide) L w' hx) trivial
                  clear hK
                  rw [if_pos (by rfl)]
                  go_simp
                  simpa [upd] using hK'
                · clear hdep
                  have hK' := hK w' (.pointer (some ⟨g, 0, none⟩)) (by simp) (REF.out 1 (by decide) L w' hx) trivial
                  clear hK
                  rw [if_pos (by rfl)]
                  go_simp
                  simpa [upd] using hK'
                · have d1 : t 1 = .pointer (some ⟨g, 0, none⟩) := by simpa using hdep ⟨1, .data⟩ (by simp) rfl
                  clear hdep
                  have hK' := hK w' (.pointer (some ⟨g, 0, none⟩)) (by simp) (REF.out 2 (by decide) L w' hx) trivial
                  clear hK
                  rw [if_pos (by rfl)]
                  go_simp
                  simpa [upd, d1] using hK'
                · have d2 : t 2 = .pointer (some ⟨g, 0, none⟩) := by simpa using hdep ⟨2, .data⟩ (by simp) rfl
                  clear hdep
                  have hK' := hK w' (.pointer (some ⟨g, 0, none⟩)) (by simp) (REF.out 3 (by decide) L w' hx) trivial
                  clear hK
                  rw [if_pos (by rfl)]
                  go_simp
                  simpa [upd, d2] using hK'
                · clear hdep
                  have hK' := hK w' (.pointer (some ⟨g, 0, none⟩)) (by simp) (REF.out 4 (by decide) L w' hx) trivial
                  clear hK
                  rw [if_pos (by rfl)]
                  go_simp
                  simpa [upd] using hK'
                · have d4 : t 4 = .pointer (some ⟨g, 0, none⟩) := by simpa using hdep ⟨4, .data⟩ (by simp) rfl
                  clear hdep
                  have hK' := hK w' (.pointer (some ⟨g, 0, none⟩)) (by simp) (REF.out 5 (by decide) L w' hx) trivial
                  clear hK
                  rw [if_pos (by rfl)]
                  go_simp
                  simpa [upd, d4] using hK'
                · have d5 : t 5 = .pointer (some ⟨g, 0, none⟩) := by simpa using hdep ⟨5, .data⟩ (by simp) rfl
                  clear hdep
                  have hK' := hK w' (.pointer (some ⟨g, 5, none⟩)) (by simp) (REF.out 6 (by decide) L w' hx) trivial
                  clear hK
                  rw [if_pos (by rfl)]
                  go_simp
                  simpa [upd, d5] using hK'
                · have d3 : t 3 = .pointer (some ⟨g, 0, none⟩) := by simpa using hdep ⟨3, .data⟩ (by simp) rfl
                  have d6 : t 6 = .pointer (some ⟨g, 5, none⟩) := by simpa using hdep ⟨6, .data⟩ (by simp) rfl
                  clear hdep
                  have A := times_any g 0 g 5 ns ys w' (YY.out L w' hx).1 (YY.out L w' hx).2
                  have hK' : ∀ ww ts, EOk ts → ev ts = ev ns * ev ys % fp → Below w'.heap.size w' ww → K _ ww := fun ww ts h1 h2 b => hK ww (.agg (ts.map (Value.int .u64)).toArray) (by simp; exact ⟨ts, h1, h2, rfl⟩) (ExD.low 7 (by decide) hx (fun q => HA.out _ _ b q) (fun q => HB.out _ _ b q) b) trivial
                  clear hK
                  rw [if_pos (by rfl)]
                  go_simp
                  refine A.mono ?_
                  rintro e w9 ⟨ts, h1, h2, rfl, hb⟩
                  have hK2 := hK' w9 ts h1 h2 hb
                  clear hK' A hb h1 h2
                  go_simp
                  simpa [upd, d3, d6] using hK2
                · have d0 : t 0 = .pointer (some ⟨g, 0, none⟩) := by simpa using hdep ⟨0, .data⟩ (by simp) rfl
                  clear hdep
                  have hK' := hK w' (.pointer (some ⟨g, 0, none⟩)) (by simp) (REF.out 8 (by decide) L w' hx) trivial
                  clear hK
                  rw [if_pos (by rfl)]
                  go_simp
                  simpa [upd, d0] using hK'
                · have d8 : t 8 = .pointer (some ⟨g, 0, none⟩) := by simpa using hdep ⟨8, .data⟩ (by simp) rfl
                  clear hdep
                  have hK' := hK w' (.pointer (some ⟨g, 15, none⟩)) (by simp) (REF.out 9 (by decide) L w' hx) trivial
                  clear hK
                  rw [if_pos (by rfl)]
                  go_simp
                  simpa [upd, d8] using hK'
                · have d9 : t 9 = .pointer (some ⟨g, 15, none⟩) := by simpa using hdep ⟨9, .data⟩ (by simp) rfl
                  have d7 : TG (ev ns) (ev ys) (t 7) := by simpa using hdep ⟨7, .data⟩ (by simp) rfl
                  clear hdep
                  obtain ⟨ts, h1, h2, h3⟩ := d7
                  rw [if_pos (by rfl)]
                  refine wp_midT (hx.2.1 hLi) (.tmp 59) (.tmp 57) rfl ts (show t 9 = _ from d9) (show t 7 = _ from h3) h1 ?_
                  intro ww hp hw
                  have hK' := hK ww undef (by simp [updK]) ⟨hx.1.trans hw.wrH, fun q => absurd q (by rw [updK_same]; decide), fun _ => ⟨ts, h1, h2, hp⟩⟩ trivial
                  clear hK
                  go_simp
                  simpa [upd, d9, h3] using hK'
              case hdone =>
                intro L t w' hx hg
                have d0 : t 0 = .pointer (some ⟨g, 0, none⟩) := by simpa using hg 0 (by decide)
                have d1 : t 1 = .pointer (some ⟨g, 0, none⟩) := by simpa using hg 1 (by decide)
                have d2 : t 2 = .pointer (some ⟨g, 0, none⟩) := by simpa using hg 2 (by decide)
                have d3 : t 3 = .pointer (some ⟨g, 0, none⟩) := by simpa using hg 3 (by decide)
                have d4 : t 4 = .pointer (some ⟨g, 0, none⟩) := by simpa using hg 4 (by decide)
                have d5 : t 5 = .pointer (some ⟨g, 0, none⟩) := by simpa using hg 5 (by decide)
                have d6 : t 6 = .pointer (some ⟨g, 5, none⟩) := by simpa using hg 6 (by decide)
                have d7 : TG (ev ns) (ev ys) (t 7) := by simpa using hg 7 (by decide)
                have d8 : t 8 = .pointer (some ⟨g, 0, none⟩) := by simpa using hg 8 (by decide)
                have d9 : t 9 = .pointer (some ⟨g, 15, none⟩) := by simpa using hg 9 (by decide)
                have d10 : t 10 = undef ∧ L 10 = true := by simpa using hg 10 (by decide)
                clear hg
                obtain ⟨ts, hk, hv, hpt⟩ := hx.2.2 d10.2
                obtain ⟨ts', _, _, e7⟩ := d7
                have HSb : Hid (RunP w w' g ns ys oneL ts [] []) := ⟨hx.1, hlt, hpt, by simp, List.Pairwise.nil, by simp⟩
                have HKts : Hid (EOk ts ∧ ev ts = dcX zs * dcY zs % fp) := ⟨hk, by rw [hv, HKns.out.2, HEV.out]⟩
                clear hx HSa HA EX0 REF YY HB hk hv hpt
                dsimp only
                rw [d0, d1, d2, d3, d4, d5, d6, e7, d8, d9]
                clear d0 d1 d2 d3 d4 d5 d6 e7 d8 d9 d10
                go_wp2_with fail
                refine (isOdd_any g 0 ns _ HSb.out.pt.ex).mono ?_
                rintro e wc ⟨rfl, b⟩
                rw [HKns.out.2]
                have HSc : Hid (RunP w wc g ns ys oneL ts [] []) := HSb.out.call b
                clear b HSb
                obtain ⟨o2, ho2⟩ : ∃ o2, o2 = (dcX zs % 2 == 1) := ⟨_, rfl⟩
                rw [← ho2]
                have HDD : Hid (dcR zs = (o2 == false)) := by
                  show _ = _
                  rw [HDR.out, ← ho2, ← HOD.out]
                clear ho2
                go_wp2
                go_ret
                exact ⟨ns, ys, oneL, ts, HSc.out.pt, HSc.out.wrh, by rw [HDD.out]; cases o2 <;> rfl, fun _ => ⟨HKns.out.2, HEV.out, by decide, HKts.out.2⟩⟩
          · cases o1
            · go_wp2_with fail
              refine (negated_any g 0 xs _ HS6.out.pt.ex).mono ?_
              rintro e w7 ⟨ns, hk, hv, rfl, b⟩
              have HKns : Hid (EOk ns ∧ ev ns = dcX zs) := ⟨hk, by rw [hv, HKxs.out.2, HXE.out]; rfl⟩
              have HS7 : Hid (RunP w w7 g xs ys z t0 [] []) := HS6.out.call b
              clear hk hv b HS6
              go_wp2_with (first
                | (refine wpList_midP HS7.out rfl (.tmp 45) (.tmp 43) rfl 0 (by decide) ns ns ys z t0 (over_x HS7.out.pt.x.1 HKns.out.1.1) ⟨HKns.out.1, HS7.out.pt.y, HS7.out.pt.z, HS7.out.pt.t⟩ rfl rfl HKns.out.1 rfl ?_)
                | fail)
              intro w8 S8
              have HS8 : Hid (RunP w w8 g ns ys z t0 [] []) := S8
              clear S8 HS7
              go_wp2_with (first
                | (refine wpList_midP HS8.out rfl (.tmp 49) (.tmp 47) rfl 10 (by decide) oneL ns ys oneL t0 (over_z HS8.out.pt.x.1 HS8.out.pt.y.1 HS8.out.pt.z.1 one_ok.1) ⟨HS8.out.pt.x, HS8.out.pt.y, one_ok, HS8.out.pt.t⟩ rfl rfl one_ok rfl ?_)
                | fail)
              intro wa Sa
              have HSa : Hid (RunP w wa g ns ys oneL t0 [] []) := Sa
              clear Sa HS8
              have EX0 : Hid (ExD w g 10 (fun w1 => Pt w1 g ns ys oneL t0) (fun w1 => ∃ ts, EOk ts ∧ ev ts = ev ns * ev ys % fp ∧ Pt w1 g ns ys oneL ts) (fun n => (Array.replicate 11 false).getD n false) wa.drew) := ⟨HSa.out.wrh.trans (WrH.of_below (Below.refl _ _).drew), fun _ => ⟨HSa.out.pt.row, HSa.out.pt.x, HSa.out.pt.y, HSa.out.pt.z, HSa.out.pt.t⟩, fun q => absurd q (by simp)⟩
              have HA : Hid (∀ (w' ww : World), Below w'.heap.size w' ww → Pt w' g ns ys oneL t0 → Pt ww g ns ys oneL t0) := fun w' ww b h => h.below b h.row.lt
              have HB : Hid (∀ (w' ww : World), Below w'.heap.size w' ww → (∃ ts, EOk ts ∧ ev ts = ev ns * ev ys % fp ∧ Pt w' g ns ys oneL ts) → (∃ ts, EOk ts ∧ ev ts = ev ns * ev ys % fp ∧ Pt ww g ns ys oneL ts)) := fun w' ww b ⟨ts, h1, h2, h⟩ => ⟨ts, h1, h2, h.below b h.row.lt⟩
              have REF : Hid (∀ i, i ≠ 10 → ∀ (L : Nat → Bool) (w' : World), ExD w g 10 (fun w1 => Pt w1 g ns ys oneL t0) (fun w1 => ∃ ts, EOk ts ∧ ev ts = ev ns * ev ys % fp ∧ Pt w1 g ns ys oneL ts) L w' → ExD w g 10 (fun w1 => Pt w1 g ns ys oneL t0) (fun w1 => ∃ ts, EOk ts ∧ ev ts = ev ns * ev ys % fp ∧ Pt w1 g ns ys oneL ts) (updK L i) w') := fun i hi L w' h => ExD.ref i hi h
              have YY : Hid (∀ (L : Nat → Bool) (w' : World), ExD w g 10 (fun w1 => Pt w1 g ns ys oneL t0) (fun w1 => ∃ ts, EOk ts ∧ ev ts = ev ns * ev ys % fp ∧ Pt w1 g ns ys oneL ts) L w' → EAt w' g 0 ns ∧ EAt w' g 5 ys) := fun L w' h => by
                cases hL : L 10
                · exact ⟨(h.2.1 hL).ex, (h.2.1 hL).ey⟩
                · obtain ⟨_, _, _, q⟩ := h.2.2 hL
                  exact ⟨q.ex, q.ey⟩
              go_wp2
              refine wp_region_any (by kernel_rfl) ?_
              refine wpAny_slotsG (fun _ _ _ => True) (frame := (fun (c0 c1 c2 c3 c4 c5 c6 c7 c8 c9 c10 c11 c12 c13 c14 c15 c16 c17 c18 c19 c20 c21 c22 c23 c24 c25 c26 c27 c28 c29 c30 c31 c32 c33 c34 c35 c36 c37 c38 c39 c40 c41 c42 c43 c44 c45 c46 c47 c48 c49 c60 c61 c62 c63 c64 c65 : Value) => fun (t : Nat → Value) => ({ tmps := List.toArray (c0 :: c1 :: c2 :: c3 :: c4 :: c5 :: c6 :: c7 :: c8 :: c9 :: c10 :: c11 :: c12 :: c13 :: c14 :: c15 :: c16 :: c17 :: c18 :: c19 :: c20 :: c21 :: c22 :: c23 :: c24 :: c25 :: c26 :: c27 :: c28 :: c29 :: c30 :: c31 :: c32 :: c33 :: c34 :: c35 :: c36 :: c37 :: c38 :: c39 :: c40 :: c41 :: c42 :: c43 :: c44 :: c45 :: c46 :: c47 :: c48 :: c49 :: t 0 :: t 1 :: t 2 :: t 3 :: t 4 :: t 5 :: t 6 :: t 7 :: t 8 :: t 9 :: c60 :: c61 :: c62 :: c63 :: c64 :: c65 :: []), defers := [] } : Act)) _ _ _ _ _ _ _ _ _ _ _ _ _ _ _ _ _ _ _ _ _ _ _ _ _ _ _ _ _ _ _ _ _ _ _ _ _ _ _ _ _ _ _ _ _ _ _ _ _ _ _ _ _ _ _ _)
                (Ext := fun L w' => ExD w g 10 (fun w1 => Pt w1 g ns ys oneL t0) (fun w1 => ∃ ts, EOk ts ∧ ev ts = ev ns * ev ys % fp ∧ Pt w1 g ns ys oneL ts) L w') (Good := fun i L _ v => if i = 0 then v = .pointer (some ⟨g, 0, none⟩) else if i = 1 then v = .pointer (some ⟨g, 0, none⟩) else if i = 2 then v = .pointer (some ⟨g, 0, none⟩) else if i = 3 then v = .pointer (some ⟨g, 0, none⟩) else if i = 4 then v = .pointer (some ⟨g, 0, none⟩) else if i = 5 then v = .pointer (some ⟨g, 0, none⟩) else if i = 6 then v = .pointer (some ⟨g, 5, none⟩) else if i = 7 then TG (ev ns) (ev ys) (v) else if i = 8 then v = .pointer (some ⟨g, 0, none⟩) else if i = 9 then v = .pointer (some ⟨g, 15, none⟩) else if i = 10 then v = undef ∧ L 10 = true else True) ?hstab (by kernel_rfl) ?hop ?hdone _ _ ((fun (x0 x1 x2 x3 x4 x5 x6 x7 x8 x9 : Value) => fun (i : Nat) => if i = 0 then x0 else if i = 1 then x1 else if i = 2 then x2 else if i = 3 then x3 else if i = 4 then x4 else if i = 5 then x5 else if i = 6 then x6 else if i = 7 then x7 else if i = 8 then x8 else if i = 9 then x9 else undef) _ _ _ _ _ _ _ _ _ _) _ (by simp) ?ext ?start (by simp)
              case start => intro i hi h; exact absurd h (by rw [Array.getD_eq_getD_getElem?, Array.getElem?_replicate]; split <;> simp)
              case ext => exact EX0.out
              case hstab =>
                intro j L w w' i v _ _ _ h
                by_cases hj : j = 10
                · subst hj
                  simp at h ⊢
                  exact ⟨h.1, by unfold updK; simp [h.2]⟩
                · simp only [if_neg hj] at h ⊢
                  exact h
              case hop =>
                intro i o L t w' ho hLi hx hdep K hK
                have hi : i < 11 := (Array.getElem?_eq_some_iff.1 ho).1
                obtain rfl | rfl | rfl | rfl | rfl | rfl | rfl | rfl | rfl | rfl | rfl : i = 0 ∨ i = 1 ∨ i = 2 ∨ i = 3 ∨ i = 4 ∨ i = 5 ∨ i = 6 ∨ i = 7 ∨ i = 8 ∨ i = 9 ∨ i = 10 := by omega
                all_goals (simp at ho; subst ho)
                · clear hdep
                  have hK' := hK w' (.pointer (some ⟨g, 0, none⟩)) (by simp) (REF.out 0 (by decide) L w' hx) trivial
                  clear hK
                  rw [if_pos (by rfl)]
                  go_simp
                  simpa [upd] using hK'
                · clear hdep
                  have hK' := hK w' (.pointer (some ⟨g, 0, none⟩)) (by simp) (REF.out 1 (by decide) L w' hx) trivial
                  clear hK
                  rw [if_pos (by rfl)]
                  go_simp
                  simpa [upd] using hK'
                · have d1 : t 1 = .pointer (some ⟨g, 0, none⟩) := by simpa using hdep ⟨1, .data⟩ (by simp) rfl
                  clear hdep
                  have hK' := hK w' (.pointer (some ⟨g, 0, none⟩)) (by simp) (REF.out 2 (by decide) L w' hx) trivial
                  clear hK
                  rw [if_pos (by rfl)]
                  go_simp
                  simpa [upd, d1] using hK'
                · have d2 : t 2 = .pointer (some ⟨g, 0, none⟩) := by simpa using hdep ⟨2, .data⟩ (by simp) rfl
                  clear hdep
                  have hK' := hK w' (.pointer (some ⟨g, 0, none⟩)) (by simp) (REF.out 3 (by decide) L w' hx) trivial
                  clear hK
                  rw [if_pos (by rfl)]
                  go_simp
                  simpa [upd, d2] using hK'
                · clear hdep
                  have hK' := hK w' (.pointer (some ⟨g, 0, none⟩)) (by simp) (REF.out 4 (by decide) L w' hx) trivial
                  clear hK
                  rw [if_pos (by rfl)]
                  go_simp
                  simpa [upd] using hK'
                · have d4 : t 4 = .pointer (some ⟨g, 0, none⟩) := by simpa using hdep ⟨4, .data⟩ (by simp) rfl
                  clear hdep
                  have hK' := hK w' (.pointer (some ⟨g, 0, none⟩)) (by simp) (REF.out 5 (by decide) L w' hx) trivial
                  clear hK
                  rw [if_pos (by rfl)]
                  go_simp
                  simpa [upd, d4] using hK'
                · have d5 : t 5 = .pointer (some ⟨g, 0, none⟩) := by simpa using hdep ⟨5, .data⟩ (by simp) rfl
                  clear hdep
                  have hK' := hK w' (.pointer (some ⟨g, 5, none⟩)) (by simp) (REF.out 6 (by decide) L w' hx) trivial
                  clear hK
                  rw [if_pos (by rfl)]
                  go_simp
                  simpa [upd, d5] using hK'
                · have d3 : t 3 = .pointer (some ⟨g, 0, none⟩) := by simpa using hdep ⟨3, .data⟩ (by simp) rfl
                  have d6 : t 6 = .pointer (some ⟨g, 5, none⟩) := by simpa using hdep ⟨6, .data⟩ (by simp) rfl
                  clear hdep
                  have A := times_any g 0 g 5 ns ys w' (YY.out L w' hx).1 (YY.out L w' hx).2
                  have hK' : ∀ ww ts, EOk ts → ev ts = ev ns * ev ys % fp → Below w'.heap.size w' ww → K _ ww := fun ww ts h1 h2 b => hK ww (.agg (ts.map (Value.int .u64)).toArray) (by simp; exact ⟨ts, h1, h2, rfl⟩) (ExD.low 7 (by decide) hx (fun q => HA.out _ _ b q) (fun q => HB.out _ _ b q) b) trivial
                  clear hK
                  rw [if_pos (by rfl)]
                  go_simp
                  refine A.mono ?_
                  rintro e w9 ⟨ts, h1, h2, rfl, hb⟩
                  have hK2 := hK' w9 ts h1 h2 hb
                  clear hK' A hb h1 h2
                  go_simp
                  simpa [upd, d3, d6] using hK2
                · have d0 : t 0 = .pointer (some ⟨g, 0, none⟩) := by simpa using hdep ⟨0, .data⟩ (by simp) rfl
                  clear hdep
                  have hK' := hK w' (.pointer (some ⟨g, 0, none⟩)) (by simp) (REF.out 8 (by decide) L w' hx) trivial
                  clear hK
                  rw [if_pos (by rfl)]
                  go_simp
                  simpa [upd, d0] using hK'
                · have d8 : t 8 = .pointer (some ⟨g, 0, none⟩) := by simpa using hdep ⟨8, .data⟩ (by simp) rfl
                  clear hdep
                  have hK' := hK w' (.pointer (some ⟨g, 15, none⟩)) (by simp) (REF.out 9 (by decide) L w' hx) trivial
                  clear hK
                  rw [if_pos (by rfl)]
                  go_simp
                  simpa [upd, d8] using hK'
                · have d9 : t 9 = .pointer (some ⟨g, 15, none⟩) := by simpa using hdep ⟨9, .data⟩ (by simp) rfl
                  have d7 : TG (ev ns) (ev ys) (t 7) := by simpa using hdep ⟨7, .data⟩ (by simp) rfl
                  clear hdep
                  obtain ⟨ts, h1, h2, h3⟩ := d7
                  rw [if_pos (by rfl)]
                  refine wp_midT (hx.2.1 hLi) (.tmp 59) (.tmp 57) rfl ts (show t 9 = _ from d9) (show t 7 = _ from h3) h1 ?_
                  intro ww hp hw
                  have hK' := hK ww undef (by simp [updK]) ⟨hx.1.trans hw.wrH, fun q => absurd q (by rw [updK_same]; decide), fun _ => ⟨ts, h1, h2, hp⟩⟩ trivial
                  clear hK
                  go_simp
                  simpa [upd, d9, h3] using hK'
              case hdone =>
                intro L t w' hx hg
                have d0 : t 0 = .pointer (some ⟨g, 0, none⟩) := by simpa using hg 0 (by decide)
                have d1 : t 1 = .pointer (some ⟨g, 0, none⟩) := by simpa using hg 1 (by decide)
                have d2 : t 2 = .pointer (some ⟨g, 0, none⟩) := by simpa using hg 2 (by decide)
                have d3 : t 3 = .pointer (some ⟨g, 0, none⟩) := by simpa using hg 3 (by decide)
                have d4 : t 4 = .pointer (some ⟨g, 0, none⟩) := by simpa using hg 4 (by decide)
                have d5 : t 5 = .pointer (some ⟨g, 0, none⟩) := by simpa using hg 5 (by decide)
                have d6 : t 6 = .pointer (some ⟨g, 5, none⟩) := by simpa using hg 6 (by decide)
                have d7 : TG (ev ns) (ev ys) (t 7) := by simpa using hg 7 (by decide)
                have d8 : t 8 = .pointer (some ⟨g, 0, none⟩) := by simpa using hg 8 (by decide)
                have d9 : t 9 = .pointer (some ⟨g, 15, none⟩) := by simpa using hg 9 (by decide)
                have d10 : t 10 = undef ∧ L 10 = true := by simpa using hg 10 (by decide)
                clear hg
                obtain ⟨ts, hk, hv, hpt⟩ := hx.2.2 d10.2
                obtain ⟨ts', _, _, e7⟩ := d7
                have HSb : Hid (RunP w w' g ns ys oneL ts [] []) := ⟨hx.1, hlt, hpt, by simp, List.Pairwise.nil, by simp⟩
                have HKts : Hid (EOk ts ∧ ev ts = dcX zs * dcY zs % fp) := ⟨hk, by rw [hv, HKns.out.2, HEV.out]⟩
                clear hx HSa HA EX0 REF YY HB hk hv hpt
                dsimp only
                rw [d0, d1, d2, d3, d4, d5, d6, e7, d8, d9]
                clear d0 d1 d2 d3 d4 d5 d6 e7 d8 d9 d10
                go_wp2_with fail
                refine (isOdd_any g 0 ns _ HSb.out.pt.ex).mono ?_
                rintro e wc ⟨rfl, b⟩
                rw [HKns.out.2]
                have HSc : Hid (RunP w wc g ns ys oneL ts [] []) := HSb.out.call b
                clear b HSb
                obtain ⟨o2, ho2⟩ : ∃ o2, o2 = (dcX zs % 2 == 1) := ⟨_, rfl⟩
                rw [← ho2]
                have HDD : Hid (dcR zs = (o2 == true)) := by
                  show _ = _
                  rw [HDR.out, ← ho2, ← HOD.out]
                clear ho2
                go_wp2
                go_ret
                exact ⟨ns, ys, oneL, ts, HSc.out.pt, HSc.out.wrh, by rw [HDD.out]; cases o2 <;> rfl, fun _ => ⟨HKns.out.2, HEV.out, by decide, HKts.out.2⟩⟩
            · have HKns : Hid (EOk xs ∧ ev xs = dcX zs) := ⟨HKxs.out.1, by rw [HKxs.out.2, HXE.out]; rfl⟩
              have HS8 : Hid (RunP w w6 g xs ys z t0 [] []) := HS6.out
              clear HS6 HKxs
              generalize hxn : xs = ns at *
              clear hxn
              go_wp2_with (first
                | (refine wpList_midP HS8.out rfl (.tmp 49) (.tmp 47) rfl 10 (by decide) oneL ns ys oneL t0 (over_z HS8.out.pt.x.1 HS8.out.pt.y.1 HS8.out.pt.z.1 one_ok.1) ⟨HS8.out.pt.x, HS8.out.pt.y, one_ok, HS8.out.pt.t⟩ rfl rfl one_ok rfl ?_)
                | fail)
              intro wa Sa
              have HSa : Hid (RunP w wa g ns ys oneL t0 [] []) := Sa
              clear Sa HS8
              have EX0 : Hid (ExD w g 10 (fun w1 => Pt w1 g ns ys oneL t0) (fun w1 => ∃ ts, EOk ts ∧ ev ts = ev ns * ev ys % fp ∧ Pt w1 g ns ys oneL ts) (fun n => (Array.replicate 11 false).getD n false) wa.drew) := ⟨HSa.out.wrh.trans (WrH.of_below (Below.refl _ _).drew), fun _ => ⟨HSa.out.pt.row, HSa.out.pt.x, HSa.out.pt.y, HSa.out.pt.z, HSa.out.pt.t⟩, fun q => absurd q (by simp)⟩
              have HA : Hid (∀ (w' ww : World), Below w'.heap.size w' ww → Pt w' g ns ys oneL t0 → Pt ww g ns ys oneL t0) := fun w' ww b h => h.below b h.row.lt
              have HB : Hid (∀ (w' ww : World), Below w'.heap.size w' ww → (∃ ts, EOk ts ∧ ev ts = ev ns * ev ys % fp ∧ Pt w' g ns ys oneL ts) → (∃ ts, EOk ts ∧ ev ts = ev ns * ev ys % fp ∧ Pt ww g ns ys oneL ts)) := fun w' ww b ⟨ts, h1, h2, h⟩ => ⟨ts, h1, h2, h.below b h.row.lt⟩
              have REF : Hid (∀ i, i ≠ 10 → ∀ (L : Nat → Bool) (w' : World), ExD w g 10 (fun w1 => Pt w1 g ns ys oneL t0) (fun w1 => ∃ ts, EOk ts ∧ ev ts = ev ns * ev ys % fp ∧ Pt w1 g ns ys oneL ts) L w' → ExD w g 10 (fun w1 => Pt w1 g ns ys oneL t0) (fun w1 => ∃ ts, EOk ts ∧ ev ts = ev ns * ev ys % fp ∧ Pt w1 g ns ys oneL ts) (updK L i) w') := fun i hi L w' h => ExD.ref i hi h
              have YY : Hid (∀ (L : Nat → Bool) (w' : World), ExD w g 10 (fun w1 => Pt w1 g ns ys oneL t0) (fun w1 => ∃ ts, EOk ts ∧ ev ts = ev ns * ev ys % fp ∧ Pt w1 g ns ys oneL ts) L w' → EAt w' g 0 ns ∧ EAt w' g 5 ys) := fun L w' h => by
                cases hL : L 10
                · exact ⟨(h.2.1 hL).ex, (h.2.1 hL).ey⟩
                · obtain ⟨_, _, _, q⟩ := h.2.2 hL
                  exact ⟨q.ex, q.ey⟩
              go_wp2
              refine wp_region_any (by kernel_rfl) ?_
              refine wpAny_slotsG (fun _ _ _ => True) (frame := (fun (c0 c1 c2 c3 c4 c5 c6 c7 c8 c9 c10 c11 c12 c13 c14 c15 c16 c17 c18 c19 c20 c21 c22 c23 c24 c25 c26 c27 c28 c29 c30 c31 c32 c33 c34 c35 c36 c37 c38 c39 c40 c41 c42 c43 c44 c45 c46 c47 c48 c49 c60 c61 c62 c63 c64 c65 : Value) => fun (t : Nat → Value) => ({ tmps := List.toArray (c0 :: c1 :: c2 :: c3 :: c4 :: c5 :: c6 :: c7 :: c8 :: c9 :: c10 :: c11 :: c12 :: c13 :: c14 :: c15 :: c16 :: c17 :: c18 :: c19 :: c20 :: c21 :: c22 :: c23 :: c24 :: c25 :: c26 :: c27 :: c28 :: c29 :: c30 :: c31 :: c32 :: c33 :: c34 :: c35 :: c36 :: c37 :: c38 :: c39 :: c40 :: c41 :: c42 :: c43 :: c44 :: c45 :: c46 :: c47 :: c48 :: c49 :: t 0 :: t 1 :: t 2 :: t 3 :: t 4 :: t 5 :: t 6 :: t 7 :: t 8 :: t 9 :: c60 :: c61 :: c62 :: c63 :: c64 :: c65 :: []), defers := [] } : Act)) _ _ _ _ _ _ _ _ _ _ _ _ _ _ _ _ _ _ _ _ _ _ _ _ _ _ _ _ _ _ _ _ _ _ _ _ _ _ _ _ _ _ _ _ _ _ _ _ _ _ _ _ _ _ _ _)
                (Ext := fun L w' => ExD w g 10 (fun w1 => Pt w1 g ns ys oneL t0) (fun w1 => ∃ ts, EOk ts ∧ ev ts = ev ns * ev ys % fp ∧ Pt w1 g ns ys oneL ts) L w') (Good := fun i L _ v => if i = 0 then v = .pointer (some ⟨g, 0, none⟩) else if i = 1 then v = .pointer (some ⟨g, 0, none⟩) else if i = 2 then v = .pointer (some ⟨g, 0, none⟩) else if i = 3 then v = .pointer (some ⟨g, 0, none⟩) else if i = 4 then v = .pointer (some ⟨g, 0, none⟩) else if i = 5 then v = .pointer (some ⟨g, 0, none⟩) else if i = 6 then v = .pointer (some ⟨g, 5, none⟩) else if i = 7 then TG (ev ns) (ev ys) (v) else if i = 8 then v = .pointer (some ⟨g, 0, none⟩) else if i = 9 then v = .pointer (some ⟨g, 15, none⟩) else if i = 10 then v = undef ∧ L 10 = true else True) ?hstab (by kernel_rfl) ?hop ?hdone _ _ ((fun (x0 x1 x2 x3 x4 x5 x6 x7 x8 x9 : Value) => fun (i : Nat) => if i = 0 then x0 else if i = 1 then x1 else if i = 2 then x2 else if i = 3 then x3 else if i = 4 then x4 else if i = 5 then x5 else if i = 6 then x6 else if i = 7 then x7 else if i = 8 then x8 else if i = 9 then x9 else undef) _ _ _ _ _ _ _ _ _ _) _ (by simp) ?ext ?start (by simp)
              case start => intro i hi h; exact absurd h (by rw [Array.getD_eq_getD_getElem?, Array.getElem?_replicate]; split <;> simp)
              case ext => exact EX0.out
              case hstab =>
                intro j L w w' i v _ _ _ h
                by_cases hj : j = 10
                · subst hj
                  simp at h ⊢
                  exact ⟨h.1, by unfold updK; simp [h.2]⟩
                · simp only [if_neg hj] at h ⊢
                  exact h
              case hop =>
                intro i o L t w' ho hLi hx hdep K hK
                have hi : i < 11 := (Array.getElem?_eq_some_iff.1 ho).1
                obtain rfl | rfl | rfl | rfl | rfl | rfl | rfl | rfl | rfl | rfl | rfl : i = 0 ∨ i = 1 ∨ i = 2 ∨ i = 3 ∨ i = 4 ∨ i = 5 ∨ i = 6 ∨ i = 7 ∨ i = 8 ∨ i = 9 ∨ i = 10 := by omega
                all_goals (simp at ho; subst ho)
                · clear hdep
                  have hK' := hK w' (.pointer (some ⟨g, 0, none⟩)) (by simp) (REF.out 0 (by decide) L w' hx) trivial
                  clear hK
                  rw [if_pos (by rfl)]
                  go_simp
                  simpa [upd] using hK'
                · clear hdep
                  have hK' := hK w' (.pointer (some ⟨g, 0, none⟩)) (by simp) (REF.out 1 (by decide) L w' hx) trivial
                  clear hK
                  rw [if_pos (by rfl)]
                  go_simp
                  simpa [upd] using hK'
                · have d1 : t 1 = .pointer (some ⟨g, 0, none⟩) := by simpa using hdep ⟨1, .data⟩ (by simp) rfl
                  clear hdep
                  have hK' := hK w' (.pointer (some ⟨g, 0, none⟩)) (by simp) (REF.out 2 (by decide) L w' hx) trivial
                  clear hK
                  rw [if_pos (by rfl)]
                  go_simp
                  simpa [upd, d1] using hK'
                · have d2 : t 2 = .pointer (some ⟨g, 0, none⟩) := by simpa using hdep ⟨2, .data⟩ (by simp) rfl
                  clear hdep
                  have hK' := hK w' (.pointer (some ⟨g, 0, none⟩)) (by simp) (REF.out 3 (by decide) L w' hx) trivial
                  clear hK
                  rw [if_pos (by rfl)]
                  go_simp
                  simpa [upd, d2] using hK'
                · clear hdep
                  have hK' := hK w' (.pointer (some ⟨g, 0, none⟩)) (by simp) (REF.out 4 (by decide) L w' hx) trivial
                  clear hK
                  rw [if_pos (by rfl)]
                  go_simp
                  simpa [upd] using hK'
                · have d4 : t 4 = .pointer (some ⟨g, 0, none⟩) := by simpa using hdep ⟨4, .data⟩ (by simp) rfl
                  clear hdep
                  have hK' := hK w' (.pointer (some ⟨g, 0, none⟩)) (by simp) (REF.out 5 (by decide) L w' hx) trivial
                  clear hK
                  rw [if_pos (by rfl)]
                  go_simp
                  simpa [upd, d4] using hK'
                · have d5 : t 5 = .pointer (some ⟨g, 0, none⟩) := by simpa using hdep ⟨5, .data⟩ (by simp) rfl
                  clear hdep
                  have hK' := hK w' (.pointer (some ⟨g, 5, none⟩)) (by simp) (REF.out 6 (by decide) L w' hx) trivial
                  clear hK
                  rw [if_pos (by rfl)]
                  go_simp
                  simpa [upd, d5] using hK'
                · have d3 : t 3 = .pointer (some ⟨g, 0, none⟩) := by simpa using hdep ⟨3, .data⟩ (by simp) rfl
                  have d6 : t 6 = .pointer (some ⟨g, 5, none⟩) := by simpa using hdep ⟨6, .data⟩ (by simp) rfl
                  clear hdep
                  have A := times_any g 0 g 5 ns ys w' (YY.out L w' hx).1 (YY.out L w' hx).2
                  have hK' : ∀ ww ts, EOk ts → ev ts = ev ns * ev ys % fp → Below w'.heap.size w' ww → K _ ww := fun ww ts h1 h2 b => hK ww (.agg (ts.map (Value.int .u64)).toArray) (by simp; exact ⟨ts, h1, h2, rfl⟩) (ExD.low 7 (by decide) hx (fun q => HA.out _ _ b q) (fun q => HB.out _ _ b q) b) trivial
                  clear hK
                  rw [if_pos (by rfl)]
                  go_simp
                  refine A.mono ?_
                  rintro e w9 ⟨ts, h1, h2, rfl, hb⟩
                  have hK2 := hK' w9 ts h1 h2 hb
                  clear hK' A hb h1 h2
                  go_simp
                  simpa [upd, d3, d6] using hK2
                · have d0 : t 0 = .pointer (some ⟨g, 0, none⟩) := by simpa using hdep ⟨0, .data⟩ (by simp) rfl
                  clear hdep
                  have hK' := hK w' (.pointer (some ⟨g, 0, none⟩)) (by simp) (REF.out 8 (by decide) L w' hx) trivial
                  clear hK
                  rw [if_pos (by rfl)]
                  go_simp
                  simpa [upd, d0] using hK'
                · have d8 : t 8 = .pointer (some ⟨g, 0, none⟩) := by simpa using hdep ⟨8, .data⟩ (by simp) rfl
                  clear hdep
                  have hK' := hK w' (.pointer (some ⟨g, 15, none⟩)) (by simp) (REF.out 9 (by decide) L w' hx) trivial
                  clear hK
                  rw [if_pos (by rfl)]
                  go_simp
                  simpa [upd, d8] using hK'
                · have d9 : t 9 = .pointer (some ⟨g, 15, none⟩) := by simpa using hdep ⟨9, .data⟩ (by simp) rfl
                  have d7 : TG (ev ns) (ev ys) (t 7) := by simpa using hdep ⟨7, .data⟩ (by simp) rfl
                  clear hdep
                  obtain ⟨ts, h1, h2, h3⟩ := d7
                  rw [if_pos (by rfl)]
                  refine wp_midT (hx.2.1 hLi) (.tmp 59) (.tmp 57) rfl ts (show t 9 = _ from d9) (show t 7 = _ from h3) h1 ?_
                  intro ww hp hw
                  have hK' := hK ww undef (by simp [updK]) ⟨hx.1.trans hw.wrH, fun q => absurd q (by rw [updK_same]; decide), fun _ => ⟨ts, h1, h2, hp⟩⟩ trivial
                  clear hK
                  go_simp
                  simpa [upd, d9, h3] using hK'
              case hdone =>
                intro L t w' hx hg
                have d0 : t 0 = .pointer (some ⟨g, 0, none⟩) := by simpa using hg 0 (by decide)
                have d1 : t 1 = .pointer (some ⟨g, 0, none⟩) := by simpa using hg 1 (by decide)
                have d2 : t 2 = .pointer (some ⟨g, 0, none⟩) := by simpa using hg 2 (by decide)
                have d3 : t 3 = .pointer (some ⟨g, 0, none⟩) := by simpa using hg 3 (by decide)
                have d4 : t 4 = .pointer (some ⟨g, 0, none⟩) := by simpa using hg 4 (by decide)
                have d5 : t 5 = .pointer (some ⟨g, 0, none⟩) := by simpa using hg 5 (by decide)
                have d6 : t 6 = .pointer (some ⟨g, 5, none⟩) := by simpa using hg 6 (by decide)
                have d7 : TG (ev ns) (ev ys) (t 7) := by simpa using hg 7 (by decide)
                have d8 : t 8 = .pointer (some ⟨g, 0, none⟩) := by simpa using hg 8 (by decide)
                have d9 : t 9 = .pointer (some ⟨g, 15, none⟩) := by simpa using hg 9 (by decide)
                have d10 : t 10 = undef ∧ L 10 = true := by simpa using hg 10 (by decide)
                clear hg
                obtain ⟨ts, hk, hv, hpt⟩ := hx.2.2 d10.2
                obtain ⟨ts', _, _, e7⟩ := d7
                have HSb : Hid (RunP w w' g ns ys oneL ts [] []) := ⟨hx.1, hlt, hpt, by simp, List.Pairwise.nil, by simp⟩
                have HKts : Hid (EOk ts ∧ ev ts = dcX zs * dcY zs % fp) := ⟨hk, by rw [hv, HKns.out.2, HEV.out]⟩
                clear hx HSa HA EX0 REF YY HB hk hv hpt
                dsimp only
                rw [d0, d1, d2, d3, d4, d5, d6, e7, d8, d9]
                clear d0 d1 d2 d3 d4 d5 d6 e7 d8 d9 d10
                go_wp2_with fail
                refine (isOdd_any g 0 ns _ HSb.out.pt.ex).mono ?_
                rintro e wc ⟨rfl, b⟩
                rw [HKns.out.2]
                have HSc : Hid (RunP w wc g ns ys oneL ts [] []) := HSb.out.call b
                clear b HSb
                obtain ⟨o2, ho2⟩ : ∃ o2, o2 = (dcX zs % 2 == 1) := ⟨_, rfl⟩
                rw [← ho2]
                have HDD : Hid (dcR zs = (o2 == true)) := by
                  show _ = _
                  rw [HDR.out, ← ho2, ← HOD.out]
                clear ho2
                go_wp2
                go_ret
                exact ⟨ns, ys, oneL, ts, HSc.out.pt, HSc.out.wrh, by rw [HDD.out]; cases o2 <;> rfl, fun _ => ⟨HKns.out.2, HEV.out, by decide, HKts.out.2⟩⟩
    · have HQ : Hid (decide (ys = lsE ys) = false) := decide_eq_false (fun h => hle h.symm)
      have HDR : Hid (dcR zs = false) := by
        show _ = _
        have : decide (dcY zs < fp) = false := decide_eq_false (fun h => hle (HLS.out.2 h))
        unfold dcR; rw [this]; simp
      clear hle
      have EX0 : Hid (ExD w g 99 (fun w1 => Pt w1 g x ys z t0) (fun w1 => Pt w1 g x ys z t0) (fun n => (Array.replicate 14 false).getD n false) w4.drew) := ⟨HS4.out.wrh.trans (WrH.of_below (Below.refl _ _).drew), fun _ => ⟨HS4.out.pt.row, HS4.out.pt.x, HS4.out.pt.y, HS4.out.pt.z, HS4.out.pt.t⟩, fun _ => ⟨HS4.out.pt.row, HS4.out.pt.x, HS4.out.pt.y, HS4.out.pt.z, HS4.out.pt.t⟩⟩
      have REF : Hid (∀ i, i ≠ 99 → ∀ (L : Nat → Bool) (w' : World), ExD w g 99 (fun w1 => Pt w1 g x ys z t0) (fun w1 => Pt w1 g x ys z t0) L w' → ExD w g 99 (fun w1 => Pt w1 g x ys z t0) (fun w1 => Pt w1 g x ys z t0) (updK L i) w') := fun i hi L w' h => ExD.ref i hi h
      have YY : Hid (∀ (L : Nat → Bool) (w' : World), ExD w g 99 (fun w1 => Pt w1 g x ys z t0) (fun w1 => Pt w1 g x ys z t0) L w' → EAt w' g 5 ys) := fun L w' h => by
        cases hL : L 99
        · exact (h.2.1 hL).ey
        · exact (h.2.2 hL).ey
      go_wp2
      refine wp_region_any (by kernel_rfl) ?_
      refine wpAny_slotsG (fun _ _ _ => True) (frame := (fun (c0 c1 c2 c3 c4 c5 c6 c7 c8 c9 c10 c11 c12 c13 c14 c15 c16 c17 c18 c33 c34 c35 c36 c37 c38 c39 c40 c41 c42 c43 c44 c45 c46 c47 c48 c49 c50 c51 c52 c53 c54 c55 c56 c57 c58 c59 c60 c61 c62 c63 c64 c65 : Value) => fun (t : Nat → Value) => ({ tmps := List.toArray (c0 :: c1 :: c2 :: c3 :: c4 :: c5 :: c6 :: c7 :: c8 :: c9 :: c10 :: c11 :: c12 :: c13 :: c14 :: c15 :: c16 :: c17 :: c18 :: t 0 :: t 1 :: t 2 :: t 3 :: t 4 :: t 5 :: t 6 :: t 7 :: t 8 :: t 9 :: t 10 :: t 11 :: t 12 :: t 13 :: c33 :: c34 :: c35 :: c36 :: c37 :: c38 :: c39 :: c40 :: c41 :: c42 :: c43 :: c44 :: c45 :: c46 :: c47 :: c48 :: c49 :: c50 :: c51 :: c52 :: c53 :: c54 :: c55 :: c56 :: c57 :: c58 :: c59 :: c60 :: c61 :: c62 :: c63 :: c64 :: c65 :: []), defers := [] } : Act)) _ _ _ _ _ _ _ _ _ _ _ _ _ _ _ _ _ _ _ _ _ _ _ _ _ _ _ _ _ _ _ _ _ _ _ _ _ _ _ _ _ _ _ _ _ _ _ _ _ _ _ _)
        (Ext := fun L w' => ExD w g 99 (fun w1 => Pt w1 g x ys z t0) (fun w1 => Pt w1 g x ys z t0) L w') (Good := fun i L _ v => if i = 0 then v = .pointer (some ⟨g, 0, none⟩) else if i = 1 then v = .pointer (some ⟨g, 0, none⟩) else if i = 2 then v = .pointer (some ⟨g, 5, none⟩) else if i = 3 then v = .agg (ys.map (Value.int .u64)).toArray else if i = 4 then v = .pointer (some ⟨g, 0, none⟩) else if i = 5 then v = .pointer (some ⟨g, 0, none⟩) else if i = 6 then v = .pointer (some ⟨g, 5, none⟩) else if i = 7 then v = .agg ((lsE ys).map (Value.int .u64)).toArray else if i = 8 then v = .bool true else if i = 9 then v = .bool true else if i = 10 then True else if i = 11 then True else if i = 12 then True else if i = 13 then v = .bool true else True) ?hstab (by kernel_rfl) ?hop ?hdone _ _ ((fun (x0 x1 x2 x3 x4 x5 x6 x7 x8 x9 x10 x11 x12 x13 : Value) => fun (i : Nat) => if i = 0 then x0 else if i = 1 then x1 else if i = 2 then x2 else if i = 3 then x3 else if i = 4 then x4 else if i = 5 then x5 else if i = 6 then x6 else if i = 7 then x7 else if i = 8 then x8 else if i = 9 then x9 else if i = 10 then x10 else if i = 11 then x11 else if i = 12 then x12 else if i = 13 then x13 else undef) _ _ _ _ _ _ _ _ _ _ _ _ _ _) _ (by simp) ?ext ?start (by simp)
      case start => intro i hi h; exact absurd h (by rw [Array.getD_eq_getD_getElem?, Array.getElem?_replicate]; split <;> simp)
      case ext => exact EX0.out
      case hstab => intro j L w w' i v _ _ _ h; exact h
      case hop =>
        intro i o L t w' ho hLi hx hdep K hK
        have hi : i < 14 := (Array.getElem?_eq_some_iff.1 ho).1
        obtain rfl | rfl | rfl | rfl | rfl | rfl | rfl | rfl | rfl | rfl | rfl | rfl | rfl | rfl : i = 0 ∨ i = 1 ∨ i = 2 ∨ i = 3 ∨ i = 4 ∨ i = 5 ∨ i = 6 ∨ i = 7 ∨ i = 8 ∨ i = 9 ∨ i = 10 ∨ i = 11 ∨ i = 12 ∨ i = 13 := by omega
        all_goals (simp at ho; subst ho)
        · clear hdep
          have hK' := hK w' (.pointer (some ⟨g, 0, none⟩)) (by simp) (REF.out 0 (by decide) L w' hx) trivial
          clear hK
          rw [if_pos (by rfl)]
          go_simp
          simpa [upd] using hK'
        · have d0 : t 0 = .pointer (some ⟨g, 0, none⟩) := by simpa using hdep ⟨0, .data⟩ (by simp) rfl
          clear hdep
          have hK' := hK w' (.pointer (some ⟨g, 0, none⟩)) (by simp) (REF.out 1 (by decide) L w' hx) trivial
          clear hK
          rw [if_pos (by rfl)]
          go_simp
          simpa [upd, d0] using hK'
        · have d1 : t 1 = .pointer (some ⟨g, 0, none⟩) := by simpa using hdep ⟨1, .data⟩ (by simp) rfl
          clear hdep
          have hK' := hK w' (.pointer (some ⟨g, 5, none⟩)) (by simp) (REF.out 2 (by decide) L w' hx) trivial
          clear hK
          rw [if_pos (by rfl)]
          go_simp
          simpa [upd, d1] using hK'
        · have d2 : t 2 = .pointer (some ⟨g, 5, none⟩) := by simpa using hdep ⟨2, .data⟩ (by simp) rfl
          clear hdep
          have hK' := hK w' (.agg (ys.map (Value.int .u64)).toArray) (by simp) (REF.out 3 (by decide) L w' hx) trivial
          have ex := YY.out L w' hx
          clear hK
          rw [if_pos (by rfl)]
          refine wp_loadE (.tmp 21) rfl g 5 ys (show t 2 = _ from d2) ex ?_
          go_simp
          simpa [upd, d2] using hK'
        · clear hdep
          have hK' := hK w' (.pointer (some ⟨g, 0, none⟩)) (by simp) (REF.out 4 (by decide) L w' hx) trivial
          clear hK
          rw [if_pos (by rfl)]
          go_simp
          simpa [upd] using hK'
        · have d4 : t 4 = .pointer (some ⟨g, 0, none⟩) := by simpa using hdep ⟨4, .data⟩ (by simp) rfl
          clear hdep
          have hK' := hK w' (.pointer (some ⟨g, 0, none⟩)) (by simp) (REF.out 5 (by decide) L w' hx) trivial
          clear hK
          rw [if_pos (by rfl)]
          go_simp
          simpa [upd, d4] using hK'
        · have d5 : t 5 = .pointer (some ⟨g, 0, none⟩) := by simpa using hdep ⟨5, .data⟩ (by simp) rfl
          clear hdep
          have hK' := hK w' (.pointer (some ⟨g, 5, none⟩)) (by simp) (REF.out 6 (by decide) L w' hx) trivial
          clear hK
          rw [if_pos (by rfl)]
          go_simp
          simpa [upd, d5] using hK'
        · have d6 : t 6 = .pointer (some ⟨g, 5, none⟩) := by simpa using hdep ⟨6, .data⟩ (by simp) rfl
          clear hdep
          have A := leastE_any g 5 ys w' (YY.out L w' hx)
          have hK' : ∀ ww, Below w'.heap.size w' ww → K _ ww := fun ww b => hK ww (.agg ((lsE ys).map (Value.int .u64)).toArray) (by simp) (ExD.low 7 (by decide) hx (fun q => HA.out _ _ b q) (fun q => HA.out _ _ b q) b) trivial
          clear hK
          rw [if_pos (by rfl)]
          go_simp
          refine A.mono ?_
          rintro e w9 ⟨rfl, hb⟩
          have hK2 := hK' w9 hb
          clear hK' A hb
          go_simp
          simpa [upd, d6] using hK2
        · have d3 : t 3 = .agg (ys.map (Value.int .u64)).toArray := by simpa using hdep ⟨3, .data⟩ (by simp) rfl
          have d7 : t 7 = .agg ((lsE ys).map (Value.int .u64)).toArray := by simpa using hdep ⟨7, .data⟩ (by simp) rfl
          clear hdep
          have hK' := hK w' (.bool true) (by simp) (REF.out 8 (by decide) L w' hx) trivial
          clear hK
          rw [if_pos (by rfl)]
          go_simp
          simp only [run_eqW _ 9998 5 82 Try.underlying82 ys (lsE ys) hyl hll, HQ.out, Result.andThen_ok]
          go_simp
          simpa [upd, d3, d7] using hK'
        · have d8 : t 8 = .bool true := by simpa using hdep ⟨8, .data⟩ (by simp) rfl
          clear hdep
          have hK' := hK w' (.bool true) (by simp) (REF.out 9 (by decide) L w' hx) trivial
          clear hK
          rw [if_pos (by rfl)]
          go_simp
          simpa [upd, d8] using hK'
        · have d9 : t 9 = .bool true := by simpa using hdep ⟨9, .guard⟩ (by simp) rfl
          clear hdep
          have hK' := hK w' undef (by simp) (REF.out 10 (by decide) L w' hx) trivial
          clear hK
          rw [if_neg (by simp [Region.wanted, yielded, d9])]
          go_simp
          simpa [upd, d9] using hK'
        · have d9 : t 9 = .bool true := by simpa using hdep ⟨9, .guard⟩ (by simp) rfl
          clear hdep
          have hK' := hK w' undef (by simp) (REF.out 11 (by decide) L w' hx) trivial
          clear hK
          rw [if_neg (by simp [Region.wanted, yielded, d9])]
          go_simp
          simpa [upd, d9] using hK'
        · have d9 : t 9 = .bool true := by simpa using hdep ⟨9, .guard⟩ (by simp) rfl
          clear hdep
          have hK' := hK w' undef (by simp) (REF.out 12 (by decide) L w' hx) trivial
          clear hK
          rw [if_neg (by simp [Region.wanted, yielded, d9])]
          go_simp
          simpa [upd, d9] using hK'
        · have d9 : t 9 = .bool true := by simpa using hdep ⟨9, .data⟩ (by simp) rfl
          clear hdep
          have hK' := hK w' (.bool true) (by simp) (REF.out 13 (by decide) L w' hx) trivial
          clear hK
          rw [if_pos (by rfl)]
          go_simp
          simpa [upd, d9] using hK'
      case hdone =>
        intro L t w' hx hg
        have d0 : t 0 = .pointer (some ⟨g, 0, none⟩) := by simpa using hg 0 (by decide)
        have d1 : t 1 = .pointer (some ⟨g, 0, none⟩) := by simpa using hg 1 (by decide)
        have d2 : t 2 = .pointer (some ⟨g, 5, none⟩) := by simpa using hg 2 (by decide)
        have d3 : t 3 = .agg (ys.map (Value.int .u64)).toArray := by simpa using hg 3 (by decide)
        have d4 : t 4 = .pointer (some ⟨g, 0, none⟩) := by simpa using hg 4 (by decide)
        have d5 : t 5 = .pointer (some ⟨g, 0, none⟩) := by simpa using hg 5 (by decide)
        have d6 : t 6 = .pointer (some ⟨g, 5, none⟩) := by simpa using hg 6 (by decide)
        have d7 : t 7 = .agg ((lsE ys).map (Value.int .u64)).toArray := by simpa using hg 7 (by decide)
        have d8 : t 8 = .bool true := by simpa using hg 8 (by decide)
        have d9 : t 9 = .bool true := by simpa using hg 9 (by decide)
        have d13 : t 13 = .bool true := by simpa using hg 13 (by decide)
        clear hg
        have HF : Hid (WrH g w w' ∧ Pt w' g x ys z t0) := ⟨hx.1, by
          cases hL : L 99
          · exact hx.2.1 hL
          · exact hx.2.2 hL⟩
        clear hx HS4 HA EX0 REF YY HQ HKys HKlm HLS
        dsimp only
        rw [d0, d1, d2, d3, d4, d5, d6, d7, d8, d9, d13]
        clear d0 d1 d2 d3 d4 d5 d6 d7 d8 d9 d13
        go_wp2
        go_ret
        refine ⟨x, ys, z, t0, HF.out.2, HF.out.1, by rw [HDR.out]; rfl, fun h => ?_⟩
        rw [HDR.out] at h; cases h
  · have h32' : ((n : Int) == 32) = false := by simp; omega
    have HR : Hid (dcR zs = false) := by
      show _ = _
      unfold dcR
      have : (zs.length == 32) = false := by simp; omega
      rw [this]; rfl
    go_enter Try.func53, Try.ntmps53
    go_wp2
    go_ret
    refine ⟨x, y, z, t0, HP.out, WrH.refl _ _, by rw [HR.out]; rfl, fun h => ?_⟩
    rw [HR.out] at h; cases h
end Go.Proofs.Ythghkfncpdnpoac
