/-
  Own work: the model's sums and differences of elements (written by wip/mkadd.py).
-/
import Derived.Test.YthghkfncpdnpoacSFe
import Derived.Test.YthghkfncpdnpoacByP
namespace Go.Proofs.Ythghkfncpdnpoac
open Go.ChangeShapes Go.WideShapes Go.ChangeAt Go.RowKit
set_option linter.unusedVariables false

theorem wp_appI (w : World) {o : Oper} {a : Act} {K : Act → World → Prop} {Q : Exit → Act → World → Prop} {k : IntKind} {t s : TypeId} {by' : Nat} (hk : KT k t s by')
    (sx x : Operand) (hop : o.op = Op.call { callee := Callee.builtin Builtin.append, args := #[sx, x], argTypes := #[s, s] })
    (B : Nat) (v : Value) (xs : List Int) (hs : a.eval sx = v) (hown : OwnK k t w B v xs) (ad : Addr) (m c : Nat) (news : List Int) (hx : a.eval x = .slice (some ad) m c) (hl : news.length = m)
    (hnews : ∀ j, j < m → w.cell? (ad.add j) = some (.int k (news.getD j 0))) (hb : xs.length + m ≤ 1099511627776) (hB : B ≤ w.heap.size)
    (hK : ∀ v' w', OwnK k t w' B v' (xs ++ news) → Below B w w' → K (a.put o.dst v') w') :
    o.wp Try.prog a w K Q := by
  obtain ⟨i0, hi, hz0, hz1, hz2⟩ := info_parts hk.info
  have hbase := hown.base
  have hp := hk.pos
  have hle := hk.le
  refine wp_append_own w sx x s hop B t i0 (.int k 0) 1 by' hk.und hi hz0 hz1 hz2 rfl (by omega) v xs.length _ hs hown.1 ad m c (news.map (Value.int k)) hx (by simp [hl]) ?_ (ints_oneCell _ _) (by unfold maxLen; omega) ?_ hB ?_
  · intro j u hu
    have hj : j < news.length := by have := (List.getElem?_eq_some_iff.1 hu).1; simpa using this
    rw [hnews j (by omega)]
    simp [hj] at hu; simp [hj, hu]
  · have := Nat.mul_le_mul hb hle
    omega
  · intro v' w' h1 h2 h3
    obtain ⟨g, c0, hv, hBg, _, _⟩ := hbase
    have hbel : Below B w w' := (Below.refl _ _).grown h2 hB (fun k hk => by rw [hv] at hk; simp [Value.ownBlock] at hk; omega)
    refine hK v' w' ⟨?_, ?_⟩ hbel
    · rw [List.map_append, List.length_append, hl]; exact h1
    · rcases h1.2 with ⟨h', _⟩ | ⟨g', c', cur, h', _⟩
      · exact absurd (h3.1 h').1 (by rw [hv]; simp)
      · exact ⟨g', c', by rw [h', List.length_append, hl]⟩

/-- What each operation of 'out = append(out, a[i]+b[i])' leaves. -/
def GAd (B : Nat) (u va vb : Value) (pa pb : Addr) (k : Nat) (x y s : Int) (zs : List Int) : Nat → (Nat → Bool) → World → Value → Prop
  | 0, _, _, v => v = u
  | 1, _, _, v => v = va
  | 2, _, _, v => v = .int .i64 k
  | 3, _, _, v => v = .pointer (some pa)
  | 4, _, _, v => v = .int .i64 x
  | 5, _, _, v => v = vb
  | 6, _, _, v => v = .int .i64 k
  | 7, _, _, v => v = .pointer (some pb)
  | 8, _, _, v => v = .int .i64 y
  | 9, _, _, v => v = .int .i64 s
  | 10, L, w, v => L 11 = false → ∃ g', v = .slice (some ⟨g', 0, none⟩) 1 1 ∧ g' < w.heap.size ∧ w.cell? ⟨g', 0, none⟩ = some (.int .i64 s)
  | 11, _, w, v => OwnI w B v (zs ++ [s])
  | _, _, _, _ => True
theorem GAd_stab (B : Nat) (u va vb : Value) (pa pb : Addr) (k : Nat) (x y s : Int) (zs : List Int) (j : Nat) (L : Nat → Bool) (w w' : World) (i : Nat) (v : Value) (hm : i ≠ 11 → Below w.heap.size w w') (hij : i ≠ j) (hL : L i = false) (h : GAd B u va vb pa pb k x y s zs j L w v) :
    GAd B u va vb pa pb k x y s zs j (updK L i) w' v := by
  unfold GAd at *
  split at h <;> try exact h
  · intro h14
    have hi : i ≠ 11 := fun e => by subst e; simp [updK] at h14
    have hL14 : L 11 = false := by simpa [updK, Ne.symm hi] using h14
    obtain ⟨g', e, hg, c0⟩ := h hL14
    have hb := hm hi
    exact ⟨g', e, by have := hb.size; omega, by rw [hb.cell (p := ⟨g', 0, none⟩) hg]; exact c0⟩
  · exact h.grow (hm (fun e => hij e))

def addF (xs ys : List Int) : List Int := (List.range 16).map fun i => xs.getD i 0 + ys.getD i 0
theorem addF_len (xs ys : List Int) : (addF xs ys).length = 16 := by simp [addF]
theorem addF_bd {xs ys : List Int} (hx : R xs) (hy : R ys) : Bd 131400 (addF xs ys) := by
  intro i
  by_cases h : i < 16
  · rw [show (addF xs ys).getD i 0 = _ from rget _ i h]; have := hx.2 i; have := hy.2 i; omega
  · rw [getD_past (by rw [addF_len]; omega)]; omega
theorem addF_fv {xs ys : List Int} (hx : R xs) (hy : R ys) : fv (addF xs ys) = (fv xs + fv ys) % fp := by
  unfold fv addF
  have e := val_lin 65536 (fun i => xs.getD i 0) (fun i => ys.getD i 0) 16 (1)
  rw [show (fun i => xs.getD i 0 + ys.getD i 0) = fun i => xs.getD i 0 + 1 * ys.getD i 0 from by funext i; omega, e, ← val_eq_range 65536 xs 16 hx.1, ← val_eq_range 65536 ys 16 hy.1]
  rw [← Int.add_emod]
  congr 1; omega

set_option maxHeartbeats 2000000 in
theorem fadd_any (a a' : Option Addr) (cap cap' : Nat) (x y : Int) (w : World) (ha : FeA w a x) (ha' : FeA w a' y) :
    Calls Try.prog 106 #[.slice a 16 cap, .slice a' 16 cap'] w (FeP w ((x + y) % fp)) := by
  obtain ⟨xs, hA, hR, rfl⟩ := ha
  obtain ⟨ys, hA', hR', rfl⟩ := ha'
  obtain ⟨b0, off, rfl, hb0, hc⟩ := hA.get (by have := hR.1; omega)
  obtain ⟨b1, off', rfl, hb1, hc'⟩ := hA'.get (by have := hR'.1; omega)
  obtain ⟨t1, t2⟩ := one_R (addF_len xs ys) (addF_bd hR hR')
  have HT : Hid (R (carryL (addF xs ys)) ∧ fv (carryL (addF xs ys)) = (fv xs + fv ys) % fp) := ⟨t1, by rw [t2, addF_fv hR hR']⟩
  have HB1 : Hid (Bd 131400 (addF xs ys)) := addF_bd hR hR'
  have HC : Hid (∀ i, i < 16 → w.cell? ⟨b0, off + i, none⟩ = some (.int .i64 (xs.getD i 0))) := fun i hi => hc i (by have := hR.1; omega)
  have HC' : Hid (∀ i, i < 16 → w.cell? ⟨b1, off' + i, none⟩ = some (.int .i64 (ys.getD i 0))) := fun i hi => hc' i (by have := hR'.1; omega)
  have HR : Hid (R xs ∧ R ys) := ⟨hR, hR'⟩
  clear t1 t2 hc hc' hA hA' hR hR'
  go_enter Try.func106, Try.ntmps106
  go_wp2
  go_loopw [5, 6] (fun v i wr => ∃ k : Nat, k ≤ 16 ∧ i = .int .i64 k ∧ OwnI wr w.heap.size v ((addF xs ys).take k) ∧ Below w.heap.size w wr) (fun _ i _ => 16 - (intOf i).toNat)
  case atStart => exact ⟨0, by decide, rfl, OwnK.empty _ _ (Nat.le_refl _), (Below.refl _ _).alloc (Nat.le_refl _) _⟩
  case round =>
    obtain ⟨k, hk, rfl, hown, hbel⟩ := hrel
    by_cases hlt : k < 16
    · have hlt' : (k : Int) < 16 := by omega
      have HO : Hid (OwnI wr w.heap.size u5 ((addF xs ys).take k)) := hown
      have HBE : Hid (Below w.heap.size w wr) := hbel
      have hx := (HR.out.1).2 k
      have hy := (HR.out.2).2 k
      obtain ⟨x0, x1⟩ := hx
      obtain ⟨y0, y1⟩ := hy
      have HTK : Hid ((addF xs ys).take (k + 1) = (addF xs ys).take k ++ [xs.getD k 0 + ys.getD k 0]) := by
        show _ = _
        have e : (addF xs ys).getD k 0 = xs.getD k 0 + ys.getD k 0 := rget _ k hlt
        rw [← e, List.take_succ_eq_append_getElem (by rw [addF_len]; exact hlt), List.getD_eq_getElem?_getD, List.getElem?_eq_getElem (by rw [addF_len]; exact hlt)]; rfl
      have HTL : Hid (((addF xs ys).take k).length = k) := by show _ = _; rw [List.length_take, addF_len]; omega
      have HCX : Hid (w.cell? ⟨b0, off + k, none⟩ = some (.int .i64 (xs.getD k 0))) := HC.out k hlt
      have HCY : Hid (w.cell? ⟨b1, off' + k, none⟩ = some (.int .i64 (ys.getD k 0))) := HC'.out k hlt
      have hsz := hbel.size
      clear hown hbel
      generalize (addF xs ys).take k = zs at *
      generalize xs.getD k 0 = x at *
      generalize ys.getD k 0 = y at *
      have HWR : Hid (IntKind.i64.wrap (x + y) = x + y) := by show _ = _; rw [IntKind.wrap_i64]; omega
      go_wp2
      refine wp_region_any (by kernel_rfl) ?_
      refine wpAny_slotsK 12 (fun i w w' => i ≠ 11 → Below w.heap.size w w') (frame := (fun (c0 c1 c2 c3 c4 c5 c6 c7 c8 c9 c10 c11 c24 c25 : Value) => fun (t : Nat → Value) => ({ tmps := List.toArray (c0 :: c1 :: c2 :: c3 :: c4 :: c5 :: c6 :: c7 :: c8 :: c9 :: c10 :: c11 :: t 0 :: t 1 :: t 2 :: t 3 :: t 4 :: t 5 :: t 6 :: t 7 :: t 8 :: t 9 :: t 10 :: t 11 :: c24 :: c25 :: []), defers := [] } : Act)) _ _ _ _ _ _ _ _ _ _ _ _ _ _)
        (Ext := fun L w' => (L 11 = false → Below wr.heap.size wr w') ∧ Below w.heap.size w w' ∧ wr.heap.size ≤ w'.heap.size)
        (Good := GAd w.heap.size u5 (.slice (some ⟨b0, off, none⟩) 16 cap) (.slice (some ⟨b1, off', none⟩) 16 cap') ⟨b0, off + k, none⟩ ⟨b1, off' + k, none⟩ k x y (x + y) zs) (by rfl) (by kernel_rfl) (GAd_stab _ _ _ _ _ _ _ _ _ _ _) (by kernel_rfl) (by kernel_rfl) ?hop ?hend _ _ ((fun (x0 x1 x2 x3 x4 x5 x6 x7 x8 x9 x10 x11 : Value) => fun (i : Nat) => if i = 0 then x0 else if i = 1 then x1 else if i = 2 then x2 else if i = 3 then x3 else if i = 4 then x4 else if i = 5 then x5 else if i = 6 then x6 else if i = 7 then x7 else if i = 8 then x8 else if i = 9 then x9 else if i = 10 then x10 else if i = 11 then x11 else undef) _ _ _ _ _ _ _ _ _ _ _ _) _ (by simp) (by simp) ?ext ?start (by simp)
      case start => intro i hi h; exact absurd h (by rw [Array.getD_eq_getD_getElem?, Array.getElem?_replicate]; split <;> simp)
      case ext => exact ⟨fun _ => (Below.refl _ _).drew, ⟨HBE.out.os, HBE.out.tape, HBE.out.output, HBE.out.size, HBE.out.block⟩, Nat.le_refl _⟩
      case hop =>
        intro i o L t w' hil ho hLi hx hdep K hK
        obtain ⟨hx14, hxB, hxS⟩ := hx
        have cX : w'.cell? ⟨b0, off + k, none⟩ = some (.int .i64 x) := by rw [hxB.cell (p := ⟨b0, off + k, none⟩) hb0]; exact HCX.out
        have cY : w'.cell? ⟨b1, off' + k, none⟩ = some (.int .i64 y) := by rw [hxB.cell (p := ⟨b1, off' + k, none⟩) hb1]; exact HCY.out
        have RX : Hid (∀ j, j ≠ 11 → ∀ ww, Below w'.heap.size w' ww → ((updK L j 11 = false → Below wr.heap.size wr ww) ∧ Below w.heap.size w ww ∧ wr.heap.size ≤ ww.heap.size)) := fun j hj ww hb =>
          ⟨fun hL => (hx14 (by simpa [updK, Ne.symm hj] using hL)).trans (hb.mono hxS), hxB.trans (hb.mono hxB.size), by have := hb.size; omega⟩
        have RR : Hid (∀ j, j ≠ 11 → ((updK L j 11 = false → Below wr.heap.size wr w') ∧ Below w.heap.size w w' ∧ wr.heap.size ≤ w'.heap.size)) := fun j hj => RX.out j hj w' (Below.refl _ _)
        have RM : Hid (∀ j : Nat, j ≠ 11 → Below w'.heap.size w' w') := fun _ _ => Below.refl _ _
        have H14 : Hid (L 11 = false → Below wr.heap.size wr w') := hx14
        have HXB : Hid (Below w.heap.size w w') := hxB
        clear hx14 hxB
        obtain rfl | rfl | rfl | rfl | rfl | rfl | rfl | rfl | rfl | rfl | rfl | rfl : i = 0 ∨ i = 1 ∨ i = 2 ∨ i = 3 ∨ i = 4 ∨ i = 5 ∨ i = 6 ∨ i = 7 ∨ i = 8 ∨ i = 9 ∨ i = 10 ∨ i = 11 := by omega
        all_goals (simp at ho; subst ho)
        · clear hdep
          go_simp
          exact hK w' u5 rfl (RR.out 0 (by decide)) (RM.out 0)
        · clear hdep
          go_simp
          exact hK w' (.slice (some ⟨b0, off, none⟩) 16 cap) rfl (RR.out 1 (by decide)) (RM.out 1)
        · clear hdep
          go_simp
          exact hK w' (.int .i64 k) rfl (RR.out 2 (by decide)) (RM.out 2)
        · have d1 : t 1 = _ := hdep ⟨1, .data⟩ (by simp) rfl
          have d2 : t 2 = _ := hdep ⟨2, .data⟩ (by simp) rfl
          clear hdep
          go_simp
          simpa [upd, d1, d2] using hK w' (.pointer (some ⟨b0, off + k, none⟩)) rfl (RR.out 3 (by decide)) (RM.out 3)
        · have d3 : t 3 = _ := hdep ⟨3, .data⟩ (by simp) rfl
          clear hdep
          go_simp
          simpa [upd, d3] using hK w' (.int .i64 x) rfl (RR.out 4 (by decide)) (RM.out 4)
        · clear hdep
          go_simp
          exact hK w' (.slice (some ⟨b1, off', none⟩) 16 cap') rfl (RR.out 5 (by decide)) (RM.out 5)
        · clear hdep
          go_simp
          exact hK w' (.int .i64 k) rfl (RR.out 6 (by decide)) (RM.out 6)
        · have d5 : t 5 = _ := hdep ⟨5, .data⟩ (by simp) rfl
          have d6 : t 6 = _ := hdep ⟨6, .data⟩ (by simp) rfl
          clear hdep
          go_simp
          simpa [upd, d5, d6] using hK w' (.pointer (some ⟨b1, off' + k, none⟩)) rfl (RR.out 7 (by decide)) (RM.out 7)
        · have d7 : t 7 = _ := hdep ⟨7, .data⟩ (by simp) rfl
          clear hdep
          go_simp
          simpa [upd, d7] using hK w' (.int .i64 y) rfl (RR.out 8 (by decide)) (RM.out 8)
        · have d4 : t 4 = _ := hdep ⟨4, .data⟩ (by simp) rfl
          have d8 : t 8 = _ := hdep ⟨8, .data⟩ (by simp) rfl
          clear hdep
          go_simp
          simpa [upd, d4, d8, HWR.out] using hK w' (.int .i64 (x + y)) rfl (RR.out 9 (by decide)) (RM.out 9)
        · have d9 : t 9 = _ := hdep ⟨9, .data⟩ (by simp) rfl
          clear hdep
          have hK' := hK (w'.alloc (.cells #[.int .i64 (x + y)] 2)) (.slice (some ⟨w'.heap.size, 0, none⟩) 1 1) (fun _ => ⟨w'.heap.size, rfl, by simp, cell_of_row _ _ _ _ _ _ (heap_alloc_new _ _)⟩) (RX.out 10 (by decide) _ (below_new3 _ _)) (fun _ => below_new3 _ _)
          clear hK
          go_simp
          simpa [upd, d9] using hK'
        · have d0 : t 0 = _ := hdep ⟨0, .data⟩ (by simp) rfl
          have d10 := hdep ⟨10, .data⟩ (by simp) rfl
          obtain ⟨g', e10, hg', cc0⟩ := d10 hLi
          clear hdep d10
          have hO := HO.out.grow (H14.out hLi)
          refine wp_appI (a := _) _ ktI _ _ rfl w.heap.size _ zs (by first | exact d0 | (simp [d0]; done)) hO ⟨g', 0, none⟩ 1 1 [x + y] (by first | exact e10 | (simp [e10]; done)) rfl ?_ ?_ ?_ ?_
          · intro j hj
            obtain rfl : j = 0 := by omega
            rw [Addr.add_lit]; exact cc0
          · rw [HTL.out]; omega
          · exact HXB.out.size
          · intro v' w9 hown' hbel'
            exact hK w9 v' hown' ⟨fun h => by simp [updK] at h, HXB.out.trans hbel', by have := hbel'.size; have := HXB.out.size; omega⟩ (fun h => absurd rfl h)
      case hend =>
        intro o L t w' ho hx hg K hK
        simp at ho; subst ho
        obtain ⟨hx14, hxB, hxS⟩ := hx
        have O14 : OwnI w' w.heap.size (t 11) (zs ++ [x + y]) := hg 11 (by decide)
        have HXB : Hid (Below w.heap.size w w') := hxB
        have HO14 : Hid (OwnI w' w.heap.size (t 11) ((addF xs ys).take (k + 1))) := by rw [HTK.out]; exact O14
        clear hg O14 hx14 hxB hxS
        go_simp
        refine hK _ _ ?_
        go_wp2
        go_roundw
        case rel => exact ⟨k + 1, by omega, by go_num, HO14.out, HXB.out⟩
        case measure => simp [intOf]; omega
    · have hk16 : k = 16 := by omega
      have ho : OwnI wr w.heap.size u5 (addF xs ys) := by rw [hk16, List.take_of_length_le (by rw [addF_len]; decide)] at hown; exact hown
      obtain ⟨g, c, rfl, hg, hg', hA⟩ := ho.at_
      rw [addF_len]
      clear ho hown
      have hlt' : ¬ (k : Int) < 16 := by omega
      go_wp2_with fail
      refine (carry_any _ c (addF xs ys) _ (addF_len _ _) hA 131400 3 HB1.out (by decide) (by decide) (by decide) (by decide)).mono ?_
      rintro e w2 h2
      have HP : Hid (FeP w ((fv xs + fv ys) % fp) e w2) := by
        obtain ⟨g2, c2, rfl, p1, p2, p3, p4⟩ := h2.fe HT.out.1 HT.out.2
        exact ⟨g2, c2, rfl, by have := hbel.size; omega, p2, p3, hbel.trans (p4.mono hbel.size)⟩
      obtain ⟨g2, c2, rfl, _⟩ := h2
      clear hA hbel hk16
      go_wp2
      go_ret
      exact HP.out

def subF (xs ys : List Int) : List Int := (List.range 16).map fun i => xs.getD i 0 - ys.getD i 0
theorem subF_len (xs ys : List Int) : (subF xs ys).length = 16 := by simp [subF]
theorem subF_bd {xs ys : List Int} (hx : R xs) (hy : R ys) : Bd 131400 (subF xs ys) := by
  intro i
  by_cases h : i < 16
  · rw [show (subF xs ys).getD i 0 = _ from rget _ i h]; have := hx.2 i; have := hy.2 i; omega
  · rw [getD_past (by rw [subF_len]; omega)]; omega
theorem subF_fv {xs ys : List Int} (hx : R xs) (hy : R ys) : fv (subF xs ys) = (fv xs - fv ys) % fp := by
  unfold fv subF
  have e := val_lin 65536 (fun i => xs.getD i 0) (fun i => ys.getD i 0) 16 (-1)
  rw [show (fun i => xs.getD i 0 - ys.getD i 0) = fun i => xs.getD i 0 + -1 * ys.getD i 0 from by funext i; omega, e, ← val_eq_range 65536 xs 16 hx.1, ← val_eq_range 65536 ys 16 hy.1]
  rw [← Int.sub_emod]
  congr 1; omega

set_option maxHeartbeats 2000000 in
theorem fsub_any (a a' : Option Addr) (cap cap' : Nat) (x y : Int) (w : World) (ha : FeA w a x) (ha' : FeA w a' y) :
    Calls Try.prog 91 #[.slice a 16 cap, .slice a' 16 cap'] w (FeP w ((x - y) % fp)) := by
  obtain ⟨xs, hA, hR, rfl⟩ := ha
  obtain ⟨ys, hA', hR', rfl⟩ := ha'
  obtain ⟨b0, off, rfl, hb0, hc⟩ := hA.get (by have := hR.1; omega)
  obtain ⟨b1, off', rfl, hb1, hc'⟩ := hA'.get (by have := hR'.1; omega)
  obtain ⟨t1, t2⟩ := one_R (subF_len xs ys) (subF_bd hR hR')
  have HT : Hid (R (carryL (subF xs ys)) ∧ fv (carryL (subF xs ys)) = (fv xs - fv ys) % fp) := ⟨t1, by rw [t2, subF_fv hR hR']⟩
  have HB1 : Hid (Bd 131400 (subF xs ys)) := subF_bd hR hR'
  have HC : Hid (∀ i, i < 16 → w.cell? ⟨b0, off + i, none⟩ = some (.int .i64 (xs.getD i 0))) := fun i hi => hc i (by have := hR.1; omega)
  have HC' : Hid (∀ i, i < 16 → w.cell? ⟨b1, off' + i, none⟩ = some (.int .i64 (ys.getD i 0))) := fun i hi => hc' i (by have := hR'.1; omega)
  have HR : Hid (R xs ∧ R ys) := ⟨hR, hR'⟩
  clear t1 t2 hc hc' hA hA' hR hR'
  go_enter Try.func91, Try.ntmps91
  go_wp2
  go_loopw [5, 6] (fun v i wr => ∃ k : Nat, k ≤ 16 ∧ i = .int .i64 k ∧ OwnI wr w.heap.size v ((subF xs ys).take k) ∧ Below w.heap.size w wr) (fun _ i _ => 16 - (intOf i).toNat)
  case atStart => exact ⟨0, by decide, rfl, OwnK.empty _ _ (Nat.le_refl _), (Below.refl _ _).alloc (Nat.le_refl _) _⟩
  case round =>
    obtain ⟨k, hk, rfl, hown, hbel⟩ := hrel
    by_cases hlt : k < 16
    · have hlt' : (k : Int) < 16 := by omega
      have HO : Hid (OwnI wr w.heap.size u5 ((subF xs ys).take k)) := hown
      have HBE : Hid (Below w.heap.size w wr) := hbel
      have hx := (HR.out.1).2 k
      have hy := (HR.out.2).2 k
      obtain ⟨x0, x1⟩ := hx
      obtain ⟨y0, y1⟩ := hy
      have HTK : Hid ((subF xs ys).take (k + 1) = (subF xs ys).take k ++ [xs.getD k 0 - ys.getD k 0]) := by
        show _ = _
        have e : (subF xs ys).getD k 0 = xs.getD k 0 - ys.getD k 0 := rget _ k hlt
        rw [← e, List.take_succ_eq_append_getElem (by rw [subF_len]; exact hlt), List.getD_eq_getElem?_getD, List.getElem?_eq_getElem (by rw [subF_len]; exact hlt)]; rfl
      have HTL : Hid (((subF xs ys).take k).length = k) := by show _ = _; rw [List.length_take, subF_len]; omega
      have HCX : Hid (w.cell? ⟨b0, off + k, none⟩ = some (.int .i64 (xs.getD k 0))) := HC.out k hlt
      have HCY : Hid (w.cell? ⟨b1, off' + k, none⟩ = some (.int .i64 (ys.getD k 0))) := HC'.out k hlt
      have hsz := hbel.size
      clear hown hbel
      generalize (subF xs ys).take k = zs at *
      generalize xs.getD k 0 = x at *
      generalize ys.getD k 0 = y at *
      have HWR : Hid (IntKind.i64.wrap (x - y) = x - y) := by show _ = _; rw [IntKind.wrap_i64]; omega
      go_wp2
      refine wp_region_any (by kernel_rfl) ?_
      refine wpAny_slotsK 12 (fun i w w' => i ≠ 11 → Below w.heap.size w w') (frame := (fun (c0 c1 c2 c3 c4 c5 c6 c7 c8 c9 c10 c11 c24 c25 : Value) => fun (t : Nat → Value) => ({ tmps := List.toArray (c0 :: c1 :: c2 :: c3 :: c4 :: c5 :: c6 :: c7 :: c8 :: c9 :: c10 :: c11 :: t 0 :: t 1 :: t 2 :: t 3 :: t 4 :: t 5 :: t 6 :: t 7 :: t 8 :: t 9 :: t 10 :: t 11 :: c24 :: c25 :: []), defers := [] } : Act)) _ _ _ _ _ _ _ _ _ _ _ _ _ _)
        (Ext := fun L w' => (L 11 = false → Below wr.heap.size wr w') ∧ Below w.heap.size w w' ∧ wr.heap.size ≤ w'.heap.size)
        (Good := GAd w.heap.size u5 (.slice (some ⟨b0, off, none⟩) 16 cap) (.slice (some ⟨b1, off', none⟩) 16 cap') ⟨b0, off + k, none⟩ ⟨b1, off' + k, none⟩ k x y (x - y) zs) (by rfl) (by kernel_rfl) (GAd_stab _ _ _ _ _ _ _ _ _ _ _) (by kernel_rfl) (by kernel_rfl) ?hop ?hend _ _ ((fun (x0 x1 x2 x3 x4 x5 x6 x7 x8 x9 x10 x11 : Value) => fun (i : Nat) => if i = 0 then x0 else if i = 1 then x1 else if i = 2 then x2 else if i = 3 then x3 else if i = 4 then x4 else if i = 5 then x5 else if i = 6 then x6 else if i = 7 then x7 else if i = 8 then x8 else if i = 9 then x9 else if i = 10 then x10 else if i = 11 then x11 else undef) _ _ _ _ _ _ _ _ _ _ _ _) _ (by simp) (by simp) ?ext ?start (by simp)
      case start => intro i hi h; exact absurd h (by rw [Array.getD_eq_getD_getElem?, Array.getElem?_replicate]; split <;> simp)
      case ext => exact ⟨fun _ => (Below.refl _ _).drew, ⟨HBE.out.os, HBE.out.tape, HBE.out.output, HBE.out.size, HBE.out.block⟩, Nat.le_refl _⟩
      case hop =>
        intro i o L t w' hil ho hLi hx hdep K hK
        obtain ⟨hx14, hxB, hxS⟩ := hx
        have cX : w'.cell? ⟨b0, off + k, none⟩ = some (.int .i64 x) := by rw [hxB.cell (p := ⟨b0, off + k, none⟩) hb0]; exact HCX.out
        have cY : w'.cell? ⟨b1, off' + k, none⟩ = some (.int .i64 y) := by rw [hxB.cell (p := ⟨b1, off' + k, none⟩) hb1]; exact HCY.out
        have RX : Hid (∀ j, j ≠ 11 → ∀ ww, Below w'.heap.size w' ww → ((updK L j 11 = false → Below wr.heap.size wr ww) ∧ Below w.heap.size w ww ∧ wr.heap.size ≤ ww.heap.size)) := fun j hj ww hb =>
          ⟨fun hL => (hx14 (by simpa [updK, Ne.symm hj] using hL)).trans (hb.mono hxS), hxB.trans (hb.mono hxB.size), by have := hb.size; omega⟩
        have RR : Hid (∀ j, j ≠ 11 → ((updK L j 11 = false → Below wr.heap.size wr w') ∧ Below w.heap.size w w' ∧ wr.heap.size ≤ w'.heap.size)) := fun j hj => RX.out j hj w' (Below.refl _ _)
        have RM : Hid (∀ j : Nat, j ≠ 11 → Below w'.heap.size w' w') := fun _ _ => Below.refl _ _
        have H14 : Hid (L 11 = false → Below wr.heap.size wr w') := hx14
        have HXB : Hid (Below w.heap.size w w') := hxB
        clear hx14 hxB
        obtain rfl | rfl | rfl | rfl | rfl | rfl | rfl | rfl | rfl | rfl | rfl | rfl : i = 0 ∨ i = 1 ∨ i = 2 ∨ i = 3 ∨ i = 4 ∨ i = 5 ∨ i = 6 ∨ i = 7 ∨ i = 8 ∨ i = 9 ∨ i = 10 ∨ i = 11 := by omega
        all_goals (simp at ho; subst ho)
        · clear hdep
          go_simp
          exact hK w' u5 rfl (RR.out 0 (by decide)) (RM.out 0)
        · clear hdep
          go_simp
          exact hK w' (.slice (some ⟨b0, off, none⟩) 16 cap) rfl (RR.out 1 (by decide)) (RM.out 1)
        · clear hdep
          go_simp
          exact hK w' (.int .i64 k) rfl (RR.out 2 (by decide)) (RM.out 2)
        · have d1 : t 1 = _ := hdep ⟨1, .data⟩ (by simp) rfl
          have d2 : t 2 = _ := hdep ⟨2, .data⟩ (by simp) rfl
          clear hdep
          go_simp
          simpa [upd, d1, d2] using hK w' (.pointer (some ⟨b0, off + k, none⟩)) rfl (RR.out 3 (by decide)) (RM.out 3)
        · have d3 : t 3 = _ := hdep ⟨3, .data⟩ (by simp) rfl
          clear hdep
          go_simp
          simpa [upd, d3] using hK w' (.int .i64 x) rfl (RR.out 4 (by decide)) (RM.out 4)
        · clear hdep
          go_simp
          exact hK w' (.slice (some ⟨b1, off', none⟩) 16 cap') rfl (RR.out 5 (by decide)) (RM.out 5)
        · clear hdep
          go_simp
          exact hK w' (.int .i64 k) rfl (RR.out 6 (by decide)) (RM.out 6)
        · have d5 : t 5 = _ := hdep ⟨5, .data⟩ (by simp) rfl
          have d6 : t 6 = _ := hdep ⟨6, .data⟩ (by simp) rfl
          clear hdep
          go_simp
          simpa [upd, d5, d6] using hK w' (.pointer (some ⟨b1, off' + k, none⟩)) rfl (RR.out 7 (by decide)) (RM.out 7)
        · have d7 : t 7 = _ := hdep ⟨7, .data⟩ (by simp) rfl
          clear hdep
          go_simp
          simpa [upd, d7] using hK w' (.int .i64 y) rfl (RR.out 8 (by decide)) (RM.out 8)
        · have d4 : t 4 = _ := hdep ⟨4, .data⟩ (by simp) rfl
          have d8 : t 8 = _ := hdep ⟨8, .data⟩ (by simp) rfl
          clear hdep
          go_simp
          simpa [upd, d4, d8, HWR.out] using hK w' (.int .i64 (x - y)) rfl (RR.out 9 (by decide)) (RM.out 9)
        · have d9 : t 9 = _ := hdep ⟨9, .data⟩ (by simp) rfl
          clear hdep
          have hK' := hK (w'.alloc (.cells #[.int .i64 (x - y)] 2)) (.slice (some ⟨w'.heap.size, 0, none⟩) 1 1) (fun _ => ⟨w'.heap.size, rfl, by simp, cell_of_row _ _ _ _ _ _ (heap_alloc_new _ _)⟩) (RX.out 10 (by decide) _ (below_new3 _ _)) (fun _ => below_new3 _ _)
          clear hK
          go_simp
          simpa [upd, d9] using hK'
        · have d0 : t 0 = _ := hdep ⟨0, .data⟩ (by simp) rfl
          have d10 := hdep ⟨10, .data⟩ (by simp) rfl
          obtain ⟨g', e10, hg', cc0⟩ := d10 hLi
          clear hdep d10
          have hO := HO.out.grow (H14.out hLi)
          refine wp_appI (a := _) _ ktI _ _ rfl w.heap.size _ zs (by first | exact d0 | (simp [d0]; done)) hO ⟨g', 0, none⟩ 1 1 [x - y] (by first | exact e10 | (simp [e10]; done)) rfl ?_ ?_ ?_ ?_
          · intro j hj
            obtain rfl : j = 0 := by omega
            rw [Addr.add_lit]; exact cc0
          · rw [HTL.out]; omega
          · exact HXB.out.size
          · intro v' w9 hown' hbel'
            exact hK w9 v' hown' ⟨fun h => by simp [updK] at h, HXB.out.trans hbel', by have := hbel'.size; have := HXB.out.size; omega⟩ (fun h => absurd rfl h)
      case hend =>
        intro o L t w' ho hx hg K hK
        simp at ho; subst ho
        obtain ⟨hx14, hxB, hxS⟩ := hx
        have O14 : OwnI w' w.heap.size (t 11) (zs ++ [x - y]) := hg 11 (by decide)
        have HXB : Hid (Below w.heap.size w w') := hxB
        have HO14 : Hid (OwnI w' w.heap.size (t 11) ((subF xs ys).take (k + 1))) := by rw [HTK.out]; exact O14
        clear hg O14 hx14 hxB hxS
        go_simp
        refine hK _ _ ?_
        go_wp2
        go_roundw
        case rel => exact ⟨k + 1, by omega, by go_num, HO14.out, HXB.out⟩
        case measure => simp [intOf]; omega
    · have hk16 : k = 16 := by omega
      have ho : OwnI wr w.heap.size u5 (subF xs ys) := by rw [hk16, List.take_of_length_le (by rw [subF_len]; decide)] at hown; exact hown
      obtain ⟨g, c, rfl, hg, hg', hA⟩ := ho.at_
      rw [subF_len]
      clear ho hown
      have hlt' : ¬ (k : Int) < 16 := by omega
      go_wp2_with fail
      refine (carry_any _ c (subF xs ys) _ (subF_len _ _) hA 131400 3 HB1.out (by decide) (by decide) (by decide) (by decide)).mono ?_
      rintro e w2 h2
      have HP : Hid (FeP w ((fv xs - fv ys) % fp) e w2) := by
        obtain ⟨g2, c2, rfl, p1, p2, p3, p4⟩ := h2.fe HT.out.1 HT.out.2
        exact ⟨g2, c2, rfl, by have := hbel.size; omega, p2, p3, hbel.trans (p4.mono hbel.size)⟩
      obtain ⟨g2, c2, rfl, _⟩ := h2
      clear hA hbel hk16
      go_wp2
      go_ret
      exact HP.out
end Go.Proofs.Ythghkfncpdnpoac
