/-
  Own work: DecodeSnap, by the model (written by wip/mkdks.py).
-/
import Derived.Test.YtmnoelfabldpfaaDkJ
import Derived.Laws.BytesArg
import Derived.Deep.Cut
namespace Go.Proofs.Ytmnoelfabldpfaa
open Go.ChangeShapes Go.WideShapes Go.ChangeAt Go.RowKit
set_option linter.unusedVariables false

set_option maxHeartbeats 400000 in
theorem get_any (b off n cap : Nat) (p : Int) (zs : List Int) (w : World) (hc : ∀ i, i < zs.length → w.cell? ⟨b, off + i, none⟩ = some (.int .u8 (zs.getD i 0))) (hz : Byte zs) (hl : zs.length = n) (hn : n ≤ 1048576) (hp : 0 ≤ p) (hp' : p + 4 ≤ n) :
    Calls Try.prog 19 #[.slice (some ⟨b, off, none⟩) n cap, .int .i64 p] w fun e w' => e = .returned (.int .u32 (num4 zs p.toNat)) ∧ Below w.heap.size w w' := by
  obtain ⟨p, rfl⟩ := Int.eq_ofNat_of_zero_le hp
  have c0 := hc p (by omega)
  have c1 := hc (p + 1) (by omega)
  have c2 := hc (p + 2) (by omega)
  have c3 := hc (p + 3) (by omega)
  have b0 := hz.get p
  have b1 := hz.get (p + 1)
  have b2 := hz.get (p + 2)
  have b3 := hz.get (p + 3)
  have HN : Hid (num4 zs p = zs.getD p 0 + 256 * zs.getD (p + 1) 0 + 65536 * zs.getD (p + 2) 0 + 16777216 * zs.getD (p + 3) 0) := rfl
  generalize zs.getD p 0 = x0 at *
  generalize zs.getD (p + 1) 0 = x1 at *
  generalize zs.getD (p + 2) 0 = x2 at *
  generalize zs.getD (p + 3) 0 = x3 at *
  clear hc
  obtain ⟨b01, b02⟩ := b0
  obtain ⟨b11, b12⟩ := b1
  obtain ⟨b21, b22⟩ := b2
  obtain ⟨b31, b32⟩ := b3
  have g0 : (p : Int) < (n : Int) := by omega
  have g1 : (p : Int) + 1 < (n : Int) := by omega
  have g2 : (p : Int) + 2 < (n : Int) := by omega
  have g3 : (p : Int) + 3 < (n : Int) := by omega
  go_enter Try.func19, Try.ntmps19
  go_wp2
  go_quiet (fail)
  go_wp2
  go_ret
  exact ⟨ret_int (by rw [Int.toNat_natCast, HN.out]), ⟨rfl, rfl, rfl, Nat.le_refl _, fun _ _ => rfl⟩⟩

theorem str_inj {xs ys : List Int} (hx : Byte xs) (hy : Byte ys) : ((strOfNums xs).toList == (strOfNums ys).toList) = decide (xs = ys) := by
  rw [Bool.eq_iff_iff, decide_eq_true_eq, beq_iff_eq, ByteArray.toList_eq, ByteArray.toList_eq, strOfNums_data, strOfNums_data]
  constructor
  · intro h
    have hl : xs.length = ys.length := by simpa using congrArg List.length h
    apply List.ext_getElem hl
    intro i h1 h2
    have e : (xs.map fun n => UInt8.ofNat n.toNat)[i]? = (ys.map fun n => UInt8.ofNat n.toNat)[i]? := by rw [h]
    simp [h1, h2] at e
    have e' := congrArg UInt8.toNat e
    have bx := hx xs[i] (List.getElem_mem h1)
    have by' := hy ys[i] (List.getElem_mem h2)
    simp only [UInt8.toNat_ofNat'] at e'
    omega
  · rintro rfl; rfl

theorem wp_app1 (w : World) {o : Oper} {a : Act} {K : Act → World → Prop} {Q : Exit → Act → World → Prop} (sx x : Operand)
    (hop : o.op = Op.call { callee := Callee.builtin Builtin.append, args := #[sx, x], argTypes := #[24, 24] }) (B : Nat) (v : Value) (xs : List Int) (hs : a.eval sx = v) (hown : Iow B w v xs)
    (wb : World) (z : Int) (hw : w = wb.alloc (Obj.cells #[.int .i64 z] 2)) (hx : a.eval x = .slice (some ⟨wb.heap.size, 0, none⟩) 1 1) (hm : xs.length ≤ 1048576) (hB : B ≤ w.heap.size)
    (hK : ∀ v' w', Iow B w' v' (xs ++ [z]) → Below B w w' → K (a.put o.dst v') w') : o.wp Try.prog a w K Q := by
  obtain ⟨i0, hi, hz0, hz1, hz2⟩ := info_parts Try.infoI64q
  obtain ⟨v', w', hr, h2, h3, h4, h5⟩ := run_append_own_at (P := Try.prog) w B 24 o.type 2 i0 (.int .i64 0) 1 8 Try.underlying24 hi hz0 hz1 hz2 rfl (by decide) v xs.length _ hown ⟨wb.heap.size, 0, none⟩ 1 1 [.int .i64 z] rfl (by rw [hw]; exact cell_one_new wb _ _) (by simp [Value.oneCell']) (by unfold maxLen; omega) (by omega) hB
  have hk := hK v' w' (by unfold Iow; rw [List.map_append, List.length_append]; exact h2) ((Below.refl _ _).grown h3 hB hown.ownBlock)
  unfold Oper.wp execOp
  simp only [hop, resolve, invoke, builtin, Sem.run_bind, Sem.run_pure, Result.andThen_ok, List.map_toArray, List.map_cons, List.map_nil, hs, hx, hr]
  exact hk
theorem row_setC {w : World} {g i : Nat} {cs cs' : Array Value} {t : TypeId} (v : Value) (h : w.heap[g]? = some (.cells cs t (0, 0))) (he : cs.setIfInBounds i v = cs') : (w.setCell ⟨g, i, none⟩ v).heap[g]? = some (.cells cs' t (0, 0)) := by
  rw [heap_setCell_same w g i cs t v h, he]

set_option maxHeartbeats 1000000 in
theorem snE_byte {gn tl : Int} {D U : List Int} (ug : U32 gn) (ut : U32 tl) : Byte (snE gn tl D U) := by
  unfold snE
  by_cases hs : SnP gn tl D U
  · rw [snB_yes hs]
    have hb := BODY_byte (gn := gn) (tl := tl) (D := D) (U := U) (nD := D.length) ug ut (fun z hz => hs.2.2.2.1.range hz) hs.2.2.2.2.1
    exact Byte.app hb (Byte.app (four_byte _ (crc_bd _)) (Byte.app (four_byte gn ug) Byte.nil))
  · rw [snB_no hs]; exact Byte.nil
theorem BXS.low {w wr w' : World} {H : Nat} (h : BXS w wr) (b : Below H wr w') (hH : w.heap.size < H) : BXS w w' := ⟨h.below.trans (b.mono (by omega)), by rw [b.block _ hH]; exact h.box⟩
theorem BXS.wr {w wr w' : World} {S : Nat} (h : BXS w wr) (hw : Wr S wr w') (hS : w.heap.size < S) : BXS w w' := ⟨h.below.trans (hw.below (by omega)), by rw [hw.block _ (by omega)]; exact h.box⟩
theorem BXS.drew {w wr : World} (h : BXS w wr) : BXS w wr.drew := ⟨⟨h.below.os, h.below.tape, h.below.output, h.below.size, h.below.block⟩, h.box⟩
/-- While the denied serials are read. -/
structure DX (w : World) (S : Nat) (gn tl : Int) (zs : List Int) (k : Nat) (v : Value) (wr : World) : Prop where
  bx : BXS w wr
  s : wr.heap[S]? = some (.cells #[.int .u32 gn, .int .u32 tl, v, .slice none 0 0] 26 (0, 0))
  d : Iow (S + 1) wr v (dkD zs k)
  hw : w.heap.size < S
theorem DX.lt {w : World} {S : Nat} {gn tl : Int} {zs : List Int} {k : Nat} {v : Value} {wr : World} (h : DX w S gn tl zs k v wr) : S < wr.heap.size := (Array.getElem?_eq_some_iff.1 h.s).1
/-- While the used ones are read. -/
structure DY (w : World) (S H : Nat) (gn tl : Int) (aD : Option Addr) (nD cD : Nat) (D : List Int) (P : Nat → Bool) (k : Nat) (v : Value) (wr : World) : Prop where
  bx : BXS w wr
  s : wr.heap[S]? = some (.cells #[.int .u32 gn, .int .u32 tl, .slice aD nD cD, v] 26 (0, 0))
  d : At .i64 wr aD D
  l : ∀ ad, aD = some ad → S < ad.block ∧ ad.block < H
  u : Iow H wr v (upTo P k)
  hz : H ≤ wr.heap.size
  hs : S < H
  hw : w.heap.size < S
theorem DY.step {w wr w' : World} {S H : Nat} {gn tl : Int} {aD : Option Addr} {nD cD : Nat} {D : List Int} {P : Nat → Bool} {k : Nat} {v v' : Value} (h : DY w S H gn tl aD nD cD D P k v wr) (b : Below H wr w') (hi : Iow H w' v' (upTo P (k + 1))) : DY w S H gn tl aD nD cD D P (k + 1) v' (w'.setCell ⟨S, 3, none⟩ v') := by
  have hwr : Wr S w' (w'.setCell ⟨S, 3, none⟩ v') := (Wr.refl S w').setCell 3 _
  have hs' : w'.heap[S]? = some (.cells #[.int .u32 gn, .int .u32 tl, .slice aD nD cD, v] 26 (0, 0)) := by rw [b.block S h.hs]; exact h.s
  refine ⟨(h.bx.low b (Nat.lt_trans h.hw h.hs)).wr hwr h.hw, row_setC (i := 3) _ hs' rfl, ?_, h.l, hi.wr hwr h.hs, ?_, h.hs, h.hw⟩
  · exact (h.d.keep b.size (fun ad e _ => b.block _ (h.l ad e).2)).keep (by rw [hwr.size]; exact Nat.le_refl _) (fun ad e _ => hwr.block _ (by have := h.l ad e; omega))
  · rw [hwr.size]; exact Nat.le_trans h.hz b.size
/-- While one is appended: f1, f15, f16, f18 say what is through. -/
def EAP (w W : World) (S : Nat) (gn tl : Int) (l : Value) (xs : List Int) (z : Int) (f1 f15 f16 f18 : Bool) (v15 v16 : Value) (w' : World) : Prop :=
  BXS w w' ∧ (f16 = true → f15 = true ∧ f1 = true) ∧ (f18 = true → f16 = true) ∧
  (if f18 = true then ∃ v', w'.heap[S]? = some (.cells #[.int .u32 gn, .int .u32 tl, v', .slice none 0 0] 26 (0, 0)) ∧ Iow (S + 1) w' v' (xs ++ [z])
   else if f16 = true then Iow (S + 1) w' v16 (xs ++ [z]) ∧ w'.heap[S]? = some (.cells #[.int .u32 gn, .int .u32 tl, l, .slice none 0 0] 26 (0, 0))
   else if f15 = true then w' = W.alloc (Obj.cells #[.int .i64 z] 2) ∧ v15 = .slice (some ⟨W.heap.size, 0, none⟩) 1 1
   else w' = W)
section
variable {w W w' w'' : World} {S : Nat} {gn tl : Int} {l : Value} {xs : List Int} {z : Int} {f1 f15 f16 f18 : Bool} {v15 v16 v : Value}
theorem EAP.load (h : EAP w W S gn tl l xs z false f15 f16 f18 v15 v16 w') (hS : S < W.heap.size) (hs : W.heap[S]? = some (.cells #[.int .u32 gn, .int .u32 tl, l, .slice none 0 0] 26 (0, 0))) : w'.heap[S]? = some (.cells #[.int .u32 gn, .int .u32 tl, l, .slice none 0 0] 26 (0, 0)) ∧ EAP w W S gn tl l xs z true f15 f16 f18 v15 v16 w' := by
  obtain ⟨h1, h2, h3, h4⟩ := h
  have e16 : f16 = false := by
    cases f16 with
    | false => rfl
    | true => exact absurd (h2 rfl).2 (by decide)
  have e18 : f18 = false := by
    cases f18 with
    | false => rfl
    | true => exact absurd (h3 rfl) (by rw [e16]; decide)
  refine ⟨?_, h1, fun q => ⟨(h2 q).1, rfl⟩, h3, h4⟩
  rw [e18, e16, if_neg (by decide), if_neg (by decide)] at h4
  split at h4
  · rw [h4.1, (below_new W _).block S hS]; exact hs
  · rw [h4]; exact hs
theorem EAP.build (h : EAP w W S gn tl l xs z f1 false f16 f18 v15 v16 w') : w' = W ∧ EAP w W S gn tl l xs z f1 true f16 f18 (.slice (some ⟨W.heap.size, 0, none⟩) 1 1) v16 (W.alloc (Obj.cells #[.int .i64 z] 2)) := by
  obtain ⟨h1, h2, h3, h4⟩ := h
  have e16 : f16 = false := by
    cases f16 with
    | false => rfl
    | true => exact absurd (h2 rfl).1 (by decide)
  have e18 : f18 = false := by
    cases f18 with
    | false => rfl
    | true => exact absurd (h3 rfl) (by rw [e16]; decide)
  rw [e18, e16, if_neg (by decide), if_neg (by decide), if_neg (by decide)] at h4
  subst h4
  refine ⟨rfl, h1.call (below_new w' _), fun q => (by rw [e16] at q; cases q), h3, ?_⟩
  rw [e18, e16, if_neg (by decide), if_neg (by decide), if_pos rfl]
  exact ⟨rfl, rfl⟩
theorem EAP.app (h : EAP w W S gn tl l xs z f1 true false f18 v15 v16 w') (e1 : f1 = true) (hS : S < W.heap.size) (hs : W.heap[S]? = some (.cells #[.int .u32 gn, .int .u32 tl, l, .slice none 0 0] 26 (0, 0))) (hw : w.heap.size < S) : w' = W.alloc (Obj.cells #[.int .i64 z] 2) ∧ v15 = .slice (some ⟨W.heap.size, 0, none⟩) 1 1 ∧
    ∀ v9 w9, Iow (S + 1) w9 v9 (xs ++ [z]) → Below (S + 1) w' w9 → EAP w W S gn tl l xs z f1 true true f18 v15 v9 w9 := by
  obtain ⟨h1, h2, h3, h4⟩ := h
  have e18 : f18 = false := by
    cases f18 with
    | false => rfl
    | true => exact absurd (h3 rfl) (by decide)
  rw [e18, if_neg (by decide), if_neg (by decide), if_pos rfl] at h4
  obtain ⟨h4, h5⟩ := h4
  refine ⟨h4, h5, fun v9 w9 hio hb => ⟨h1.low hb (by omega), fun _ => ⟨rfl, e1⟩, fun _ => rfl, ?_⟩⟩
  rw [e18, if_neg (by decide), if_pos rfl]
  exact ⟨hio, by rw [hb.block S (by omega), h4, (below_new W _).block S hS]; exact hs⟩
theorem EAP.store (h : EAP w W S gn tl l xs z f1 f15 true false v15 v16 w') (hw : w.heap.size < S) : w'.heap[S]? = some (.cells #[.int .u32 gn, .int .u32 tl, l, .slice none 0 0] 26 (0, 0)) ∧ Iow (S + 1) w' v16 (xs ++ [z]) ∧
    EAP w W S gn tl l xs z f1 f15 true true v15 v16 (w'.setCell ⟨S, 2, none⟩ v16) := by
  obtain ⟨h1, h2, h3, h4⟩ := h
  rw [if_neg (by decide), if_pos rfl] at h4
  have hwr : Wr S w' (w'.setCell ⟨S, 2, none⟩ v16) := (Wr.refl S w').setCell 2 _
  refine ⟨h4.2, h4.1, h1.wr hwr hw, h2, fun _ => rfl, ?_⟩
  rw [if_pos rfl]
  exact ⟨v16, row_setC (i := 2) _ h4.2 rfl, h4.1.wr hwr (by omega)⟩
end
set_option maxRecDepth 100000 in
set_option maxHeartbeats 16000000 in
theorem sdk_yes (b off cap : Nat) (zs : List Int) (w : World) (hl : zs.length = 128) (hz : Byte zs) (hb : b < w.heap.size) (hc : ∀ i, i < zs.length → w.cell? ⟨b, off + i, none⟩ = some (.int .u8 (zs.getD i 0))) (h16 : zs.getD 6 0 ≤ 16) :
    Calls Try.prog 5 #[.slice (some ⟨b, off, none⟩) 128 cap] w fun e w' => ∃ v, e = .returned v ∧ DVW w.heap.size w' v (dkF zs) ∧ Below w.heap.size w w' := by
  have HB1 : Hid (BXS w (w.alloc (.cells #[.bool false, .int .u32 0, .int .u32 0, .slice none 0 0, .slice none 0 0] 28))) := BXS.start w
  have HZ : Hid (zs.length = 128 ∧ Byte zs) := ⟨hl, hz⟩
  have HBL : Hid (b < w.heap.size) := hb
  have HCC : Hid (∀ i, i < zs.length → w.cell? ⟨b, off + i, none⟩ = some (.int .u8 (zs.getD i 0))) := hc
  have HN16 : Hid (zs.getD 6 0 ≤ 16) := h16
  have HSN : Hid ((Try.prog.info? 26).map (·.size) = some 4) := by show _ = _; kernel_rfl
  have HSR : Hid ((Try.prog.info? 28).map (·.size) = some 5) := by show _ = _; kernel_rfl
  obtain ⟨n, hn6⟩ : ∃ n : Nat, zs.getD 6 0 = n := ⟨(zs.getD 6 0).toNat, by have := hz.get 6; omega⟩
  have HN : Hid (dkN zs = n) := by show _ = _; unfold dkN; omega
  have HC6 : Hid (w.cell? ⟨b, off + 6, none⟩ = some (.int .u8 (n : Int))) := by show _ = _; rw [hc 6 (by omega), hn6]
  have hn : n ≤ 16 := by omega
  have hn16 : ¬ ((n : Int) > 16) := by omega
  have HG0 : Hid (∀ ww, Below w.heap.size w ww → Calls Try.prog 19 #[.slice (some ⟨b, off, none⟩) 128 cap, .int .i64 0] ww fun e w' => e = .returned (.int .u32 (num4 zs 0)) ∧ Below ww.heap.size ww w') := fun ww bw => get_any b off 128 cap 0 zs ww (fun i hi => by rw [bw.cell (p := ⟨b, off + i, none⟩) hb]; exact hc i hi) hz hl (by decide) (by decide) (by decide)
  have HG8 : Hid (∀ ww, Below w.heap.size w ww → Calls Try.prog 19 #[.slice (some ⟨b, off, none⟩) 128 cap, .int .i64 8] ww fun e w' => e = .returned (.int .u32 (num4 zs 8)) ∧ Below ww.heap.size ww w') := fun ww bw => get_any b off 128 cap 8 zs ww (fun i hi => by rw [bw.cell (p := ⟨b, off + i, none⟩) hb]; exact hc i hi) hz hl (by decide) (by decide) (by decide)
  have HUU : Hid (U32 (num4 zs 0) ∧ U32 (num4 zs 8)) := ⟨num4_u32 zs hz 0, num4_u32 zs hz 8⟩
  obtain ⟨gn, hgn⟩ : ∃ gn, num4 zs 0 = gn := ⟨_, rfl⟩
  obtain ⟨tl, htl⟩ : ∃ tl, num4 zs 8 = tl := ⟨_, rfl⟩
  rw [hgn] at HG0 HUU
  rw [htl] at HG8 HUU
  have HGT : Hid (num4 zs 0 = gn ∧ num4 zs 8 = tl) := ⟨hgn, htl⟩
  have c6 : (w.alloc (.cells #[.bool false, .int .u32 0, .int .u32 0, .slice none 0 0, .slice none 0 0] 28)).cell? ⟨b, off + 6, none⟩ = some (.int .u8 (n : Int)) := ((below_new w _).cell (p := ⟨b, off + 6, none⟩) hb).trans HC6.out
  clear hl hz hb hc h16 hn6 hgn htl
  go_enter Try.func5, Try.ntmps5
  go_wp2_with fail
  clear c6 hn16
  generalize (w.alloc (.cells #[.bool false, .int .u32 0, .int .u32 0, .slice none 0 0, .slice none 0 0] 28)) = w1 at *
  refine (HG0.out w1 HB1.out.below).mono ?_
  rintro e w2 ⟨rfl, hb2⟩
  have HB2 : Hid (BXS w w2) := HB1.out.call hb2
  clear hb2
  go_wp2_with fail
  refine (HG8.out w2 HB2.out.below).mono ?_
  rintro e w3 ⟨rfl, hb3⟩
  have HB3 : Hid (BXS w w3) := HB2.out.call hb3
  clear hb3 HG0 HG8
  have HBX : Hid ((w3.alloc (.cells #[.int .u32 0, .int .u32 0, .slice none 0 0, .slice none 0 0] 26)).heap[w3.heap.size]? = some (.cells #[.int .u32 0, .int .u32 0, .slice none 0 0, .slice none 0 0] 26 (0, 0))) := heap_alloc_new w3 _
  go_upto_region 4 with (first
    | (refine wpList_store_row rfl 26 (.tmp 3) (.tmp 22) rfl w3.heap.size #[.int .u32 gn, .int .u32 tl, .slice none 0 0, .slice none 0 0] rfl rfl 26 _ HBX.out HSN.out rfl (all4s _ _ _ _ _ _ _ _) ?_)
    | fail)
  have hw4 := Wr.setRow w3.heap.size (w3.alloc (.cells #[.int .u32 0, .int .u32 0, .slice none 0 0, .slice none 0 0] 26)) #[.int .u32 gn, .int .u32 tl, .slice none 0 0, .slice none 0 0]
  have H0 : Hid (DX w w3.heap.size gn tl zs 0 (.slice none 0 0) ((w3.alloc (.cells #[.int .u32 0, .int .u32 0, .slice none 0 0, .slice none 0 0] 26)).setRow w3.heap.size #[.int .u32 gn, .int .u32 tl, .slice none 0 0, .slice none 0 0])) :=
    ⟨(HB3.out.call (below_new w3 _)).wr hw4 HB3.out.lt, setRow_heap _ _ _ _ _ _ HBX.out, Iow.nil _ _, HB3.out.lt⟩
  clear hw4 HBX
  generalize w3.heap.size = S at *
  generalize (w3.alloc (.cells #[.int .u32 0, .int .u32 0, .slice none 0 0, .slice none 0 0] 26)).setRow S #[.int .u32 gn, .int .u32 tl, .slice none 0 0, .slice none 0 0] = w4 at *
  go_wp2_with fail
  go_loopw [4] (fun i wr => ∃ (k : Nat) (v : Value), k ≤ n ∧ i = .int .i64 k ∧ DX w S gn tl zs k v wr) (fun i _ => n - (intOf i).toNat)
  case atStart => exact ⟨0, _, Nat.zero_le _, rfl, H0.out⟩
  case round =>
    clear H0
    obtain ⟨k, l, hk, rfl, hst⟩ := hrel
    have HD : Hid (DX w S gn tl zs k l wr) := hst
    have c6 : wr.cell? ⟨b, off + 6, none⟩ = some (.int .u8 (n : Int)) := (hst.bx.below.cell (p := ⟨b, off + 6, none⟩) HBL.out).trans HC6.out
    by_cases hlt : k < n
    · have hlt' : (k : Int) < n := by omega
      obtain ⟨A, hA⟩ : ∃ A, dkA k = A := ⟨_, rfl⟩
      have hA1 : A + 1 < 128 := by rw [← hA]; exact dkA_lt (by omega)
      obtain ⟨x, hx⟩ : ∃ x, zs.getD A 0 = x := ⟨_, rfl⟩
      obtain ⟨y, hy⟩ : ∃ y, zs.getD (A + 1) 0 = y := ⟨_, rfl⟩
      have HX0 : Hid (w.cell? ⟨b, off + A, none⟩ = some (.int .u8 x)) := by show _ = _; rw [HCC.out A (by rw [HZ.out.1]; omega), hx]
      have HY0 : Hid (w.cell? ⟨b, off + (A + 1), none⟩ = some (.int .u8 y)) := by show _ = _; rw [HCC.out (A + 1) (by rw [HZ.out.1]; omega), hy]
      have hx0 := HZ.out.2.get A
      have hy0 := HZ.out.2.get (A + 1)
      rw [hx] at hx0
      rw [hy] at hy0
      obtain ⟨hx0, hx1⟩ := hx0
      obtain ⟨hy0, hy1⟩ := hy0
      obtain ⟨z, hzz⟩ : ∃ z, x + 256 * y = z := ⟨_, rfl⟩
      have HNX : Hid (dkD zs (k + 1) = dkD zs k ++ [z]) := by show _ = _; rw [dkD_succ]; unfold dkS; rw [hA, hx, hy, hzz]
      have HZZ : Hid (x + 256 * y = z) := hzz
      have HAK : Hid (dkA k = A) := hA
      have HLD : Hid ((dkD zs k).length ≤ 1048576) := by show _ ≤ _; rw [dkD_len]; omega
      obtain ⟨W, hWW⟩ : ∃ W, wr.drew = W := ⟨_, rfl⟩
      have HWW : Hid (wr.drew = W) := hWW
      have HSW : Hid (S < W.heap.size ∧ W.heap[S]? = some (.cells #[.int .u32 gn, .int .u32 tl, l, .slice none 0 0] 26 (0, 0))) := by rw [← hWW]; exact ⟨hst.lt, hst.s⟩
      have HIW : Hid (Iow (S + 1) W l (dkD zs k)) := by rw [← hWW]; exact hst.d
      have HWZ : Hid (IntKind.i64.wrap z = z) := by show _ = _; rw [IntKind.wrap_i64]; omega
      have HWX : Hid (IntKind.i64.wrap x = x) := by show _ = _; rw [IntKind.wrap_i64]; omega
      have HWY : Hid (IntKind.i64.wrap y = y) := by show _ = _; rw [IntKind.wrap_i64]; omega
      have HWM : Hid (IntKind.i64.wrap (256 * y) = 256 * y) := by show _ = _; rw [IntKind.wrap_i64]; omega
      have HWA : Hid (IntKind.i64.wrap ((A : Int) + 1) = (A : Int) + 1) := by show _ = _; rw [IntKind.wrap_i64]; omega
      have HA1 : Hid ((A : Int) < 128) := by show _ < _; omega
      have HA2 : Hid ((A : Int) + 1 < 128) := by show _ < _; omega
      have HA3 : Hid (0 ≤ (A : Int) + 1) := by show _ ≤ _; omega
      clear hst hA hx hy hzz hWW
      by_cases h8 : k < 8
      · have h8' : ¬ ((k : Int) ≥ 8) := by omega
        go_upto_region 10 with fail
        have hAe : (44 + 2 * (k : Int) : Int) = (A : Int) := by have := HAK.out; unfold dkA at this; split at this <;> omega
        try rw [hAe]
        refine wp_region_any (by kernel_rfl) ?_
        refine wpAny_slotsU (fun _ _ _ => True) (frame := (fun (c0 c1 c2 c3 c4 c5 c6 c7 c8 c9 c10 c11 c12 c13 c14 c15 c16 c17 c18 c19 c20 c21 c22 c23 c24 c25 c26 c27 c28 c29 c30 c31 c32 c33 c34 c35 c36 c37 c38 c39 c58 c59 c60 c61 c62 c63 c64 c65 c66 c67 c68 c69 c70 c71 c72 c73 c74 c75 c76 c77 c78 c79 c80 c81 c82 c83 c84 c85 c86 c87 c88 : Value) => fun (t : Nat → Value) => ({ tmps := List.toArray (c0 :: c1 :: c2 :: c3 :: c4 :: c5 :: c6 :: c7 :: c8 :: c9 :: c10 :: c11 :: c12 :: c13 :: c14 :: c15 :: c16 :: c17 :: c18 :: c19 :: c20 :: c21 :: c22 :: c23 :: c24 :: c25 :: c26 :: c27 :: c28 :: c29 :: c30 :: c31 :: c32 :: c33 :: c34 :: c35 :: c36 :: c37 :: c38 :: c39 :: t 0 :: t 1 :: t 2 :: t 3 :: t 4 :: t 5 :: t 6 :: t 7 :: t 8 :: t 9 :: t 10 :: t 11 :: t 12 :: t 13 :: t 14 :: t 15 :: t 16 :: t 17 :: c58 :: c59 :: c60 :: c61 :: c62 :: c63 :: c64 :: c65 :: c66 :: c67 :: c68 :: c69 :: c70 :: c71 :: c72 :: c73 :: c74 :: c75 :: c76 :: c77 :: c78 :: c79 :: c80 :: c81 :: c82 :: c83 :: c84 :: c85 :: c86 :: c87 :: c88 :: []), defers := [] } : Act)) _ _ _ _ _ _ _ _ _ _ _ _ _ _ _ _ _ _ _ _ _ _ _ _ _ _ _ _ _ _ _ _ _ _ _ _ _ _ _ _ _ _ _ _ _ _ _ _ _ _ _ _ _ _ _ _ _ _ _ _ _ _ _ _ _ _ _ _ _ _ _)
          (Ext := fun L u w' => EAP w W S gn tl l (dkD zs k) z (L 1) (L 15) (L 16) (L 18) (u 15) (u 16) w') (Good := fun i L w' v => if i = 0 then v = .pointer (some ⟨S, 2, none⟩) else if i = 1 then v = l else if i = 2 then v = .slice (some ⟨b, off, none⟩) 128 cap else if i = 3 then v = .int .i64 (A : Int) else if i = 4 then v = .pointer (some ⟨b, off + A, none⟩) else if i = 5 then v = .int .u8 x else if i = 6 then v = .int .i64 x else if i = 7 then v = .slice (some ⟨b, off, none⟩) 128 cap else if i = 8 then v = .int .i64 (A : Int) else if i = 9 then v = .int .i64 ((A : Int) + 1) else if i = 10 then v = .pointer (some ⟨b, off + (A + 1), none⟩) else if i = 11 then v = .int .u8 y else if i = 12 then v = .int .i64 y else if i = 13 then v = .int .i64 (256 * y) else if i = 14 then v = .int .i64 z else if i = 17 then v = .pointer (some ⟨S, 2, none⟩) else if i = 15 then L 15 = true else if i = 16 then L 16 = true else if i = 18 then L 18 = true else True) ?hstab (by kernel_rfl) ?hop ?hdone _ _ ((fun (x0 x1 x2 x3 x4 x5 x6 x7 x8 x9 x10 x11 x12 x13 x14 x15 x16 x17 : Value) => fun (i : Nat) => if i = 0 then x0 else if i = 1 then x1 else if i = 2 then x2 else if i = 3 then x3 else if i = 4 then x4 else if i = 5 then x5 else if i = 6 then x6 else if i = 7 then x7 else if i = 8 then x8 else if i = 9 then x9 else if i = 10 then x10 else if i = 11 then x11 else if i = 12 then x12 else if i = 13 then x13 else if i = 14 then x14 else if i = 15 then x15 else if i = 16 then x16 else if i = 17 then x17 else undef) _ _ _ _ _ _ _ _ _ _ _ _ _ _ _ _ _ _) _ (by simp) ?ext ?start (by simp)
        case start => intro i hi h; exact absurd h (by rw [Array.getD_eq_getD_getElem?, Array.getElem?_replicate]; split <;> simp)
        case ext =>
          have h0 : ∀ i, (Array.replicate 19 false).getD i false = false := fun i => by rw [Array.getD_eq_getD_getElem?, Array.getElem?_replicate]; split <;> rfl
          show EAP _ _ _ _ _ _ _ _ ((Array.replicate 19 false).getD 1 false) ((Array.replicate 19 false).getD 15 false) ((Array.replicate 19 false).getD 16 false) ((Array.replicate 19 false).getD 18 false) _ _ _
          rw [h0, h0, h0, h0]
          refine ⟨HD.out.bx.drew, (fun q => by cases q), (fun q => by cases q), ?_⟩
          rw [if_neg (by decide), if_neg (by decide), if_neg (by decide)]
          exact HWW.out
        case hstab =>
          intro j L w9 w' i v hM hij hLi h
          by_cases h15 : j = 15
          · subst h15
            simp at h ⊢
            unfold updK; simp [h]
          by_cases h16 : j = 16
          · subst h16
            simp at h ⊢
            unfold updK; simp [h]
          by_cases h18 : j = 18
          · subst h18
            simp at h ⊢
            unfold updK; simp [h]
          simp only [if_neg h15, if_neg h16, if_neg h18] at h ⊢
          exact h
        case hop =>
          intro i o L t w' ho hLi hx hdep K hK
          have hi : i < 19 := (Array.getElem?_eq_some_iff.1 ho).1
          obtain rfl | rfl | rfl | rfl | rfl | rfl | rfl | rfl | rfl | rfl | rfl | rfl | rfl | rfl | rfl | rfl | rfl | rfl | rfl : i = 0 ∨ i = 1 ∨ i = 2 ∨ i = 3 ∨ i = 4 ∨ i = 5 ∨ i = 6 ∨ i = 7 ∨ i = 8 ∨ i = 9 ∨ i = 10 ∨ i = 11 ∨ i = 12 ∨ i = 13 ∨ i = 14 ∨ i = 15 ∨ i = 16 ∨ i = 17 ∨ i = 18 := by omega
          all_goals (simp at ho; subst ho)
          · clear hdep
            have hK' := hK w' (.pointer (some ⟨S, 2, none⟩)) (by simp) (by simpa [updK, upd] using hx) trivial
            clear hK hx
            rw [if_pos (by rfl)]
            go_simp
            simpa [upd] using hK'
          · have d0 : t 0 = .pointer (some ⟨S, 2, none⟩) := by simpa using (hdep ⟨0, .data⟩ (by simp) rfl).2
            clear hdep
            rw [hLi] at hx
            obtain ⟨hrow, hx2⟩ := hx.load HSW.out.1 HSW.out.2
            have cl : w'.cell? ⟨S, 2, none⟩ = some l := cell_of_row _ _ _ _ _ _ hrow
            have hK' := hK w' (l) (by simp) (by simpa [updK, upd] using hx2) trivial
            clear hK hrow hx2 hx
            rw [if_pos (by rfl)]
            go_simp
            simpa [upd, d0] using hK'
          · clear hdep
            have hK' := hK w' (.slice (some ⟨b, off, none⟩) 128 cap) (by simp) (by simpa [updK, upd] using hx) trivial
            clear hK hx
            rw [if_pos (by rfl)]
            go_simp
            simpa [upd] using hK'
          · clear hdep
            have hK' := hK w' (.int .i64 (A : Int)) (by simp) (by simpa [updK, upd] using hx) trivial
            clear hK hx
            rw [if_pos (by rfl)]
            go_simp
            simpa [upd] using hK'
          · have d2 : t 2 = .slice (some ⟨b, off, none⟩) 128 cap := by simpa using (hdep ⟨2, .data⟩ (by simp) rfl).2
            have d3 : t 3 = .int .i64 (A : Int) := by simpa using (hdep ⟨3, .data⟩ (by simp) rfl).2
            clear hdep
            have hK' := hK w' (.pointer (some ⟨b, off + A, none⟩)) (by simp) (by simpa [updK, upd] using hx) trivial
            clear hK hx
            rw [if_pos (by rfl)]
            go_simp
            simp [upd, d2, d3, HA1.out] at hK' ⊢
            go_simp
            exact hK'
          · have d4 : t 4 = .pointer (some ⟨b, off + A, none⟩) := by simpa using (hdep ⟨4, .data⟩ (by simp) rfl).2
            clear hdep
            have cx : w'.cell? ⟨b, off + A, none⟩ = some (.int .u8 x) := (hx.1.below.cell (p := ⟨b, off + A, none⟩) HBL.out).trans HX0.out
            have hK' := hK w' (.int .u8 x) (by simp) (by simpa [updK, upd] using hx) trivial
            clear hK hx
            rw [if_pos (by rfl)]
            go_simp
            simpa [upd, d4] using hK'
          · have d5 : t 5 = .int .u8 x := by simpa using (hdep ⟨5, .data⟩ (by simp) rfl).2
            clear hdep
            have hK' := hK w' (.int .i64 x) (by simp) (by simpa [updK, upd] using hx) trivial
            clear hK hx
            rw [if_pos (by rfl)]
            go_simp
            simpa [upd, d5, HWX.out] using hK'
          · clear hdep
            have hK' := hK w' (.slice (some ⟨b, off, none⟩) 128 cap) (by simp) (by simpa [updK, upd] using hx) trivial
            clear hK hx
            rw [if_pos (by rfl)]
            go_simp
            simpa [upd] using hK'
          · clear hdep
            have hK' := hK w' (.int .i64 (A : Int)) (by simp) (by simpa [updK, upd] using hx) trivial
            clear hK hx
            rw [if_pos (by rfl)]
            go_simp
            simpa [upd] using hK'
          · have d8 : t 8 = .int .i64 (A : Int) := by simpa using (hdep ⟨8, .data⟩ (by simp) rfl).2
            clear hdep
            have hK' := hK w' (.int .i64 ((A : Int) + 1)) (by simp) (by simpa [updK, upd] using hx) trivial
            clear hK hx
            rw [if_pos (by rfl)]
            go_simp
            simpa [upd, d8, HWA.out] using hK'
          · have d7 : t 7 = .slice (some ⟨b, off, none⟩) 128 cap := by simpa using (hdep ⟨7, .data⟩ (by simp) rfl).2
            have d9 : t 9 = .int .i64 ((A : Int) + 1) := by simpa using (hdep ⟨9, .data⟩ (by simp) rfl).2
            clear hdep
            have hK' := hK w' (.pointer (some ⟨b, off + (A + 1), none⟩)) (by simp) (by simpa [updK, upd] using hx) trivial
            clear hK hx
            rw [if_pos (by rfl)]
            go_simp
            simp [upd, d7, d9, HA2.out, HA3.out] at hK' ⊢
            go_simp
            exact hK'
          · have d10 : t 10 = .pointer (some ⟨b, off + (A + 1), none⟩) := by simpa using (hdep ⟨10, .data⟩ (by simp) rfl).2
            clear hdep
            have cy : w'.cell? ⟨b, off + (A + 1), none⟩ = some (.int .u8 y) := (hx.1.below.cell (p := ⟨b, off + (A + 1), none⟩) HBL.out).trans HY0.out
            have hK' := hK w' (.int .u8 y) (by simp) (by simpa [updK, upd] using hx) trivial
            clear hK hx
            rw [if_pos (by rfl)]
            go_simp
            simpa [upd, d10] using hK'
          · have d11 : t 11 = .int .u8 y := by simpa using (hdep ⟨11, .data⟩ (by simp) rfl).2
            clear hdep
            have hK' := hK w' (.int .i64 y) (by simp) (by simpa [updK, upd] using hx) trivial
            clear hK hx
            rw [if_pos (by rfl)]
            go_simp
            simpa [upd, d11, HWY.out] using hK'
          · have d12 : t 12 = .int .i64 y := by simpa using (hdep ⟨12, .data⟩ (by simp) rfl).2
            clear hdep
            have hK' := hK w' (.int .i64 (256 * y)) (by simp) (by simpa [updK, upd] using hx) trivial
            clear hK hx
            rw [if_pos (by rfl)]
            go_simp
            simpa [upd, d12, HWM.out] using hK'
          · have d6 : t 6 = .int .i64 x := by simpa using (hdep ⟨6, .data⟩ (by simp) rfl).2
            have d13 : t 13 = .int .i64 (256 * y) := by simpa using (hdep ⟨13, .data⟩ (by simp) rfl).2
            clear hdep
            have hK' := hK w' (.int .i64 z) (by simp) (by simpa [updK, upd] using hx) trivial
            clear hK hx
            rw [if_pos (by rfl)]
            go_simp
            simpa [upd, d6, d13, HZZ.out, HWZ.out] using hK'
          · have d14 : t 14 = .int .i64 z := by simpa using (hdep ⟨14, .data⟩ (by simp) rfl).2
            clear hdep
            rw [hLi] at hx
            obtain ⟨hwW, hx2⟩ := hx.build
            have hK' := hK (W.alloc (Obj.cells #[.int .i64 z] 2)) (.slice (some ⟨W.heap.size, 0, none⟩) 1 1) (by simp [updK]) (by simpa [updK, upd] using hx2) trivial
            clear hK hx2 hx
            subst hwW
            rw [if_pos (by rfl)]
            go_simp
            simpa [upd, d14] using hK'
          · have d1 : t 1 = l := by simpa using (hdep ⟨1, .data⟩ (by simp) rfl).2
            have l1 : L 1 = true := (hdep ⟨1, .data⟩ (by simp) rfl).1
            have l15 : L 15 = true := (hdep ⟨15, .data⟩ (by simp) rfl).1
            clear hdep
            rw [hLi, l15] at hx
            obtain ⟨hwW, d15, hx2⟩ := hx.app l1 HSW.out.1 HSW.out.2 HD.out.hw
            have hK' : ∀ v9 w9, Iow (S + 1) w9 v9 (dkD zs k ++ [z]) → Below (S + 1) w' w9 → K _ w9 := fun v9 w9 h1 h2 => hK w9 v9 (by simp [updK]) (by simpa [updK, upd, l15] using hx2 v9 w9 h1 h2) trivial
            clear hK hx2 hx
            rw [if_pos (by rfl)]
            refine wp_app1 w' (.tmp 41) (.tmp 55) rfl (S + 1) l (dkD zs k) d1 (by rw [hwW]; exact HIW.out.alloc _) W z hwW d15 HLD.out (by rw [hwW]; have := HSW.out.1; simp; omega) ?_
            intro v9 w9 h1 h2
            have hK2 := hK' v9 w9 h1 h2
            clear hK' h1 h2
            simpa [upd, Act.put] using hK2
          · clear hdep
            have hK' := hK w' (.pointer (some ⟨S, 2, none⟩)) (by simp) (by simpa [updK, upd] using hx) trivial
            clear hK hx
            rw [if_pos (by rfl)]
            go_simp
            simpa [upd] using hK'
          · have d17 : t 17 = .pointer (some ⟨S, 2, none⟩) := by simpa using (hdep ⟨17, .data⟩ (by simp) rfl).2
            have l16 : L 16 = true := (hdep ⟨16, .data⟩ (by simp) rfl).1
            clear hdep
            rw [hLi, l16] at hx
            obtain ⟨hrow, hio, hx2⟩ := hx.store HD.out.hw
            have cl : w'.cell? ⟨S, 2, none⟩ = some l := cell_of_row _ _ _ _ _ _ hrow
            have cf : w'.frozen? ⟨S, 2, none⟩ = false := frozen_of_row _ _ _ _ _ hrow
            have h1c : (t 16).oneCell' = true := hio.one
            have hK' := hK (w'.setCell ⟨S, 2, none⟩ (t 16)) undef (by simp [updK]) (by simpa [updK, upd, l16] using hx2) trivial
            clear hK hx2 hx hrow
            obtain ⟨ta, tn, tc, e16⟩ := hio.form
            rw [e16] at hK'
            clear hio
            rw [if_pos (by rfl)]
            go_simp
            simpa [upd, d17, e16, Act.put] using hK'
        case hdone =>
          intro L t w5 hx hg
          have l18 : L 18 = true := by simpa using hg 18 (by decide)
          clear hg
          rw [l18] at hx
          obtain ⟨hbx5, _, _, h5⟩ := hx
          rw [if_pos rfl] at h5
          obtain ⟨v5, hs5, hi5⟩ := h5
          have HD5 : Hid (DX w S gn tl zs (k + 1) v5 w5) := ⟨hbx5, hs5, by rw [HNX.out]; exact hi5, HD.out.hw⟩
          clear hbx5 hs5 hi5 l18
          go_wp2
          go_roundw
          case rel => exact ⟨k + 1, v5, by omega, by go_num, HD5.out⟩
          case measure => simp [intOf]; omega
      · have h8' : (k : Int) ≥ 8 := by omega
        go_upto_region 10 with fail
        have hAe : (72 + 2 * ((k : Int) - 8) : Int) = (A : Int) := by have := HAK.out; unfold dkA at this; split at this <;> omega
        try rw [hAe]
        refine wp_region_any (by kernel_rfl) ?_
        refine wpAny_slotsU (fun _ _ _ => True) (frame := (fun (c0 c1 c2 c3 c4 c5 c6 c7 c8 c9 c10 c11 c12 c13 c14 c15 c16 c17 c18 c19 c20 c21 c22 c23 c24 c25 c26 c27 c28 c29 c30 c31 c32 c33 c34 c35 c36 c37 c38 c39 c58 c59 c60 c61 c62 c63 c64 c65 c66 c67 c68 c69 c70 c71 c72 c73 c74 c75 c76 c77 c78 c79 c80 c81 c82 c83 c84 c85 c86 c87 c88 : Value) => fun (t : Nat → Value) => ({ tmps := List.toArray (c0 :: c1 :: c2 :: c3 :: c4 :: c5 :: c6 :: c7 :: c8 :: c9 :: c10 :: c11 :: c12 :: c13 :: c14 :: c15 :: c16 :: c17 :: c18 :: c19 :: c20 :: c21 :: c22 :: c23 :: c24 :: c25 :: c26 :: c27 :: c28 :: c29 :: c30 :: c31 :: c32 :: c33 :: c34 :: c35 :: c36 :: c37 :: c38 :: c39 :: t 0 :: t 1 :: t 2 :: t 3 :: t 4 :: t 5 :: t 6 :: t 7 :: t 8 :: t 9 :: t 10 :: t 11 :: t 12 :: t 13 :: t 14 :: t 15 :: t 16 :: t 17 :: c58 :: c59 :: c60 :: c61 :: c62 :: c63 :: c64 :: c65 :: c66 :: c67 :: c68 :: c69 :: c70 :: c71 :: c72 :: c73 :: c74 :: c75 :: c76 :: c77 :: c78 :: c79 :: c80 :: c81 :: c82 :: c83 :: c84 :: c85 :: c86 :: c87 :: c88 :: []), defers := [] } : Act)) _ _ _ _ _ _ _ _ _ _ _ _ _ _ _ _ _ _ _ _ _ _ _ _ _ _ _ _ _ _ _ _ _ _ _ _ _ _ _ _ _ _ _ _ _ _ _ _ _ _ _ _ _ _ _ _ _ _ _ _ _ _ _ _ _ _ _ _ _ _ _)
          (Ext := fun L u w' => EAP w W S gn tl l (dkD zs k) z (L 1) (L 15) (L 16) (L 18) (u 15) (u 16) w') (Good := fun i L w' v => if i = 0 then v = .pointer (some ⟨S, 2, none⟩) else if i = 1 then v = l else if i = 2 then v = .slice (some ⟨b, off, none⟩) 128 cap else if i = 3 then v = .int .i64 (A : Int) else if i = 4 then v = .pointer (some ⟨b, off + A, none⟩) else if i = 5 then v = .int .u8 x else if i = 6 then v = .int .i64 x else if i = 7 then v = .slice (some ⟨b, off, none⟩) 128 cap else if i = 8 then v = .int .i64 (A : Int) else if i = 9 then v = .int .i64 ((A : Int) + 1) else if i = 10 then v = .pointer (some ⟨b, off + (A + 1), none⟩) else if i = 11 then v = .int .u8 y else if i = 12 then v = .int .i64 y else if i = 13 then v = .int .i64 (256 * y) else if i = 14 then v = .int .i64 z else if i = 17 then v = .pointer (some ⟨S, 2, none⟩) else if i = 15 then L 15 = true else if i = 16 then L 16 = true else if i = 18 then L 18 = true else True) ?hstab (by kernel_rfl) ?hop ?hdone _ _ ((fun (x0 x1 x2 x3 x4 x5 x6 x7 x8 x9 x10 x11 x12 x13 x14 x15 x16 x17 : Value) => fun (i : Nat) => if i = 0 then x0 else if i = 1 then x1 else if i = 2 then x2 else if i = 3 then x3 else if i = 4 then x4 else if i = 5 then x5 else if i = 6 then x6 else if i = 7 then x7 else if i = 8 then x8 else if i = 9 then x9 else if i = 10 then x10 else if i = 11 then x11 else if i = 12 then x12 else if i = 13 then x13 else if i = 14 then x14 else if i = 15 then x15 else if i = 16 then x16 else if i = 17 then x17 else undef) _ _ _ _ _ _ _ _ _ _ _ _ _ _ _ _ _ _) _ (by simp) ?ext ?start (by simp)
        case start => intro i hi h; exact absurd h (by rw [Array.getD_eq_getD_getElem?, Array.getElem?_replicate]; split <;> simp)
        case ext =>
          have h0 : ∀ i, (Array.replicate 19 false).getD i false = false := fun i => by rw [Array.getD_eq_getD_getElem?, Array.getElem?_replicate]; split <;> rfl
          show EAP _ _ _ _ _ _ _ _ ((Array.replicate 19 false).getD 1 false) ((Array.replicate 19 false).getD 15 false) ((Array.replicate 19 false).getD 16 false) ((Array.replicate 19 false).getD 18 false) _ _ _
          rw [h0, h0, h0, h0]
          refine ⟨HD.out.bx.drew, (fun q => by cases q), (fun q => by cases q), ?_⟩
          rw [if_neg (by decide), if_neg (by decide), if_neg (by decide)]
          exact HWW.out
        case hstab =>
          intro j L w9 w' i v hM hij hLi h
          by_cases h15 : j = 15
          · subst h15
            simp at h ⊢
            unfold updK; simp [h]
          by_cases h16 : j = 16
          · subst h16
            simp at h ⊢
            unfold updK; simp [h]
          by_cases h18 : j = 18
          · subst h18
            simp at h ⊢
            unfold updK; simp [h]
          simp only [if_neg h15, if_neg h16, if_neg h18] at h ⊢
          exact h
        case hop =>
          intro i o L t w' ho hLi hx hdep K hK
          have hi : i < 19 := (Array.getElem?_eq_some_iff.1 ho).1
          obtain rfl | rfl | rfl | rfl | rfl | rfl | rfl | rfl | rfl | rfl | rfl | rfl | rfl | rfl | rfl | rfl | rfl | rfl | rfl : i = 0 ∨ i = 1 ∨ i = 2 ∨ i = 3 ∨ i = 4 ∨ i = 5 ∨ i = 6 ∨ i = 7 ∨ i = 8 ∨ i = 9 ∨ i = 10 ∨ i = 11 ∨ i = 12 ∨ i = 13 ∨ i = 14 ∨ i = 15 ∨ i = 16 ∨ i = 17 ∨ i = 18 := by omega
          all_goals (simp at ho; subst ho)
          · clear hdep
            have hK' := hK w' (.pointer (some ⟨S, 2, none⟩)) (by simp) (by simpa [updK, upd] using hx) trivial
            clear hK hx
            rw [if_pos (by rfl)]
            go_simp
            simpa [upd] using hK'
          · have d0 : t 0 = .pointer (some ⟨S, 2, none⟩) := by simpa using (hdep ⟨0, .data⟩ (by simp) rfl).2
            clear hdep
            rw [hLi] at hx
            obtain ⟨hrow, hx2⟩ := hx.load HSW.out.1 HSW.out.2
            have cl : w'.cell? ⟨S, 2, none⟩ = some l := cell_of_row _ _ _ _ _ _ hrow
            have hK' := hK w' (l) (by simp) (by simpa [updK, upd] using hx2) trivial
            clear hK hrow hx2 hx
            rw [if_pos (by rfl)]
            go_simp
            simpa [upd, d0] using hK'
          · clear hdep
            have hK' := hK w' (.slice (some ⟨b, off, none⟩) 128 cap) (by simp) (by simpa [updK, upd] using hx) trivial
            clear hK hx
            rw [if_pos (by rfl)]
            go_simp
            simpa [upd] using hK'
          · clear hdep
            have hK' := hK w' (.int .i64 (A : Int)) (by simp) (by simpa [updK, upd] using hx) trivial
            clear hK hx
            rw [if_pos (by rfl)]
            go_simp
            simpa [upd] using hK'
          · have d2 : t 2 = .slice (some ⟨b, off, none⟩) 128 cap := by simpa using (hdep ⟨2, .data⟩ (by simp) rfl).2
            have d3 : t 3 = .int .i64 (A : Int) := by simpa using (hdep ⟨3, .data⟩ (by simp) rfl).2
            clear hdep
            have hK' := hK w' (.pointer (some ⟨b, off + A, none⟩)) (by simp) (by simpa [updK, upd] using hx) trivial
            clear hK hx
            rw [if_pos (by rfl)]
            go_simp
            simp [upd, d2, d3, HA1.out] at hK' ⊢
            go_simp
            exact hK'
          · have d4 : t 4 = .pointer (some ⟨b, off + A, none⟩) := by simpa using (hdep ⟨4, .data⟩ (by simp) rfl).2
            clear hdep
            have cx : w'.cell? ⟨b, off + A, none⟩ = some (.int .u8 x) := (hx.1.below.cell (p := ⟨b, off + A, none⟩) HBL.out).trans HX0.out
            have hK' := hK w' (.int .u8 x) (by simp) (by simpa [updK, upd] using hx) trivial
            clear hK hx
            rw [if_pos (by rfl)]
            go_simp
            simpa [upd, d4] using hK'
          · have d5 : t 5 = .int .u8 x := by simpa using (hdep ⟨5, .data⟩ (by simp) rfl).2
            clear hdep
            have hK' := hK w' (.int .i64 x) (by simp) (by simpa [updK, upd] using hx) trivial
            clear hK hx
            rw [if_pos (by rfl)]
            go_simp
            simpa [upd, d5, HWX.out] using hK'
          · clear hdep
            have hK' := hK w' (.slice (some ⟨b, off, none⟩) 128 cap) (by simp) (by simpa [updK, upd] using hx) trivial
            clear hK hx
            rw [if_pos (by rfl)]
            go_simp
            simpa [upd] using hK'
          · clear hdep
            have hK' := hK w' (.int .i64 (A : Int)) (by simp) (by simpa [updK, upd] using hx) trivial
            clear hK hx
            rw [if_pos (by rfl)]
            go_simp
            simpa [upd] using hK'
          · have d8 : t 8 = .int .i64 (A : Int) := by simpa using (hdep ⟨8, .data⟩ (by simp) rfl).2
            clear hdep
            have hK' := hK w' (.int .i64 ((A : Int) + 1)) (by simp) (by simpa [updK, upd] using hx) trivial
            clear hK hx
            rw [if_pos (by rfl)]
            go_simp
            simpa [upd, d8, HWA.out] using hK'
          · have d7 : t 7 = .slice (some ⟨b, off, none⟩) 128 cap := by simpa using (hdep ⟨7, .data⟩ (by simp) rfl).2
            have d9 : t 9 = .int .i64 ((A : Int) + 1) := by simpa using (hdep ⟨9, .data⟩ (by simp) rfl).2
            clear hdep
            have hK' := hK w' (.pointer (some ⟨b, off + (A + 1), none⟩)) (by simp) (by simpa [updK, upd] using hx) trivial
            clear hK hx
            rw [if_pos (by rfl)]
            go_simp
            simp [upd, d7, d9, HA2.out, HA3.out] at hK' ⊢
            go_simp
            exact hK'
          · have d10 : t 10 = .pointer (some ⟨b, off + (A + 1), none⟩) := by simpa using (hdep ⟨10, .data⟩ (by simp) rfl).2
            clear hdep
            have cy : w'.cell? ⟨b, off + (A + 1), none⟩ = some (.int .u8 y) := (hx.1.below.cell (p := ⟨b, off + (A + 1), none⟩) HBL.out).trans HY0.out
            have hK' := hK w' (.int .u8 y) (by simp) (by simpa [updK, upd] using hx) trivial
            clear hK hx
            rw [if_pos (by rfl)]
            go_simp
            simpa [upd, d10] using hK'
          · have d11 : t 11 = .int .u8 y := by simpa using (hdep ⟨11, .data⟩ (by simp) rfl).2
            clear hdep
            have hK' := hK w' (.int .i64 y) (by simp) (by simpa [updK, upd] using hx) trivial
            clear hK hx
            rw [if_pos (by rfl)]
            go_simp
            simpa [upd, d11, HWY.out] using hK'
          · have d12 : t 12 = .int .i64 y := by simpa using (hdep ⟨12, .data⟩ (by simp) rfl).2
            clear hdep
            have hK' := hK w' (.int .i64 (256 * y)) (by simp) (by simpa [updK, upd] using hx) trivial
            clear hK hx
            rw [if_pos (by rfl)]
            go_simp
            simpa [upd, d12, HWM.out] using hK'
          · have d6 : t 6 = .int .i64 x := by simpa using (hdep ⟨6, .data⟩ (by simp) rfl).2
            have d13 : t 13 = .int .i64 (256 * y) := by simpa using (hdep ⟨13, .data⟩ (by simp) rfl).2
            clear hdep
            have hK' := hK w' (.int .i64 z) (by simp) (by simpa [updK, upd] using hx) trivial
            clear hK hx
            rw [if_pos (by rfl)]
            go_simp
            simpa [upd, d6, d13, HZZ.out, HWZ.out] using hK'
          · have d14 : t 14 = .int .i64 z := by simpa using (hdep ⟨14, .data⟩ (by simp) rfl).2
            clear hdep
            rw [hLi] at hx
            obtain ⟨hwW, hx2⟩ := hx.build
            have hK' := hK (W.alloc (Obj.cells #[.int .i64 z] 2)) (.slice (some ⟨W.heap.size, 0, none⟩) 1 1) (by simp [updK]) (by simpa [updK, upd] using hx2) trivial
            clear hK hx2 hx
            subst hwW
            rw [if_pos (by rfl)]
            go_simp
            simpa [upd, d14] using hK'
          · have d1 : t 1 = l := by simpa using (hdep ⟨1, .data⟩ (by simp) rfl).2
            have l1 : L 1 = true := (hdep ⟨1, .data⟩ (by simp) rfl).1
            have l15 : L 15 = true := (hdep ⟨15, .data⟩ (by simp) rfl).1
            clear hdep
            rw [hLi, l15] at hx
            obtain ⟨hwW, d15, hx2⟩ := hx.app l1 HSW.out.1 HSW.out.2 HD.out.hw
            have hK' : ∀ v9 w9, Iow (S + 1) w9 v9 (dkD zs k ++ [z]) → Below (S + 1) w' w9 → K _ w9 := fun v9 w9 h1 h2 => hK w9 v9 (by simp [updK]) (by simpa [updK, upd, l15] using hx2 v9 w9 h1 h2) trivial
            clear hK hx2 hx
            rw [if_pos (by rfl)]
            refine wp_app1 w' (.tmp 41) (.tmp 55) rfl (S + 1) l (dkD zs k) d1 (by rw [hwW]; exact HIW.out.alloc _) W z hwW d15 HLD.out (by rw [hwW]; have := HSW.out.1; simp; omega) ?_
            intro v9 w9 h1 h2
            have hK2 := hK' v9 w9 h1 h2
            clear hK' h1 h2
            simpa [upd, Act.put] using hK2
          · clear hdep
            have hK' := hK w' (.pointer (some ⟨S, 2, none⟩)) (by simp) (by simpa [updK, upd] using hx) trivial
            clear hK hx
            rw [if_pos (by rfl)]
            go_simp
            simpa [upd] using hK'
          · have d17 : t 17 = .pointer (some ⟨S, 2, none⟩) := by simpa using (hdep ⟨17, .data⟩ (by simp) rfl).2
            have l16 : L 16 = true := (hdep ⟨16, .data⟩ (by simp) rfl).1
            clear hdep
            rw [hLi, l16] at hx
            obtain ⟨hrow, hio, hx2⟩ := hx.store HD.out.hw
            have cl : w'.cell? ⟨S, 2, none⟩ = some l := cell_of_row _ _ _ _ _ _ hrow
            have cf : w'.frozen? ⟨S, 2, none⟩ = false := frozen_of_row _ _ _ _ _ hrow
            have h1c : (t 16).oneCell' = true := hio.one
            have hK' := hK (w'.setCell ⟨S, 2, none⟩ (t 16)) undef (by simp [updK]) (by simpa [updK, upd, l16] using hx2) trivial
            clear hK hx2 hx hrow
            obtain ⟨ta, tn, tc, e16⟩ := hio.form
            rw [e16] at hK'
            clear hio
            rw [if_pos (by rfl)]
            go_simp
            simpa [upd, d17, e16, Act.put] using hK'
        case hdone =>
          intro L t w5 hx hg
          have l18 : L 18 = true := by simpa using hg 18 (by decide)
          clear hg
          rw [l18] at hx
          obtain ⟨hbx5, _, _, h5⟩ := hx
          rw [if_pos rfl] at h5
          obtain ⟨v5, hs5, hi5⟩ := h5
          have HD5 : Hid (DX w S gn tl zs (k + 1) v5 w5) := ⟨hbx5, hs5, by rw [HNX.out]; exact hi5, HD.out.hw⟩
          clear hbx5 hs5 hi5 l18
          go_wp2
          go_roundw
          case rel => exact ⟨k + 1, v5, by omega, by go_num, HD5.out⟩
          case measure => simp [intOf]; omega
    · have hke : k = n := by omega
      subst hke
      clear hst
      go_wp2_with fail
      clear c6
      obtain ⟨aD, nD, cD, rfl⟩ := HD.out.d.form
      obtain ⟨sD, hnD, lD⟩ := HD.out.d.sat
      have HY0 : Hid (DY w S wr.heap.size gn tl aD nD cD (dkD zs k) (dkP zs) 0 (.slice none 0 0) wr) := ⟨HD.out.bx, HD.out.s, sD.at_, fun ad e => ⟨Nat.lt_of_succ_le (lD ad e).1, (lD ad e).2⟩, Iow.nil _ _, Nat.le_refl _, HD.out.lt, HD.out.hw⟩
      have HLD : Hid ((dkD zs k).length = nD) := hnD
      clear HD sD hnD lD
      obtain ⟨H, hH⟩ : ∃ H, wr.heap.size = H := ⟨_, rfl⟩
      rw [hH] at HY0
      clear hH
      go_loopw [6] (fun i wz => ∃ (j : Nat) (v : Value), j ≤ 256 ∧ i = .int .i64 j ∧ DY w S H gn tl aD nD cD (dkD zs k) (dkP zs) j v wz) (fun i _ => 256 - (intOf i).toNat)
      case atStart => exact ⟨0, _, Nat.zero_le _, rfl, HY0.out⟩
      case round =>
        clear HY0
        obtain ⟨j, v, hj, rfl, hst⟩ := hrel
        obtain ⟨aU, nU, cU, rfl⟩ := hst.u.form
        by_cases hlt : j < 256
        · have hlt' : (j : Int) < 256 := by omega
          obtain ⟨x, hx⟩ : ∃ x, zs.getD (12 + j / 8) 0 = x := ⟨_, rfl⟩
          have hxb := HZ.out.2.get (12 + j / 8)
          rw [hx] at hxb
          obtain ⟨hx0, hx1⟩ := hxb
          have cx := hst.bx.below.cell (p := ⟨b, off + (12 + j / 8), none⟩) HBL.out
          rw [HCC.out (12 + j / 8) (by rw [HZ.out.1]; omega), hx] at cx
          have hpj : dkP zs j = decide (x / 2 ^ (j % 8) % 2 = 1) := by unfold dkP; rw [hx]
          have htm : (x / 2 ^ (j % 8)).tmod 2 = x / 2 ^ (j % 8) % 2 := Int.tmod_eq_emod_of_nonneg (Int.ediv_nonneg hx0 (Int.le_of_lt (Int.pow_pos (by decide))))
          have c3 : wr.cell? ⟨S, 3, none⟩ = some (.slice aU nU cU) := cell_of_row _ _ _ _ _ _ hst.s
          have HST : Hid (DY w S H gn tl aD nD cD (dkD zs k) (dkP zs) j (.slice aU nU cU) wr) := hst
          clear hst hx
          by_cases hp : dkP zs j = true
          · have hb2 : ((x / 2 ^ (j % 8)).tmod 2 == 1) = true := by
              rw [htm]; rw [hpj] at hp; simpa using hp
            have HNX : Hid (upTo (dkP zs) (j + 1) = upTo (dkP zs) j ++ [(j : Int)]) := by show _ = _; rw [upTo_succ, if_pos hp]
            have HL2 : Hid ((upTo (dkP zs) j).length ≤ 1048576) := Nat.le_trans (upTo_len _ j) (by omega)
            have HO : Hid (Iow H (wr.alloc (.cells #[.int .i64 (j : Int)] 2)) (.slice aU nU cU) (upTo (dkP zs) j)) := HST.out.u.alloc _
            have HZ2 : Hid (H ≤ (wr.alloc (.cells #[.int .i64 (j : Int)] 2)).heap.size) := Nat.le_trans HST.out.hz (below_new wr _).size
            have c4 : (wr.alloc (.cells #[.int .i64 (j : Int)] 2)).cell? ⟨S, 3, none⟩ = some (.slice aU nU cU) := ((below_new wr _).cell (p := ⟨S, 3, none⟩) (Nat.lt_of_lt_of_le HST.out.hs HST.out.hz)).trans c3
            clear hp hpj htm
            go_wp2_with (first
              | (refine wpList_app1 _ rfl (.tmp 75) (.tmp 77) rfl H _ (upTo (dkP zs) j) rfl HO.out wr j rfl rfl HL2.out HZ2.out ?_)
              | fail)
            intro v' w3 h1 h2
            obtain ⟨a', n', c', rfl⟩ := h1.form
            have hbb : Below H wr w3 := ((below_new wr _).mono HST.out.hz).trans h2
            have HF : Hid (DY w S H gn tl aD nD cD (dkD zs k) (dkP zs) (j + 1) (.slice a' n' c') (w3.setCell ⟨S, 3, none⟩ (.slice a' n' c'))) := HST.out.step hbb (by rw [HNX.out]; exact h1)
            have hs3 : w3.heap[S]? = some (.cells #[.int .u32 gn, .int .u32 tl, .slice aD nD cD, .slice aU nU cU] 26 (0, 0)) := by rw [hbb.block S HST.out.hs]; exact HST.out.s
            have c5 : w3.cell? ⟨S, 3, none⟩ = some (.slice aU nU cU) := cell_of_row _ _ _ _ _ _ hs3
            have f5 : w3.frozen? ⟨S, 3, none⟩ = false := frozen_of_row _ _ _ _ _ hs3
            clear h1 h2 hbb hs3 HO HZ2 HL2 c3 c4 cx
            go_wp2
            go_roundw
            case rel => exact ⟨j + 1, _, by omega, by go_num, HF.out⟩
            case measure => simp [intOf]; omega
          · have hb2 : ((x / 2 ^ (j % 8)).tmod 2 == 1) = false := by
              rw [htm]; rw [hpj] at hp; simpa using hp
            have HF : Hid (DY w S H gn tl aD nD cD (dkD zs k) (dkP zs) (j + 1) (.slice aU nU cU) wr) := ⟨HST.out.bx, HST.out.s, HST.out.d, HST.out.l, by rw [upTo_succ, if_neg hp]; exact HST.out.u, HST.out.hz, HST.out.hs, HST.out.hw⟩
            clear hp hpj htm c3
            go_wp2
            go_roundw
            case rel => exact ⟨j + 1, _, by omega, by go_num, HF.out⟩
            case measure => simp [intOf]; omega
        · have hje : j = 256 := by omega
          subst hje
          obtain ⟨sU, hnU, lU⟩ := hst.u.sat
          have HBX : Hid (BXS w wr) := hst.bx
          have HSW : Hid (wr.heap[S]? = some (.cells #[.int .u32 gn, .int .u32 tl, .slice aD nD cD, .slice aU nU cU] 26 (0, 0))) := hst.s
          have HSL : Hid (S < wr.heap.size) := (Array.getElem?_eq_some_iff.1 hst.s).1
          have HAA : Hid (At .i64 wr aD (dkD zs k) ∧ At .i64 wr aU (dkU zs) ∧ (dkU zs).length = nU) := ⟨hst.d, sU.at_, hnU⟩
          have HLL : Hid ((∀ ad, aD = some ad → w.heap.size < ad.block ∧ ad.block < wr.heap.size) ∧ ∀ ad, aU = some ad → w.heap.size < ad.block ∧ ad.block < wr.heap.size) := ⟨fun ad e => by have := hst.l ad e; have := hst.hw; have := hst.hz; omega, fun ad e => by have := lU ad e; have := hst.hw; have := hst.hs; omega⟩
          have hnD : nD ≤ 1048576 := by have := HLD.out; rw [dkD_len] at this; omega
          have hnU2 : nU ≤ 1048576 := by have := upTo_len (dkP zs) 256; have : (dkU zs).length ≤ 256 := this; omega
          obtain ⟨E, hE⟩ : ∃ E, snE gn tl (dkD zs k) (dkU zs) = E := ⟨_, rfl⟩
          have HCE : Hid (∀ ww, Below wr.heap.size wr ww → Calls Try.prog 14 #[.agg #[.int .u32 gn, .int .u32 tl, .slice aD nD cD, .slice aU nU cU]] ww fun e w' => ∃ v, e = .returned v ∧ Own w' ww.heap.size v E ∧ Below ww.heap.size ww w') := fun ww bb => by
            rw [← hE]; exact ses_any gn tl aD aU nD cD nU cU (dkD zs k) (dkU zs) ww HLD.out HAA.out.2.2 hnD hnU2 (HAA.out.1.below bb) (HAA.out.2.1.below bb) HUU.out.1 HUU.out.2
          have HEE : Hid (dkE zs = E) := by show _ = _; unfold dkE; rw [HGT.out.1, HGT.out.2, HN.out]; exact hE
          have HBE : Hid (Byte E) := by rw [← hE]; exact snE_byte HUU.out.1 HUU.out.2
          clear hst sU hnU lU hE hnD hnU2
          go_wp2_with fail
          refine wp_region_any (by kernel_rfl) ?_
          refine wpAny_slotsU (fun _ a b => Below a.heap.size a b) (frame := (fun (c0 c1 c2 c3 c4 c5 c6 c7 c8 c9 c10 c11 c12 c13 c14 c15 c16 c17 c18 c19 c20 c21 c22 c23 c24 c25 c26 c27 c28 c29 c30 c31 c32 c33 c34 c35 c36 c37 c38 c39 c40 c41 c42 c43 c44 c45 c46 c47 c48 c49 c50 c51 c52 c53 c54 c55 c56 c57 c58 c59 c60 c61 c62 c63 c64 c65 c66 c67 c68 c69 c70 c71 c72 c73 c74 c75 c76 c77 c78 c79 c86 c87 c88 : Value) => fun (t : Nat → Value) => ({ tmps := List.toArray (c0 :: c1 :: c2 :: c3 :: c4 :: c5 :: c6 :: c7 :: c8 :: c9 :: c10 :: c11 :: c12 :: c13 :: c14 :: c15 :: c16 :: c17 :: c18 :: c19 :: c20 :: c21 :: c22 :: c23 :: c24 :: c25 :: c26 :: c27 :: c28 :: c29 :: c30 :: c31 :: c32 :: c33 :: c34 :: c35 :: c36 :: c37 :: c38 :: c39 :: c40 :: c41 :: c42 :: c43 :: c44 :: c45 :: c46 :: c47 :: c48 :: c49 :: c50 :: c51 :: c52 :: c53 :: c54 :: c55 :: c56 :: c57 :: c58 :: c59 :: c60 :: c61 :: c62 :: c63 :: c64 :: c65 :: c66 :: c67 :: c68 :: c69 :: c70 :: c71 :: c72 :: c73 :: c74 :: c75 :: c76 :: c77 :: c78 :: c79 :: t 0 :: t 1 :: t 2 :: t 3 :: t 4 :: t 5 :: c86 :: c87 :: c88 :: []), defers := [] } : Act)) _ _ _ _ _ _ _ _ _ _ _ _ _ _ _ _ _ _ _ _ _ _ _ _ _ _ _ _ _ _ _ _ _ _ _ _ _ _ _ _ _ _ _ _ _ _ _ _ _ _ _ _ _ _ _ _ _ _ _ _ _ _ _ _ _ _ _ _ _ _ _ _ _ _ _ _ _ _ _ _ _ _ _)
            (Ext := fun L u w' => ApX wr [] L u w') (Good := fun i L w' v => if i = 0 then v = .agg #[.int .u32 gn, .int .u32 tl, .slice aD nD cD, .slice aU nU cU] else if i = 1 then Part w' v E else if i = 2 then v = .string (strOfNums E) else if i = 3 then v = .slice (some ⟨b, off, none⟩) 128 cap else if i = 4 then v = .string (strOfNums zs) else if i = 5 then v = .bool (!decide (E = zs)) else True) ?hstab (by kernel_rfl) ?hop ?hdone _ _ ((fun (x0 x1 x2 x3 x4 x5 : Value) => fun (i : Nat) => if i = 0 then x0 else if i = 1 then x1 else if i = 2 then x2 else if i = 3 then x3 else if i = 4 then x4 else if i = 5 then x5 else undef) _ _ _ _ _ _) _ (by simp) ?ext ?start (by simp)
          case start => intro i hi h; exact absurd h (by rw [Array.getD_eq_getD_getElem?, Array.getElem?_replicate]; split <;> simp)
          case ext => exact (ApX.start wr [] _ _ (fun i => by rw [Array.getD_eq_getD_getElem?, Array.getElem?_replicate]; split <;> rfl)).drew
          case hstab =>
            intro j L w9 w' i v hM _ _ h
            by_cases h1 : j = 1
            · subst h1
              simp at h ⊢
              exact h.below hM
            simp only [if_neg h1] at h ⊢
            exact h
          case hop =>
            intro i o L t w' ho hLi hx hdep K hK
            have hi : i < 6 := (Array.getElem?_eq_some_iff.1 ho).1
            obtain rfl | rfl | rfl | rfl | rfl | rfl : i = 0 ∨ i = 1 ∨ i = 2 ∨ i = 3 ∨ i = 4 ∨ i = 5 := by omega
            all_goals (simp at ho; subst ho)
            · clear hdep
              have hrw : w'.heap[S]? = some (.cells #[.int .u32 gn, .int .u32 tl, .slice aD nD cD, .slice aU nU cU] 26 (0, 0)) := by rw [hx.below.block S HSL.out]; exact HSW.out
              have hK' := hK w' (.agg #[.int .u32 gn, .int .u32 tl, .slice aD nD cD, .slice aU nU cU]) (by simp) (hx.step 0 _ (Below.refl _ _) (fun h => absurd h (by decide))) (Below.refl _ _)
              clear hK
              rw [if_pos (by rfl)]
              refine wp_load_row 26 (.tmp 3) rfl S rfl 26 _ (0, 0) _ hrw Try.underlying26 rfl HSN.out ?_
              go_simp
              simpa [upd] using hK'
            · have d0 : t 0 = .agg #[.int .u32 gn, .int .u32 tl, .slice aD nD cD, .slice aU nU cU] := by simpa using (hdep ⟨0, .data⟩ (by simp) rfl).2
              clear hdep
              have A := HCE.out w' hx.below
              have hK' : ∀ ww v, Part ww v E → Below w'.heap.size w' ww → K _ ww := fun ww v hv hb => hK ww v (by simpa using hv) (hx.step 1 v hb (fun h => absurd h (by decide))) hb
              clear hK
              rw [if_pos (by rfl)]
              go_simp
              try simp only [d0]
              refine A.mono ?_
              rintro e w9 ⟨v9, rfl, hown, hb9⟩
              have hK2 := hK' w9 v9 hown.part  hb9
              clear hK' A hown hb9
              go_simp
              simpa [upd, d0] using hK2
            · have f1 : Part w' (t 1) E := by simpa using (hdep ⟨1, .data⟩ (by simp) rfl).2
              clear hdep
              obtain ⟨bp, op, cp, d, hl, hcp⟩ := f1
              have hcv := run_convert_bytes_arg w' 22 5 Try.underlying22 Try.underlying5 bp op _ cp E rfl hcp 9 Try.underlying9
              have hK' := hK w' (.string (strOfNums E)) (by simp) (hx.step 2 _ (Below.refl _ _) (fun h => absurd h (by decide))) (Below.refl _ _)
              clear hK hcp
              generalize E.length = el at *
              rw [if_pos (by rfl)]
              go_simp
              simpa [upd, d] using hK'
            · clear hdep
              have hK' := hK w' (.slice (some ⟨b, off, none⟩) 128 cap) (by simp) (hx.step 3 _ (Below.refl _ _) (fun h => absurd h (by decide))) (Below.refl _ _)
              clear hK
              rw [if_pos (by rfl)]
              go_simp
              simpa [upd] using hK'
            · have d3 : t 3 = .slice (some ⟨b, off, none⟩) 128 cap := by simpa using (hdep ⟨3, .data⟩ (by simp) rfl).2
              clear hdep
              have hcv := run_convert_bytes_arg w' 22 5 Try.underlying22 Try.underlying5 b off 128 cap zs HZ.out.1 (fun i hi => (HBX.out.below.trans (hx.below.mono HBX.out.below.size)).cell (p := ⟨b, off + i, none⟩) HBL.out ▸ HCC.out i (by rw [HZ.out.1]; exact hi)) 9 Try.underlying9
              have hK' := hK w' (.string (strOfNums zs)) (by simp) (hx.step 4 _ (Below.refl _ _) (fun h => absurd h (by decide))) (Below.refl _ _)
              clear hK
              rw [if_pos (by rfl)]
              go_simp
              simpa [upd, d3] using hK'
            · have d2 : t 2 = .string (strOfNums E) := by simpa using (hdep ⟨2, .data⟩ (by simp) rfl).2
              have d4 : t 4 = .string (strOfNums zs) := by simpa using (hdep ⟨4, .data⟩ (by simp) rfl).2
              clear hdep
              have hinj := str_inj HBE.out HZ.out.2
              have hK' := hK w' (.bool (!decide (E = zs))) (by simp) (hx.step 5 _ (Below.refl _ _) (fun h => absurd h (by decide))) (Below.refl _ _)
              clear hK
              generalize decide (E = zs) = bb at *
              rw [if_pos (by rfl)]
              go_simp
              simpa [upd, d2, d4, hinj] using hK'
          case hdone =>
            intro L t w9 hx hg
            have e5 : t 5 = .bool (!decide (E = zs)) := by simpa using hg 5 (by decide)
            clear hg
            have HB9 : Hid (BXS w w9) := HBX.out.call hx.below
            have HS9 : Hid (w9.heap[S]? = some (.cells #[.int .u32 gn, .int .u32 tl, .slice aD nD cD, .slice aU nU cU] 26 (0, 0))) := by show _ = _; rw [hx.below.block S HSL.out]; exact HSW.out
            have HA9 : Hid (At .i64 w9 aD (dkD zs k) ∧ At .i64 w9 aU (dkU zs)) := ⟨HAA.out.1.below hx.below, HAA.out.2.1.below hx.below⟩
            have hsz9 := hx.below.size
            clear hx
            by_cases heq : E = zs
            · have hde : decide (E = zs) = true := by simpa using heq
              rw [hde] at e5
              simp only [e5, Bool.not_true]
              have HEQ : Hid (dkE zs = zs) := by show _ = _; rw [HEE.out]; exact heq
              clear e5 hde heq
              go_wp2_with (first
                | (refine wpList_load_row rfl 26 (.tmp 3) rfl S rfl 26 _ (0, 0) _ HS9.out Try.underlying26 rfl HSN.out ?_)
                | (refine wpList_store_row rfl 28 (.tmp 2) (.tmp 88) rfl w.heap.size #[.bool true, .int .u32 gn, .int .u32 tl, .slice aD nD cD, .slice aU nU cU] rfl rfl 28 _ HB9.out.box HSR.out rfl (all5s _ _ _ _ _ _ _ _ _) ?_)
                | fail)
              (try simp only [Exit.inBlock, Exit.then])
              refine bodyPost_ret (v := .agg #[.bool true, .int .u32 gn, .int .u32 tl, .slice aD nD cD, .slice aU nU cU]) (results_cell_row rfl _ _ w.heap.size 28 _ (0, 0) _ rfl (setRow_heap _ _ _ _ _ _ HB9.out.box) Try.underlying28 rfl HSR.out) rfl ⟨_, rfl, ?_, HB9.out.below.trans ((Wr.setRow _ _ _).below (Nat.le_refl _))⟩
              rw [dkF_yes HZ.out.1 HN16.out HEQ.out]
              have hw := Wr.setRow w.heap.size w9 #[.bool true, .int .u32 gn, .int .u32 tl, .slice aD nD cD, .slice aU nU cU]
              have h1 := HA9.out.1.keep (w' := w9.setRow w.heap.size #[.bool true, .int .u32 gn, .int .u32 tl, .slice aD nD cD, .slice aU nU cU]) (by rw [hw.size]; exact Nat.le_refl _) (fun ad e _ => hw.block _ (by have := HLL.out.1 ad e; omega))
              have h2 := HA9.out.2.keep (w' := w9.setRow w.heap.size #[.bool true, .int .u32 gn, .int .u32 tl, .slice aD nD cD, .slice aU nU cU]) (by rw [hw.size]; exact Nat.le_refl _) (fun ad e _ => hw.block _ (by have := HLL.out.2 ad e; omega))
              exact ⟨aD, nD, cD, aU, nU, cU, by rw [dkYes, HGT.out.1, HGT.out.2], by
                show At .i64 _ aD (dkD zs (dkN zs)); rw [HN.out]; exact h1, h2, by show (dkD zs (dkN zs)).length = nD; rw [HN.out]; exact HLD.out, HAA.out.2.2, fun ad e => by have := HLL.out.1 ad e; rw [hw.size]; omega, fun ad e => by have := HLL.out.2 ad e; rw [hw.size]; omega⟩
            · have hde : decide (E = zs) = false := by simpa using heq
              have HNE : Hid (dkE zs ≠ zs) := by show _ ≠ _; rw [HEE.out]; exact heq
              rw [hde] at e5
              simp only [Bool.not_false] at e5
              simp only [e5]
              clear e5 hde heq
              go_wp2_with (first
                | (refine wpList_store_row rfl 28 (.tmp 2) (.tmp 86) rfl w.heap.size #[.bool false, .int .u32 0, .int .u32 0, .slice none 0 0, .slice none 0 0] rfl rfl 28 _ HB9.out.box HSR.out rfl (all5s _ _ _ _ _ _ _ _ _) ?_)
                | fail)
              (try simp only [Exit.inBlock, Exit.then])
              refine bodyPost_ret (v := .agg #[.bool false, .int .u32 0, .int .u32 0, .slice none 0 0, .slice none 0 0]) (results_cell_row rfl _ _ w.heap.size 28 _ (0, 0) _ rfl (setRow_heap _ _ _ _ _ _ HB9.out.box) Try.underlying28 rfl HSR.out) rfl ⟨_, rfl, ?_, HB9.out.below.trans ((Wr.setRow _ _ _).below (Nat.le_refl _))⟩
              rw [dkF_no HNE.out]
              exact DVW.no _ _
end Go.Proofs.Ytmnoelfabldpfaa
