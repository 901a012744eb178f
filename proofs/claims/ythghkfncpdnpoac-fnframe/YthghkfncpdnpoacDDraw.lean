/-
  Own work: a drawn text of a frame, spoilt or not: some bytes, at most 65.
-/
import Derived.Test.YthghkfncpdnpoacDrawF
import Derived.Test.YthghkfncpdnpoacSEnc
import Derived.Test.YthghkfncpdnpoacSDec
import Derived.Test.YthghkfncpdnpoacTornR
import Derived.Deep.WholeRow
namespace Go.Proofs.Ythghkfncpdnpoac
open Go.ChangeShapes Go.WideShapes Go.ChangeAt Go.RowKit
set_option linter.unusedVariables false

def DcPost (w : World) (e : Ending) (w' : World) : Prop :=
  ∃ (a : Option Addr) (n c : Nat) (zs : List Int), e = .returned (.slice a n c) ∧ zs.length = n ∧ n ≤ 65 ∧ Byte zs ∧ At .u8 w' a zs ∧ Below w.heap.size w w'

theorem Own.at_ {w : World} {B : Nat} {v : Value} {zs : List Int} (h : Own w B v zs) : ∃ g c, v = .slice (some ⟨g, 0, none⟩) zs.length c ∧ B ≤ g ∧ g < w.heap.size ∧ zs.length ≤ c ∧ At .u8 w (some ⟨g, 0, none⟩) zs ∧ ∀ i, w.frozen? ⟨g, i, none⟩ = false := by
  obtain ⟨g, c, rfl, hb, hg, hc⟩ := h.base
  obtain ⟨b, o, c', e, hl, hcell⟩ := h.part
  cases e
  refine ⟨g, c, rfl, hb, hg, hc, .inr ⟨g, 0, rfl, hg, hcell⟩, fun i => ?_⟩
  obtain ⟨h1, ⟨h2, _⟩ | ⟨g', cap, cur, hv, hb, hh, _⟩⟩ := h.1
  · cases h2
  · cases hv; exact frozen_of_row w g i cur _ hh
theorem Own.wr {w w' : World} {B g : Nat} {v : Value} {zs : List Int} (h : Own w B v zs) (hw : Wr g w w') (hg : g < B) : Own w' B v zs := by
  refine ⟨⟨h.1.1, ?_⟩, h.2⟩
  rcases h.1.2 with h' | ⟨g', c', cur, h', hBg, hh, r⟩
  · exact .inl h'
  · exact .inr ⟨g', c', cur, h', hBg, by rw [hw.block _ (by omega)]; exact hh, r⟩

theorem Own.set {w : World} {B : Nat} {g c : Nat} {n : Nat} {zs : List Int} (h : Own w B (.slice (some ⟨g, 0, none⟩) n c) zs) (i : Nat) (y : Int) : Own (w.setCell ⟨g, i, none⟩ (.int .u8 y)) B (.slice (some ⟨g, 0, none⟩) n c) (zs.set i y) := by
  obtain ⟨g', c', e⟩ := h.2
  cases e
  have hst := h.1.stored i (.int .u8 y)
  rw [← List.map_set] at hst
  refine ⟨by rw [List.length_set]; exact hst.1, g, c, ?_⟩
  rw [List.length_set]

def catP (y : List Int) : List (List Int) := [y.take 56, four (crc (y.take 56)), y.drop 60]
def catY (y : List Int) : List Int := (catP y).flatten
def GC (y : List Int) (gb cb : Nat) : Nat → World → Value → Prop
  | 0, _, v => v = .slice (some ⟨gb, 0, none⟩) 64 cb
  | 1, _, v => v = .slice (some ⟨gb, 0, none⟩) 56 cb
  | 2, _, v => v = .slice (some ⟨gb, 0, none⟩) 64 cb
  | 3, _, v => v = .slice (some ⟨gb, 0, none⟩) 56 cb
  | 4, _, v => v = .int .u32 (crc (y.take 56))
  | 5, w, v => Part w v (four (crc (y.take 56)))
  | 6, _, v => v = .slice (some ⟨gb, 0, none⟩) 64 cb
  | 7, _, v => v = .slice (some ⟨gb, 60, none⟩) 4 (cb - 60)
  | 8, w, v => ∃ (g : Nat) (vs : List Value), v = .slice (some ⟨g, 0, none⟩) 3 3 ∧ g < w.heap.size ∧ ∀ i, i < 3 → w.cell? ⟨g, i, none⟩ = some (vs.getD i undef) ∧ Part w (vs.getD i undef) ((catP y).getD i [])
  | _, w, v => Part w v (catY y)
theorem GC_mono (y : List Int) (gb cb : Nat) (i : Nat) (w w' : World) (v : Value) (hm : Mono w w') (h : GC y gb cb i w v) : GC y gb cb i w' v := by
  unfold GC at *
  split at h <;> first
    | exact h
    | exact h.mono hm
    | (obtain ⟨g, vs, h1, h2, h3⟩ := h; exact ⟨g, vs, h1, by have := hm.size; omega, fun i hi => ⟨by rw [hm.cell ⟨g, i, none⟩ h2]; exact (h3 i hi).1, (h3 i hi).2.mono hm⟩⟩)

structure DD (w w' : World) (g : Nat) (x : Option Addr) (n cap : Nat) (v : Value) (z : List Int) : Prop where
  cur : CurB w' g x n cap
  txt : CurT w' g x n
  own : Own w' (g + 1) v z
  below : Below w.heap.size w w'
  byte : Byte z
  len : z.length = 64
  gl : w.heap.size ≤ g
  gw : g < w'.heap.size
theorem DD.call {w w' w'' : World} {g : Nat} {x : Option Addr} {n cap : Nat} {v : Value} {z : List Int} (h : DD w w' g x n cap v z) (hc : CurB w'' g x n cap) (hw : Wr g w' w'') : DD w w'' g x n cap v z :=
  ⟨hc, h.txt.wr (fun j hj => hw.block j (by omega)), h.own.wr hw (by omega), h.below.trans (hw.below h.gl), h.byte, h.len, h.gl, by rw [hw.size]; exact h.gw⟩

set_option maxHeartbeats 4000000 in
set_option maxRecDepth 100000 in
theorem drawDec_any (x : Option Addr) (n cap : Nat) (zs : List Int) (w : World) (hl : zs.length = n) (hn : n ≤ 1048576) (hz : Byte zs) (ha : At .u8 w x zs) :
    Calls Try.prog 12 #[.slice x n cap] w (DcPost w) := by
  have HA : Hid _ := ha
  have HZF : Hid _ := Try.sizeFrame
  go_enter Try.func12, Try.ntmps12
  go_wp2_with fail
  refine (new_any x n cap zs _ hl hn hz ha).mono ?_
  rintro e w1 ⟨rfl, hc1, hb1, hs1⟩
  have ht1 : CurT w1 w.heap.size x n := by
    refine ⟨hn, zs, hl, hz, ?_⟩
    rcases HA.out with h | ⟨b, off, e, hbl, hcl⟩
    · exact .inl h
    · exact .inr ⟨b, off, e, hbl, fun i hi => by rw [hb1.cell (p := ⟨b, off + i, none⟩) hbl]; exact hcl i hi⟩
  have hgl : w.heap.size < w1.heap.size := by omega
  clear hs1 HA ha
  go_wp2_with fail
  refine (drawF_any w.heap.size x n cap _ hc1 ht1 hgl).mono ?_
  rintro e w2 ⟨s, k, a, b, rfl, us, ua, ub, hc2, hw2, hk⟩
  have hb2 := (Below.refl w2.heap.size w2).alloc (Nat.le_refl _) (.cells #[.int .u32 s, .int .i64 k, .int .u32 a, .int .u32 b] 25)
  have hwz : ((w2.alloc (.cells #[.int .u32 0, .int .i64 0, .int .u32 0, .int .u32 0] 25)).setRow w2.heap.size #[.int .u32 s, .int .i64 k, .int .u32 a, .int .u32 b]) = w2.alloc (.cells #[.int .u32 s, .int .i64 k, .int .u32 a, .int .u32 b] 25) := World.setRow_alloc_new _ _ _ _
  have HWZ : Hid _ := hwz
  have hs2 := hw2.size
  have hB2 : Below w.heap.size w w2 := hb1.trans (hw2.below _ (Nat.le_refl _) (by omega))
  have ht2 := ht1.wr (w' := w2) (fun j hj => hw2.block j (by omega) (by omega))
  clear hwz hc1 ht1 hb1 hw2
  go_wp2_with (refine wpList_store_row rfl 25 (.tmp 3) (.tmp 11) rfl w2.heap.size #[.int .u32 s, .int .i64 k, .int .u32 a, .int .u32 b] rfl rfl 25 _ (heap_alloc_new w2 _) HZF.out rfl (all4f _ _ _ _) ?_)
  (try rw [HWZ.out])
  have hby := headS_byte s k a b us ua ub
  refine (senc_yes s k a b _ us ua ub hk.1 hk.2).mono ?_
  rintro e w4 ⟨v, rfl, ho4, hb4⟩
  have hs3 : (w2.alloc (.cells #[.int .u32 s, .int .i64 k, .int .u32 a, .int .u32 b] 25)).heap.size = w2.heap.size + 1 := by simp
  have st : DD w w4 w.heap.size x n cap v (encS s k a b) := by
    obtain ⟨i0, h0, p1, p2, p3, p4, p5⟩ := hc2
    have hbb : Below w2.heap.size w2 w4 := hb2.trans (hb4.mono (by omega))
    refine ⟨⟨i0, h0, p1, p2, p3, p4, by rw [hbb.block _ (by omega)]; exact p5⟩, ht2.wr (fun j hj => hbb.block j (by omega)), ho4.lower (by omega), hB2.trans (hbb.mono (by omega)), ?_, encS_len _ _ _ _, Nat.le_refl _, by have := hbb.size; omega⟩
    rw [← enc_eq s k a b us ua ub]; exact encI_byte _ _ _ _
  clear ho4 hb4 hb2 hc2 ht2 hB2 HWZ hby hs3 hk us ua ub
  generalize encS s k a b = z at *
  obtain ⟨gb, cb, rfl, hgb1, hgb2, hcb, _, _⟩ := st.own.at_
  rw [st.len] at hcb ⊢
  generalize w2.heap.size = F at *
  generalize hgg : w.heap.size = g at *
  have HGG : Hid _ := hgg
  clear hgg
  have HST : Hid _ := st
  clear st hgb2
  go_wp2_with fail
  have st := (show DD _ _ _ _ _ _ _ _ from HST.out)
  refine (below_any g x n cap 8 _ st.cur st.txt (by decide) (by decide)).mono ?_
  rintro e w5 ⟨kk, rfl, hk0, hk1, hc5, hw5⟩
  have st5 := st.call hc5 hw5
  clear st hc5 hw5 HST
  go_wp2_with fail
  refine (below_any g x n cap 64 _ st5.cur st5.txt (by decide) (by decide)).mono ?_
  rintro e w6 ⟨at_, rfl, ha0, ha1, hc6, hw6⟩
  have st6 := st5.call hc6 hw6
  clear st5 hc6 hw6
  go_wp2_with fail
  refine (below_any g x n cap 255 _ st6.cur st6.txt (by decide) (by decide)).mono ?_
  rintro e w7 ⟨xx, rfl, hx0, hx1, hc7, hw7⟩
  have st7 := st6.call hc7 hw7
  clear st6 hc7 hw7
  obtain ⟨at_, rfl⟩ := Int.eq_ofNat_of_zero_le ha0
  have hat : at_ < 64 := by omega
  obtain ⟨gb', cb', hv', hgb3, hgb4, hcb4, hAt, hfz⟩ := st7.own.at_
  rw [st7.len] at hv' hcb4
  cases hv'
  obtain rfl | rfl | rfl | rfl | rfl | hk5 : kk = 0 ∨ kk = 1 ∨ kk = 2 ∨ kk = 3 ∨ kk = 4 ∨ 5 ≤ kk := by omega
  · have hb9 := (show Byte z from st7.byte).get at_
    obtain ⟨b9, o9, e9, hbl9, hc9⟩ := hAt.get (by have := st7.len; omega)
    cases e9
    have hcell := hc9 at_ (by have := st7.len; omega)
    rw [Nat.zero_add] at hcell
    have hfr := hfz at_
    have HOS : Hid _ := fun y => st7.own.set at_ y
    have HST7 : Hid _ := st7
    generalize z.getD at_ 0 = zz at *
    have HSE : Hid (∀ y, 0 ≤ y ∧ y < 256 → DcPost w (.returned (.slice (some ⟨gb, 0, none⟩) 64 cb)) (w7.setCell ⟨gb, at_, none⟩ (.int .u8 y))) := fun y hy => by
      obtain ⟨g8, c8, e8, _, _, _, hA8, _⟩ := (HOS.out y).at_
      rw [List.length_set] at e8
      cases e8
      have st := (show DD _ _ _ _ _ _ _ _ from HST7.out)
      refine ⟨_, 64, cb, z.set at_ y, rfl, by rw [List.length_set]; exact st.len, by omega, fun v hv => ?_, hA8, st.below.setCell (by show w.heap.size ≤ gb; have := HGG.out; omega) _⟩
      rcases List.mem_or_eq_of_mem_set hv with h | h
      · exact st.byte v h
      · rw [h]; exact hy
    have hbits : ∀ u v : Int, 0 ≤ bits .xor .u8 u v ∧ bits .xor .u8 u v < 256 := fun u v => by
      have h : ∀ n : Int, 0 ≤ IntKind.u8.wrap n ∧ IntKind.u8.wrap n < 256 := fun n => by rw [IntKind.wrap_u8]; omega
      unfold bits; exact h _
    have HBT : Hid _ := hbits
    clear hAt hfz hc9 st7 hbits
    go_wp2
    go_ret
    exact HSE.out _ (HBT.out _ _)
  · have HE : Hid (DcPost w (.returned (.slice (some ⟨gb, 0, none⟩) at_ cb)) w7) := by
      refine ⟨_, at_, cb, z.take at_, rfl, by have := st7.len; simp; omega, by omega, fun v hv => st7.byte v (List.mem_of_mem_take hv), ?_, st7.below⟩
      rcases hAt with h | ⟨b9, o9, e9, hb9, hc9⟩
      · left; rw [h]; simp
      · cases e9
        exact .inr ⟨gb, 0, rfl, hb9, fun i hi => by
          have hi' : i < at_ := by simp at hi; omega
          rw [hc9 i (by have := st7.len; omega)]; simp [List.getD, hi']⟩
    have hcc : (at_ : Int) ≤ cb := by omega
    clear st7 hAt hfz
    go_wp2
    go_ret
    exact HE.out
  · have HST7 : Hid _ := st7
    clear st7 hAt hfz
    go_wp2_with fail
    have st := (show DD _ _ _ _ _ _ _ _ from HST7.out)
    refine (drawF_any g x n cap w7 st.cur st.txt st.gw).mono ?_
    rintro e w8 ⟨s', k', a', b', rfl, us', ua', ub', hc8, hw8, hk'⟩
    have hs8 := hw8.size
    have A8 : At .u8 w8 (some ⟨gb, 0, none⟩) z := by
      obtain ⟨g8, c8, e8, h1, h2, _, hA8, _⟩ := st.own.at_
      cases e8
      rcases hA8 with h | ⟨b9, o9, e9, hb9, hc9⟩
      · exact .inl h
      · cases e9
        exact .inr ⟨gb, 0, rfl, by omega, fun i hi => by rw [World.cell?_of_block (a := ⟨gb, 0 + i, none⟩) (w := w7) (hw8.block gb h2 (by omega))]; exact hc9 i hi⟩
    have HB8 : Hid (Below w.heap.size w w8) := st.below.trans (hw8.below _ st.gl (by have := st.gl; have := st.gw; omega))
    have HLZ : Hid _ := And.intro st.len st.byte
    have HA8 : Hid _ := A8
    clear HST7 st A8 hc8 hw8
    go_wp2_with fail
    refine (senc_yes s' k' a' b' w8 us' ua' ub' hk'.1 hk'.2).mono ?_
    rintro e w9 ⟨v9, rfl, ho9, hb9⟩
    have hz2 : Byte (encS s' k' a' b') := by rw [← enc_eq s' k' a' b' us' ua' ub']; exact encI_byte _ _ _ _
    have hl2 : (encS s' k' a' b').length = 64 := encS_len _ _ _ _
    obtain ⟨g9, c9, rfl, _, hg9, hc9, hA9, _⟩ := ho9.at_
    rw [hl2] at hc9 ⊢
    generalize encS s' k' a' b' = z2 at *
    have A9 := At.below HA8.out hb9
    have HA9 : Hid _ := A9
    have HAA : Hid _ := hA9
    have HL2 : Hid _ := And.intro hl2 hz2
    have HB9 : Hid (Below w.heap.size w w9) := HB8.out.trans (hb9.mono HB8.out.size)
    clear A9 hA9 hl2 hz2 ho9 hb9 HB8 HA8
    go_wp2_with fail
    refine (tornR_any gb 0 cb g9 0 c9 at_ z z2 w9 HLZ.out.1 HL2.out.1 hcb4 hc9 hat HA9.out HAA.out).mono ?_
    rintro e w10 ⟨v10, rfl, ho10, hb10⟩
    have HE : Hid (DcPost w (.returned v10) w10) := by
      have h1 := HLZ.out.1
      have h2 := HL2.out.1
      obtain ⟨g10, c10, rfl, _, _, _, hA10, _⟩ := ho10.at_
      refine ⟨_, (z.take at_ ++ z2.drop at_).length, c10, z.take at_ ++ z2.drop at_, rfl, rfl, by simp; omega, fun v hv => ?_, hA10, HB9.out.trans (hb10.mono HB9.out.size)⟩
      rcases List.mem_append.1 hv with h | h
      · exact HLZ.out.2 v (List.mem_of_mem_take h)
      · exact HL2.out.2 v (List.mem_of_mem_drop h)
    clear ho10 hb10 HB9 HAA HA9
    go_wp2
    go_ret
    exact HE.out
  · have hb9 := (show Byte z from st7.byte).get (at_ % 56)
    obtain ⟨b9, o9, e9, hbl9, hc9⟩ := hAt.get (by have := st7.len; omega)
    cases e9
    have hcell := hc9 (at_ % 56) (by have := st7.len; omega)
    rw [Nat.zero_add] at hcell
    have hfr := hfz (at_ % 56)
    have HOS : Hid _ := fun y => st7.own.set (at_ % 56) y
    have HST7 : Hid _ := st7
    generalize z.getD (at_ % 56) 0 = zz at *
    clear hAt hfz hc9 st7
    have hbits : ∀ u v : Int, 0 ≤ bits .xor .u8 u v ∧ bits .xor .u8 u v < 256 := fun u v => by
      have h : ∀ n : Int, 0 ≤ IntKind.u8.wrap n ∧ IntKind.u8.wrap n < 256 := fun n => by rw [IntKind.wrap_u8]; omega
      unfold bits; exact h _
    have HBT : Hid _ := hbits
    clear hbits
    go_wp2_with fail
    have hy := HBT.out zz (1 + xx)
    have ho8 := HOS.out (bits .xor .u8 zz (1 + xx))
    have st := (show DD _ _ _ _ _ _ _ _ from HST7.out)
    have hB8 : Below w.heap.size w (w7.setCell ⟨gb, at_ % 56, none⟩ (.int .u8 (bits .xor .u8 zz (1 + xx)))) := st.below.setCell (by show w.heap.size ≤ gb; have := HGG.out; omega) _
    have hz8 : Byte (z.set (at_ % 56) (bits .xor .u8 zz (1 + xx))) := fun v hv => by
      rcases List.mem_or_eq_of_mem_set hv with h | h
      · exact st.byte v h
      · rw [h]; exact hy
    have hl8 : (z.set (at_ % 56) (bits .xor .u8 zz (1 + xx))).length = 64 := by rw [List.length_set]; exact st.len
    obtain ⟨g8, c8, e8, _, hg8, _, hA8, _⟩ := ho8.at_
    rw [hl8, st.len] at e8
    cases e8
    clear HST7 HOS HBT st hcell hfr ho8
    generalize (w7.setCell ⟨gb, at_ % 56, none⟩ (.int .u8 (bits .xor .u8 zz (1 + xx)))) = w8 at *
    generalize z.set (at_ % 56) (bits .xor .u8 zz (1 + xx)) = y at *
    generalize bits .xor .u8 zz (1 + xx) = bb at *
    have hbd := crc_bd (y.take 56)
    have HY : Hid (y.length = 64) := hl8
    have HZ8 : Hid _ := hz8
    have HB8 : Hid _ := hB8
    have HA8 : Hid _ := hA8
    clear hl8 hz8 hB8 hA8 hy
    have hc60 : ¬ (cb = 60) := by omega
    refine wp_region_any (by kernel_rfl) ?_
    refine wpAny_slots (frame := fun t => { tmps := #[Value.slice x n cap, undef, t 10, Value.pointer (some { block := g, off := 0 }), Value.pointer (some { block := F, off := 0 }), Value.slice (some { block := gb, off := 0 }) 64 cb, Value.int IntKind.i64 3, Value.int IntKind.i64 ↑at_, Value.int IntKind.i64 (1 + xx), Value.slice x n cap, Value.pointer (some { block := g, off := 0 }), Value.pointer (some { block := g, off := 0 }), Value.agg #[Value.int IntKind.u32 s, Value.int IntKind.i64 k, Value.int IntKind.u32 a, Value.int IntKind.u32 b], Value.agg #[Value.int IntKind.u32 s, Value.int IntKind.i64 k, Value.int IntKind.u32 a, Value.int IntKind.u32 b], Value.slice (some { block := gb, off := 0 }) 64 cb, Value.pointer (some { block := g, off := 0 }), Value.int IntKind.i64 3, Value.pointer (some { block := g, off := 0 }), Value.int IntKind.i64 ↑at_, Value.pointer (some { block := g, off := 0 }), Value.int IntKind.i64 xx, Value.int IntKind.i64 (1 + xx), Value.int IntKind.i64 3, Value.bool false, undef, undef, undef, undef, undef, undef, undef, undef, undef, undef, Value.int IntKind.i64 3, Value.bool false, undef, undef, undef, Value.int IntKind.i64 3, Value.bool false, undef, undef, undef, undef, undef, undef, Value.int IntKind.i64 3, Value.bool true, Value.slice (some { block := gb, off := 0 }) 64 cb, Value.int IntKind.i64 ↑at_, Value.int IntKind.i64 (↑at_ % 56), Value.slice (some { block := gb, off := 0 }) 64 cb, Value.int IntKind.i64 ↑at_, Value.int IntKind.i64 (↑at_ % 56), Value.pointer (some { block := gb, off := at_ % 56 }), Value.int IntKind.u8 zz, Value.int IntKind.i64 (1 + xx), Value.int IntKind.u8 (1 + xx), Value.int IntKind.u8 bb, Value.pointer (some { block := gb, off := at_ % 56 }), t 0, t 1, t 2, t 3, t 4, t 5, t 6, t 7, t 8, t 9, undef, undef, undef, undef, undef, undef], defers := [] })
      (Ext := fun w' => Below w8.heap.size w8 w') (Good := GC y gb cb) (GC_mono _ _ _) (by kernel_rfl) (by kernel_rfl) ?hop ?hdone _ _ (fun i => if i = 10 then Value.slice none 0 0 else undef) _ (by simp) ?ext ?start (by simp)
    case start => intro i hi h; exact absurd h (by rw [Array.getD_eq_getD_getElem?, Array.getElem?_replicate]; split <;> simp)
    case ext => exact (Below.refl _ _).drew
    case hdone =>
      intro t w' hx hg
      have h10 : Part w' (t 10) (catY y) := hg 10 (by decide)
      clear hg
      have HE : Hid (DcPost w (.returned (t 10)) w') := by
        obtain ⟨b10, o10, c10, e10, hb10, hc10⟩ := h10
        have hl := HY.out
        have hlen : (catY y).length = 64 := by simp [catY, catP, four]; omega
        rw [e10]
        refine ⟨_, (catY y).length, c10, catY y, rfl, rfl, by omega, fun v hv => ?_, .inr ⟨b10, o10, rfl, hb10, hc10⟩, HB8.out.trans (hx.mono HB8.out.size)⟩
        simp only [catY, catP, List.flatten_cons, List.flatten_nil, List.mem_append, List.append_nil] at hv
        rcases hv with h | h | h
        · exact HZ8.out v (List.mem_of_mem_take h)
        · exact four_byte _ (crc_bd _) v h
        · exact HZ8.out v (List.mem_of_mem_drop h)
      clear h10 hx HA8 HB8 HZ8 HY
      go_wp2
      go_ret
      exact HE.out
    case hop =>
      intro i o t w' ho hx hdep K hK
      have hi : i < 11 := (Array.getElem?_eq_some_iff.1 ho).1
      have hA' := At.below HA8.out hx
      have hls := hx.size
      obtain rfl | rfl | rfl | rfl | rfl | rfl | rfl | rfl | rfl | rfl | rfl : i = 0 ∨ i = 1 ∨ i = 2 ∨ i = 3 ∨ i = 4 ∨ i = 5 ∨ i = 6 ∨ i = 7 ∨ i = 8 ∨ i = 9 ∨ i = 10 := by omega
      all_goals (simp at ho; subst ho)
      · clear hdep hA'
        go_simp
        exact hK w' _ rfl hx (Mono.refl _)
      · have d : t 0 = _ := hdep ⟨0, .data⟩ (by simp) rfl
        have hc56 : (56 : Int) ≤ cb := by omega
        clear hdep hA'
        go_simp
        simpa [upd, d] using hK w' (.slice (some ⟨gb, 0, none⟩) 56 cb) rfl hx (Mono.refl _)
      · clear hdep hA'
        go_simp
        exact hK w' _ rfl hx (Mono.refl _)
      · have d : t 2 = _ := hdep ⟨2, .data⟩ (by simp) rfl
        have hc56 : (56 : Int) ≤ cb := by omega
        clear hdep hA'
        go_simp
        simpa [upd, d] using hK w' (.slice (some ⟨gb, 0, none⟩) 56 cb) rfl hx (Mono.refl _)
      · have d : t 3 = _ := hdep ⟨3, .data⟩ (by simp) rfl
        have hat2 : At .u8 w' (some ⟨gb, 0, none⟩) (y.take 56) := by
          rcases hA' with h | ⟨b9, o9, e9, hb9, hc9⟩
          · left; rw [h]; rfl
          · cases e9
            exact .inr ⟨gb, 0, rfl, hb9, fun i hi => by
              have hi' : i < 56 ∧ i < y.length := by simp at hi; omega
              rw [hc9 i hi'.2]; simp [List.getD, hi'.1]⟩
        clear hdep hA'
        go_simp
        refine (crcS_any _ 56 _ (y.take 56) _ (by have := HY.out; simp; omega) (by decide) hat2 (fun v hv => HZ8.out v (List.mem_of_mem_take hv))).mono ?_
        rintro e w2 ⟨rfl, rfl⟩
        go_simp
        simpa [upd, d] using hK w2 (.int .u32 (crc (y.take 56))) rfl hx (Mono.refl _)
      · have d : t 4 = _ := hdep ⟨4, .data⟩ (by simp) rfl
        clear hdep hA'
        go_simp
        refine (four_any (crc (y.take 56)) _ hbd).mono ?_
        rintro e w2 ⟨rfl, rfl⟩
        have hb := below_new w' (.cells #[.int .u8 ((crc (y.take 56)) % 256), .int .u8 ((crc (y.take 56)) / 256 % 256), .int .u8 ((crc (y.take 56)) / 65536 % 256), .int .u8 ((crc (y.take 56)) / 16777216)] 5)
        go_simp
        simpa [upd, d] using hK (w'.alloc (.cells #[.int .u8 ((crc (y.take 56)) % 256), .int .u8 ((crc (y.take 56)) / 256 % 256), .int .u8 ((crc (y.take 56)) / 65536 % 256), .int .u8 ((crc (y.take 56)) / 16777216)] 5)) (.slice (some ⟨w'.heap.size, 0, none⟩) 4 4) (part_new _ #[.int .u8 ((crc (y.take 56)) % 256), .int .u8 ((crc (y.take 56)) / 256 % 256), .int .u8 ((crc (y.take 56)) / 65536 % 256), .int .u8 ((crc (y.take 56)) / 16777216)] (four (crc (y.take 56))) _ rfl _ rfl _) (hx.trans (hb.mono hls)) (Mono.of_below hb)
      · clear hdep hA'
        go_simp
        exact hK w' _ rfl hx (Mono.refl _)
      · have d : t 6 = _ := hdep ⟨6, .data⟩ (by simp) rfl
        clear hdep hA'
        go_simp
        simpa [upd, d, hc60] using hK w' (.slice (some ⟨gb, 60, none⟩) 4 (cb - 60)) rfl hx (Mono.refl _)
      · have hd2 : t 1 = .slice (some ⟨gb, 0, none⟩) 56 cb := hdep ⟨1, .data⟩ (by simp) rfl
        obtain ⟨b4, o4, p4, d4, l4, e4⟩ := hdep ⟨5, .data⟩ (by simp) rfl
        have hd8 : t 7 = .slice (some ⟨gb, 60, none⟩) 4 (cb - 60) := hdep ⟨7, .data⟩ (by simp) rfl
        clear hdep
        have hd4 : t 5 = .slice (some ⟨b4, o4, none⟩) 4 p4 := d4
        have hl := HY.out
        have hb := below_new w' (.cells #[.slice (some ⟨gb, 0, none⟩) 56 cb, .slice (some ⟨b4, o4, none⟩) 4 p4, .slice (some ⟨gb, 60, none⟩) 4 (cb - 60)] 22)
        have hm := Mono.of_below hb
        obtain ⟨b9, o9, e9, hb9, hc9⟩ := At.get hA' (by omega)
        cases e9
        have q2 : Part w' (.slice (some ⟨gb, 0, none⟩) 56 cb) (y.take 56) := ⟨gb, 0, cb, by congr 1; simp; omega, hb9, fun i hi => by
          have hi' : i < 56 := by simp at hi; omega
          rw [hc9 i (by omega)]; simp [List.getD, hi']⟩
        have q4 : Part w' (.slice (some ⟨b4, o4, none⟩) 4 p4) (four (crc (y.take 56))) := ⟨b4, o4, p4, rfl, l4, e4⟩
        have q8 : Part w' (.slice (some ⟨gb, 60, none⟩) 4 (cb - 60)) (y.drop 60) := ⟨gb, 60, cb - 60, by congr 1; simp; omega, hb9, fun i hi => by
          have hi' : i < 4 := by simp at hi; omega
          have := hc9 (60 + i) (by omega)
          rw [Nat.zero_add] at this
          rw [this]; simp [List.getD]⟩
        have HG : Hid (GC y gb cb 8 (w'.alloc (.cells #[.slice (some ⟨gb, 0, none⟩) 56 cb, .slice (some ⟨b4, o4, none⟩) 4 p4, .slice (some ⟨gb, 60, none⟩) 4 (cb - 60)] 22)) (.slice (some ⟨w'.heap.size, 0, none⟩) 3 3)) := by
          refine ⟨w'.heap.size, [.slice (some ⟨gb, 0, none⟩) 56 cb, .slice (some ⟨b4, o4, none⟩) 4 p4, .slice (some ⟨gb, 60, none⟩) 4 (cb - 60)], rfl, by simp, fun i hi => ?_⟩
          rw [cell_of_row _ _ i _ _ (0, 0) (heap_alloc_new w' _)]
          obtain rfl | rfl | rfl : i = 0 ∨ i = 1 ∨ i = 2 := by omega
          · exact ⟨rfl, q2.mono hm⟩
          · exact ⟨rfl, q4.mono hm⟩
          · exact ⟨rfl, q8.mono hm⟩
        clear e4 d4 q2 q4 q8 hc9 hA'
        go_simp
        simpa [upd, hd2, hd4, hd8] using hK _ _ HG.out (hx.trans (hb.mono hls)) hm
      · obtain ⟨g9, vs, d, hgl, hcell⟩ := hdep ⟨8, .data⟩ (by simp) rfl
        have hc := fun i hi => (hcell i hi).1
        have hp := fun i hi => (hcell i hi).2
        clear hdep hcell hA'
        have HC : Hid _ := hc
        have HP : Hid _ := hp
        clear hc hp
        go_simp
        refine (cat_any g9 3 3 vs (catP y) _ rfl hgl HC.out HP.out (by have := HY.out; simp [catP, four]; omega) (by decide)).mono ?_
        rintro e w2 ⟨v, rfl, hown, hb⟩
        go_simp
        simpa [upd, d] using hK w2 v hown.part (hx.trans (hb.mono hls)) (Mono.of_below hb)
      · have d := hdep ⟨9, .data⟩ (by simp) rfl
        clear hdep hA'
        go_simp
        exact hK w' (t 9) d hx (Mono.refl _)
  · have HST7 : Hid _ := st7
    have ho7 : Own w7 g _ z := st7.own.lower (by omega)
    rw [st7.len] at ho7
    have hs7 := st7.gw
    clear st7 hAt hfz
    go_wp2_with (at_builtin; (refine wpList_app _ rfl _ _ rfl g _ _ rfl (ho7.alloc _) ⟨w7.heap.size, 0, none⟩ 1 1 [0] rfl rfl ?c1 ?c2 ?c3 ?_))
    case c1 => intro j hj; obtain rfl : j = 0 := by omega
               simp [Addr.add]
    (try (case c2 => have := (show DD _ _ _ _ _ _ _ _ from HST7.out).len; first | omega | (simp; omega)))
    (try (case c3 => first | omega | (simp; omega)))
    intro v' w8 ho8 hb8 _
    have HE : Hid (DcPost w (.returned v') w8) := by
      have st := (show DD _ _ _ _ _ _ _ _ from HST7.out)
      have hll := st.len
      obtain ⟨g8, c8, rfl, _, _, _, hA8, _⟩ := ho8.at_
      refine ⟨_, (z ++ [0]).length, c8, z ++ [0], rfl, rfl, by simp; omega, fun v hv => ?_, hA8, (st.below.alloc (by have := st.gl; omega) _).trans (hb8.mono (by rw [← HGG.out]; exact Nat.le_refl _))⟩
      rcases List.mem_append.1 hv with h | h
      · exact st.byte v h
      · simp at h; omega
    clear ho8 hb8 ho7 HST7
    go_wp2
    go_ret
    exact HE.out
  · have HE : Hid (DcPost w (.returned (.slice (some ⟨gb, 0, none⟩) 64 cb)) w7) := ⟨_, 64, cb, z, rfl, st7.len, by omega, st7.byte, hAt, st7.below⟩
    have e0 : (kk == 0) = false := by simp; omega
    have e1 : (kk == 1) = false := by simp; omega
    have e2 : (kk == 2) = false := by simp; omega
    have e3 : (kk == 3) = false := by simp; omega
    have e4 : (kk == 4) = false := by simp; omega
    clear st7 hAt hfz
    go_wp2
    go_ret
    exact HE.out
end Go.Proofs.Ythghkfncpdnpoac
