/-
  Own work: DrawDecodeSnap: some bytes (written by wip/mkdrd.py).
-/
import Derived.Test.YtmnoelfabldpfaaDrE
import Derived.Test.YtmnoelfabldpfaaDkS
namespace Go.Proofs.Ytmnoelfabldpfaa
open Go.ChangeShapes Go.WideShapes Go.ChangeAt Go.RowKit
set_option linter.unusedVariables false

theorem Own.atD {w : World} {B : Nat} {v : Value} {zs : List Int} (h : Own w B v zs) : ∃ g c, v = .slice (some ⟨g, 0, none⟩) zs.length c ∧ B ≤ g ∧ g < w.heap.size ∧ zs.length ≤ c ∧ At .u8 w (some ⟨g, 0, none⟩) zs ∧ ∀ i, w.frozen? ⟨g, i, none⟩ = false := by
  obtain ⟨g, c, rfl, hb, hg, hc⟩ := h.base
  obtain ⟨b, o, c', e, hl, hcell⟩ := h.part
  cases e
  refine ⟨g, c, rfl, hb, hg, hc, .inr ⟨g, 0, rfl, hg, hcell⟩, fun i => ?_⟩
  obtain ⟨h1, ⟨h2, _⟩ | ⟨g', cap, cur, hv, hb, hh, _⟩⟩ := h.1
  · cases h2
  · cases hv; exact frozen_of_row w g i cur _ hh
theorem Own.keepD {w w' : World} {B : Nat} {v : Value} {zs : List Int} (h : Own w B v zs) (hk : ∀ k, B ≤ k → k < w.heap.size → w'.heap[k]? = w.heap[k]?) : Own w' B v zs := by
  refine ⟨⟨h.1.1, ?_⟩, h.2⟩
  rcases h.1.2 with h' | ⟨g', c', cur, h', hBg, hh, r⟩
  · exact .inl h'
  · exact .inr ⟨g', c', cur, h', hBg, by rw [hk g' hBg (lt_of_get hh)]; exact hh, r⟩
theorem Own.setD {w : World} {B : Nat} {g c : Nat} {n : Nat} {zs : List Int} (h : Own w B (.slice (some ⟨g, 0, none⟩) n c) zs) (i : Nat) (y : Int) : Own (w.setCell ⟨g, i, none⟩ (.int .u8 y)) B (.slice (some ⟨g, 0, none⟩) n c) (zs.set i y) := by
  obtain ⟨g', c', e⟩ := h.2
  cases e
  have hst := h.1.stored i (.int .u8 y)
  rw [← List.map_set] at hst
  refine ⟨by rw [List.length_set]; exact hst.1, g, c, ?_⟩
  rw [List.length_set]
/-- A text, as a value. -/
def TxP (w : World) (v : Value) : Prop := ∃ (a : Option Addr) (n c : Nat) (zs : List Int), v = .slice a n c ∧ zs.length = n ∧ n ≤ c ∧ n ≤ 1048576 ∧ Byte zs ∧ At .u8 w a zs
theorem TxP.of_own {w : World} {B : Nat} {v : Value} {zs : List Int} (h : Own w B v zs) (hl : zs.length ≤ 1048576) (hz : Byte zs) : TxP w v := by
  obtain ⟨g, c, e, _, _, hc, ha, _⟩ := h.atD
  exact ⟨_, _, c, zs, e, rfl, hc, hl, hz, ha⟩
theorem TxP.below {w w' : World} {v : Value} (h : TxP w v) (b : Below w.heap.size w w') : TxP w' v := by
  obtain ⟨a, n, c, zs, e, h1, h2, h3, h4, h5⟩ := h; exact ⟨a, n, c, zs, e, h1, h2, h3, h4, h5.below b⟩
theorem xor_bd (u v : Int) : 0 ≤ bits .xor .u8 u v ∧ bits .xor .u8 u v < 256 := by
  have h : ∀ n : Int, 0 ≤ IntKind.u8.wrap n ∧ IntKind.u8.wrap n < 256 := fun n => by rw [IntKind.wrap_u8]; omega
  unfold bits; exact h _
theorem byte_setD {zs : List Int} (hz : Byte zs) (i : Nat) {y : Int} (hy : 0 ≤ y ∧ y < 256) : Byte (zs.set i y) := fun v hv => by
  rcases List.mem_or_eq_of_mem_set hv with h | h
  · exact hz v h
  · rw [h]; exact hy
/-- While the text is drawn. -/
structure DD (w : World) (g : Nat) (x : Option Addr) (n cap bq cb : Nat) (zs : List Int) (wr : World) : Prop where
  cu : CurB wr g x n cap
  ct : CurT wr g x n
  own : Own wr (g + 1) (.slice (some ⟨bq, 0, none⟩) 128 cb) zs
  below : Below w.heap.size w wr
  hg : w.heap.size ≤ g
  len : zs.length = 128
  byte : Byte zs
section
variable {w wr w' : World} {g : Nat} {x : Option Addr} {n cap bq cb : Nat} {zs : List Int}
theorem DD.cur (h : DD w g x n cap bq cb zs wr) (hc : CurB w' g x n cap) (hw : Wr g wr w') : DD w g x n cap bq cb zs w' :=
  ⟨hc, h.ct.wr (fun q hq => hw.block q (by omega)), h.own.keepD (fun k hk _ => hw.block k (by omega)), h.below.trans (hw.below h.hg), h.hg, h.len, h.byte⟩
theorem DD.facts (h : DD w g x n cap bq cb zs wr) : At .u8 wr (some ⟨bq, 0, none⟩) zs ∧ g < bq ∧ bq < wr.heap.size ∧ 128 ≤ cb ∧ (∀ i, wr.frozen? ⟨bq, i, none⟩ = false) ∧ ∀ i, i < 128 → wr.cell? ⟨bq, i, none⟩ = some (.int .u8 (zs.getD i 0)) := by
  obtain ⟨g', c', e, h1, h2, h3, h4, h5⟩ := h.own.atD
  rw [h.len] at e
  cases e
  refine ⟨h4, h1, h2, by have := h.len; omega, h5, fun i hi => ?_⟩
  rcases h4 with h4 | ⟨b, o, e, _, hc⟩
  · have := h.len; rw [h4] at this; simp at this
  · cases e
    have := hc i (by have := h.len; omega)
    rw [Nat.zero_add] at this; exact this
theorem DD.set (h : DD w g x n cap bq cb zs wr) (i : Nat) {y : Int} (hy : 0 ≤ y ∧ y < 256) : DD w g x n cap bq cb (zs.set i y) (wr.setCell ⟨bq, i, none⟩ (.int .u8 y)) := by
  have hf := h.facts
  have hw : Wr bq wr (wr.setCell ⟨bq, i, none⟩ (.int .u8 y)) := (Wr.refl _ _).setCell i _
  exact ⟨h.cu.keep (hw.block g (by omega)), h.ct.wr (fun q hq => hw.block q (by omega)), h.own.setD i y, h.below.trans (hw.below (by have := h.hg; omega)), h.hg, by rw [List.length_set]; exact h.len, byte_setD h.byte i hy⟩
end
theorem PtL.below {w w' : World} {v : Value} {zss : List (List Int)} (h : PtL w v zss) (b : Below w.heap.size w w') : PtL w' v zss := h.mono (Mono.of_below b)
/-- What is through keeps its order. -/
def ClG (tb : List (Nat × Nat)) (L : Nat → Bool) : Prop := ∀ p, p ∈ tb → L p.1 = true → L p.2 = true
theorem ClG.step {tb : List (Nat × Nat)} {L : Nat → Bool} (h : ClG tb L) (i : Nat) (hd : ∀ p, p ∈ tb → p.1 = i → L p.2 = true) : ClG tb (updK L i) := by
  intro p hp h1
  have hu : ∀ k, L k = true → updK L i k = true := fun k hk => by unfold updK; split <;> simp [hk]
  by_cases e : p.1 = i
  · exact hu _ (hd p hp e)
  · unfold updK at h1
    rw [if_neg e] at h1
    exact hu _ (h p hp h1)
theorem ClG.back {tb : List (Nat × Nat)} {L : Nat → Bool} (h : ClG tb L) {a b : Nat} (hp : (a, b) ∈ tb) (hb : L b = false) : L a = false := by
  cases ha : L a with
  | false => rfl
  | true => have := h _ hp ha; rw [hb] at this; cases this
theorem ClG.none {tb : List (Nat × Nat)} {L : Nat → Bool} (h : ∀ i, L i = false) : ClG tb L := fun p _ h1 => by rw [h] at h1; cases h1
theorem ite_no {c : Bool} {A B : Prop} (h : c = false) (hb : B) : if c = true then A else B := by subst h; simpa using hb
theorem DD.call {w wr w' : World} {g : Nat} {x : Option Addr} {n cap bq cb : Nat} {zs : List Int} (h : DD w g x n cap bq cb zs wr) (b : Below wr.heap.size wr w') : DD w g x n cap bq cb zs w' :=
  ⟨h.cu.keep (b.block g h.cu.lt), h.ct.wr (fun q hq => b.block q (Nat.lt_trans hq h.cu.lt)), h.own.keepD (fun k _ hk => b.block k hk), h.below.trans (b.mono h.below.size), h.hg, h.len, h.byte⟩
theorem DD.wrg {w wr w' : World} {g : Nat} {x : Option Addr} {n cap bq cb : Nat} {zs : List Int} (h : DD w g x n cap bq cb zs wr) (hc : CurB w' g x n cap) (hw : WrG g wr w') : DD w g x n cap bq cb zs w' :=
  ⟨hc, h.ct.wr (fun q hq => hw.block q (Nat.lt_trans hq h.cu.lt) (by omega)), h.own.keepD (fun k hk hl => hw.block k hl (by omega)), h.below.trans (hw.below _ h.hg h.below.size), h.hg, h.len, h.byte⟩
/-- A valid snap, as a value. -/
def SnVS (g : Nat) (w : World) (v : Value) : Prop := ∃ gn tl aD nD cD aU nU cU D U, v = .agg #[.int .u32 gn, .int .u32 tl, .slice aD nD cD, .slice aU nU cU] ∧ U32 gn ∧ U32 tl ∧ SnP gn tl D U ∧ D.length ≤ 300 ∧ U.length ≤ 300 ∧ Iow (g + 1) w (.slice aD nD cD) D ∧ Iow (g + 1) w (.slice aU nU cU) U
theorem SnVS.wrg {g : Nat} {w w' : World} {v : Value} (h : SnVS g w v) (hw : WrG g w w') : SnVS g w' v := by
  obtain ⟨gn, tl, aD, nD, cD, aU, nU, cU, D, U, e, h1, h2, h3, h4, h5, h6, h7⟩ := h
  exact ⟨gn, tl, aD, nD, cD, aU, nU, cU, D, U, e, h1, h2, h3, h4, h5, h6.keep (fun k hk hl => hw.block k hl (by omega)), h7.keep (fun k hk hl => hw.block k hl (by omega))⟩
/-- Bytes behind the cursor, as a value of length m, from offset o on. -/
def TxS (g o m : Nat) (w : World) (v : Value) : Prop := ∃ b c z, v = .slice (some ⟨b, o, none⟩) m c ∧ m ≤ c ∧ z.length = m ∧ Byte z ∧ g < b ∧ At .u8 w (some ⟨b, o, none⟩) z
theorem TxS.wrg {g o m : Nat} {w w' : World} {v : Value} (h : TxS g o m w v) (hw : WrG g w w') : TxS g o m w' v := by
  obtain ⟨b, c, z, e, h1, h2, h3, h4, h5⟩ := h
  refine ⟨b, c, z, e, h1, h2, h3, h4, ?_⟩
  rcases h5 with h5 | ⟨b', o', e', hl, hc⟩
  · exact .inl h5
  · cases e'
    exact .inr ⟨b, o, rfl, Nat.lt_of_lt_of_le hl hw.size, fun i hi => by rw [World.cell?_of_block (a := ⟨b, o + i, none⟩) (w := w) (hw.block b hl (by omega))]; exact hc i hi⟩
/-- append of bytes to a row of the call's own, as one operation. -/
theorem wp_appB8 (w : World) {o : Oper} {a : Act} {K : Act → World → Prop} {Q : Exit → Act → World → Prop} (sx x : Operand)
    (hop : o.op = Op.call { callee := Callee.builtin Builtin.append, args := #[sx, x], argTypes := #[22, 22] }) (B : Nat) (v : Value) (n : Nat) (xs : List Int) (hs : a.eval sx = v) (hown : w.ownsRow B 5 1 v n (xs.map (Value.int .u8)))
    (b off m c : Nat) (zs : List Int) (hx : a.eval x = .slice (some ⟨b, off, none⟩) m c) (hl : zs.length = m) (hc : ∀ i, i < zs.length → w.cell? ⟨b, off + i, none⟩ = some (.int .u8 (zs.getD i 0))) (hm : n + m ≤ 1048576) (hB : B ≤ w.heap.size)
    (hK : ∀ v' w', w'.ownsRow B 5 1 v' (n + m) ((xs ++ zs).map (Value.int .u8)) → w.grownBy w' v.ownBlock → K (a.put o.dst v') w') : o.wp Try.prog a w K Q := by
  obtain ⟨i0, hi, hz0, hz1, hz2⟩ := info_parts Try.infoU8
  obtain ⟨v', w', hr, h2, h3, h4, h5⟩ := run_append_own_at (P := Try.prog) w B 22 o.type 5 i0 (.int .u8 0) 1 1 Try.underlying22 hi hz0 hz1 hz2 rfl (by decide) v n _ hown ⟨b, off, none⟩ m c (zs.map (Value.int .u8)) (by simp [hl]) (by
    intro j u hu
    have hj : j < zs.length := by have := (List.getElem?_eq_some_iff.1 hu).1; simpa using this
    rw [Addr.add_lit, hc j hj]
    simp [hj] at hu; simp [hj, hu]) (ints_oneCell _ _) (by unfold maxLen; omega) (by omega) hB
  have hk := hK v' w' (by rw [List.map_append]; exact h2) h3
  unfold Oper.wp execOp
  simp only [hop, resolve, invoke, builtin, Sem.run_bind, Sem.run_pure, Result.andThen_ok, List.map_toArray, List.map_cons, List.map_nil, hs, hx, hr]
  exact hk
theorem owns_short {w : World} {B bq n c m : Nat} {zs : List Int} (h : w.ownsRow B 5 1 (.slice (some ⟨bq, 0, none⟩) n c) n (zs.map (Value.int .u8))) (hm : m ≤ n) : w.ownsRow B 5 1 (.slice (some ⟨bq, 0, none⟩) m c) m ((zs.take m).map (Value.int .u8)) := by
  obtain ⟨h1, ⟨h2, _⟩ | ⟨g', cap, cur, hv, hb, hh, hc, hm', hs, ht⟩⟩ := h
  · cases h2
  · cases hv
    have hlz : zs.length = n := by simpa using h1
    refine ⟨by simp; omega, .inr ⟨bq, c, cur, rfl, hb, hh, by omega, hm', hs, ?_⟩⟩
    rw [Nat.mul_one] at ht ⊢
    rw [List.map_take, ← ht, List.take_take, Nat.min_eq_left hm]
set_option maxRecDepth 100000 in
set_option maxHeartbeats 16000000 in
theorem drawD_any (x : Option Addr) (n cap : Nat) (ys : List Int) (w : World) (hl : ys.length = n) (hn : n ≤ 1048576) (hz : Byte ys) (ha : At .u8 w x ys) :
    Calls Try.prog 17 #[.slice x n cap] w fun e w' => ∃ v, e = .returned v ∧ TxP w' v ∧ Below w.heap.size w w' := by
  have HZ : Hid (ys.length = n ∧ Byte ys ∧ At .u8 w x ys) := ⟨hl, hz, ha⟩
  clear ha hl hz
  go_enter Try.func17, Try.ntmps17
  go_wp2_with fail
  refine (new_any x n cap ys w HZ.out.1 hn HZ.out.2.1 HZ.out.2.2).mono ?_
  rintro e w1 ⟨rfl, hcb, hb1, hz1⟩
  obtain ⟨g, hgg⟩ : ∃ g, w.heap.size = g := ⟨_, rfl⟩
  rw [hgg] at hcb hb1 hz1 ⊢
  have HCT : Hid (CurT w1 g x n) := by
    refine ⟨hn, ys, HZ.out.1, HZ.out.2.1, ?_⟩
    rcases HZ.out.2.2 with h | ⟨b, off, e, hb, hc⟩
    · exact .inl h
    · exact .inr ⟨b, off, e, by omega, fun i hi => by rw [hb1.cell (p := ⟨b, off + i, none⟩) (by show b < g; omega)]; exact hc i hi⟩
  have HB1 : Hid (Below w.heap.size w w1) := by rw [hgg]; exact hb1
  have HCB := hid_of hcb
  have HG : Hid (w.heap.size = g ∧ w1.heap.size = g + 1) := ⟨hgg, hz1⟩
  clear hcb hb1 hz1 hgg
  go_wp2_with fail
  refine (drawSn_any g x n cap w1 HCB.out HCT.out).mono ?_
  rintro e w2 ⟨v, rfl, hv⟩
  obtain ⟨gn, tl, aD, nD, cD, aU, nU, cU, D, U, rfl, ug, ut, hsn, lD, lU, i1, i2, ap, cb2, wg⟩ := hv
  obtain ⟨sD, mD, _⟩ := i1.sat
  obtain ⟨sU, mU, _⟩ := i2.sat
  have A := hid_of (ses_any gn tl aD aU nD cD nU cU D U w2 mD mU (by omega) (by omega) sD.at_ sU.at_ ug ut)
  have HE : Hid ((snE gn tl D U).length = 128 ∧ Byte (snE gn tl D U)) := ⟨by unfold snE; rw [snB_yes hsn]; exact END_len, snE_byte ug ut⟩
  have HC2 := hid_of cb2
  have HT2 : Hid (CurT w2 g x n) := HCT.out.wr (fun q hq => wg.block q (by have := HG.out; omega) (by omega))
  have HB2 : Hid (Below w.heap.size w w2 ∧ g + 1 ≤ w2.heap.size) := ⟨HB1.out.trans (wg.below w.heap.size (by have := HG.out; omega) (by have := HG.out; omega)), by have := wg.size; have := HG.out; omega⟩
  clear ug ut hsn lD lU i1 i2 ap cb2 wg sD sU mD mU HCT HCB HB1
  generalize snE gn tl D U = zs at *
  go_wp2_with fail
  refine A.out.mono ?_
  rintro e w3 ⟨v3, rfl, ho3, hb3⟩
  obtain ⟨bq, cb, rfl, hbq, hbl, hcb⟩ := ho3.base
  have HD3 : Hid (DD w g x n cap bq cb zs w3) := ⟨HC2.out.keep (hb3.block g HC2.out.lt), HT2.out.wr (fun q hq => hb3.block q (by have := HC2.out.lt; omega)), by have := ho3.lower (B' := g + 1) HB2.out.2; rwa [HE.out.1] at this, HB2.out.1.trans (hb3.mono HB2.out.1.size), by have := HG.out; omega, HE.out.1, HE.out.2⟩
  rw [HE.out.1]
  clear A ho3 hb3 hbq hbl hcb HC2 HT2 HB2 HE
  go_wp2_with fail
  refine (below_any g x n cap 7 w3 HD3.out.cu HD3.out.ct (by decide) (by decide)).mono ?_
  rintro e w4 ⟨k, rfl, k0, k1, hc4, hw4⟩
  have HD4 : Hid (DD w g x n cap bq cb zs w4) := HD3.out.cur hc4 hw4
  clear hc4 hw4 HD3
  go_wp2_with fail
  refine (below_any g x n cap 128 w4 HD4.out.cu HD4.out.ct (by decide) (by decide)).mono ?_
  rintro e w5 ⟨ai, rfl, a0, a1, hc5, hw5⟩
  have HD5 : Hid (DD w g x n cap bq cb zs w5) := HD4.out.cur hc5 hw5
  obtain ⟨at_, rfl⟩ := Int.eq_ofNat_of_zero_le a0
  have hat : at_ < 128 := by omega
  clear hc5 hw5 HD4 a0 a1
  go_wp2_with fail
  refine (below_any g x n cap 255 w5 HD5.out.cu HD5.out.ct (by decide) (by decide)).mono ?_
  rintro e w6 ⟨xx, rfl, x0, x1, hc6, hw6⟩
  have HD6 : Hid (DD w g x n cap bq cb zs w6) := HD5.out.cur hc6 hw6
  clear hc6 hw6 HD5
  obtain rfl | rfl | rfl | rfl | hk4 : k = 0 ∨ k = 1 ∨ k = 2 ∨ k = 3 ∨ 4 ≤ k := by omega
  · have hfc := HD6.out.facts
    have hcell := hfc.2.2.2.2.2 at_ hat
    have hfr := hfc.2.2.2.2.1 at_
    have hzb := HD6.out.byte.get at_
    obtain ⟨zz, hzz⟩ : ∃ zz, zs.getD at_ 0 = zz := ⟨_, rfl⟩
    rw [hzz] at hcell hzb
    obtain ⟨z0, z1⟩ := hzb
    have hlt : (at_ : Int) < 128 := by omega
    have HSE : Hid (∀ y, 0 ≤ y ∧ y < 256 → TxP (w6.setCell ⟨bq, at_, none⟩ (.int .u8 y)) (.slice (some ⟨bq, 0, none⟩) 128 cb) ∧ Below w.heap.size w (w6.setCell ⟨bq, at_, none⟩ (.int .u8 y))) := fun y hy => by
      have hd := HD6.out.set at_ hy
      have ho := hd.own
      exact ⟨TxP.of_own ho (by rw [hd.len]; decide) hd.byte, hd.below⟩
    clear hfc hzz
    go_wp2
    go_ret
    exact ⟨_, rfl, HSE.out _ (xor_bd _ _)⟩
  · have hfc := HD6.out.facts
    have HF : Hid (TxP w6 (.slice (some ⟨bq, 0, none⟩) at_ cb) ∧ Below w.heap.size w w6) := ⟨⟨_, at_, cb, zs.take at_, rfl, by have := HD6.out.len; simp; omega, by omega, by omega, fun z h => HD6.out.byte z (List.mem_of_mem_take h), .inr ⟨bq, 0, rfl, hfc.2.2.1, fun i hi => by
      have hi' : i < at_ := by simp at hi; omega
      rw [Nat.zero_add, hfc.2.2.2.2.2 i (by omega)]; simp [List.getD, hi']⟩⟩, HD6.out.below⟩
    have hcc : (at_ : Int) ≤ cb := by omega
    clear hfc
    go_wp2
    go_ret
    exact ⟨_, rfl, HF.out⟩
  · have hfc := HD6.out.facts
    have hcell := hfc.2.2.2.2.2 (at_ % 120) (by omega)
    have hfr := hfc.2.2.2.2.1 (at_ % 120)
    have hzb := HD6.out.byte.get (at_ % 120)
    obtain ⟨zz, hzz⟩ : ∃ zz, zs.getD (at_ % 120) 0 = zz := ⟨_, rfl⟩
    rw [hzz] at hcell hzb
    obtain ⟨z0, z1⟩ := hzb
    have HSE : Hid (∀ y, 0 ≤ y ∧ y < 256 → DD w g x n cap bq cb (zs.set (at_ % 120) y) (w6.setCell ⟨bq, at_ % 120, none⟩ (.int .u8 y))) := fun y hy => HD6.out.set (at_ % 120) hy
    clear hfc hzz
    go_upto_region 13 with fail
    have HD := hid_of (HSE.out _ (xor_bd zz (1 + xx)))
    clear HSE HD6 hcell hfr z0 z1
    generalize zs.set (at_ % 120) (bits .xor .u8 zz (1 + xx)) = zs at *
    generalize w6.setCell ⟨bq, at_ % 120, none⟩ (.int .u8 (bits .xor .u8 zz (1 + xx))) = w8 at *
    obtain ⟨cr, hcr⟩ : ∃ cr, crc (zs.take 120) = cr := ⟨_, rfl⟩
    have HU : Hid (U32 cr) := by rw [← hcr]; exact crc_bd _
    have hfc := HD.out.facts
    have hz := HD.out.byte
    have hlen := HD.out.len
    have HPA : Hid (∀ w', Below w8.heap.size w8 w' → Part w' (.slice (some ⟨bq, 0, none⟩) 120 cb) (zs.take 120) ∧ Part w' (.slice (some ⟨bq, 124, none⟩) 4 (cb - 124)) (zs.drop 124)) := fun w' b => by
      have hb : bq < w'.heap.size := Nat.lt_of_lt_of_le hfc.2.2.1 b.size
      refine ⟨⟨bq, 0, cb, by simp [hlen], hb, fun i hi => ?_⟩, ⟨bq, 124, cb - 124, by simp [hlen], hb, fun i hi => ?_⟩⟩
      · have hi' : i < 120 := by simp at hi; omega
        rw [Nat.zero_add, b.cell (p := ⟨bq, i, none⟩) hfc.2.2.1, hfc.2.2.2.2.2 i (by omega)]; simp [List.getD, hi']
      · have hi' : i < 4 := by simp [hlen] at hi; omega
        rw [b.cell (p := ⟨bq, 124 + i, none⟩) hfc.2.2.1, hfc.2.2.2.2.2 (124 + i) (by omega), List.getD_eq_getElem?_getD, List.getD_eq_getElem?_getD, List.getElem?_drop]
    have HCR : Hid (∀ w', Below w8.heap.size w8 w' → Calls Try.prog 35 #[.slice (some ⟨bq, 0, none⟩) 120 cb] w' fun e w'' => e = .returned (.int .u32 cr) ∧ w'' = w') := fun w' b => by
      obtain ⟨b', o', c', e, hl, hc⟩ := (HPA.out w' b).1
      have e' : (Value.slice (some ⟨bq, 0, none⟩) 120 cb) = .slice (some ⟨b', o', none⟩) (zs.take 120).length c' := e
      simp [hlen] at e'
      obtain ⟨⟨rfl, rfl⟩, rfl⟩ := e'
      rw [← hcr]
      exact crcS_any (some ⟨bq, 0, none⟩) 120 cb (zs.take 120) w' (by simp [hlen]) (by decide) (.inr ⟨bq, 0, rfl, hl, hc⟩) (fun z h => hz z (List.mem_of_mem_take h))
    have HLN : Hid (([zs.take 120, four cr, zs.drop 124] : List (List Int)).flatten.length ≤ 1048576 ∧ Byte ([zs.take 120, four cr, zs.drop 124] : List (List Int)).flatten) := ⟨by simp [four, hlen], Byte.app (fun z h => hz z (List.mem_of_mem_take h)) (Byte.app (four_byte _ HU.out) (Byte.app (fun z h => hz z (List.mem_of_mem_drop h)) Byte.nil))⟩
    have HCN : Hid (¬ cb = 124) := by show ¬ _; have := hfc.2.2.2.1; omega
    have hcb4 : (120 : Int) ≤ cb := by have := hfc.2.2.2.1; omega
    clear hcr hfc hz hlen
    go_wp2_with fail
    refine wp_region_any (by kernel_rfl) ?_
    refine wpAny_slotsU (fun _ a b => Below a.heap.size a b) (frame := (fun (c0 c1 c2 c3 c5 c6 c7 c8 c9 c10 c11 c12 c13 c14 c15 c16 c17 c18 c19 c20 c21 c22 c23 c24 c25 c26 c27 c28 c29 c30 c31 c32 c33 c34 c35 c36 c37 c38 c39 c40 c41 c42 c43 c44 c45 c46 c47 c48 c49 c50 c51 c62 c63 c64 c65 c66 c67 c68 c69 c70 c71 : Value) => fun (t : Nat → Value) => ({ tmps := List.toArray (c0 :: c1 :: c2 :: c3 :: t 10 :: c5 :: c6 :: c7 :: c8 :: c9 :: c10 :: c11 :: c12 :: c13 :: c14 :: c15 :: c16 :: c17 :: c18 :: c19 :: c20 :: c21 :: c22 :: c23 :: c24 :: c25 :: c26 :: c27 :: c28 :: c29 :: c30 :: c31 :: c32 :: c33 :: c34 :: c35 :: c36 :: c37 :: c38 :: c39 :: c40 :: c41 :: c42 :: c43 :: c44 :: c45 :: c46 :: c47 :: c48 :: c49 :: c50 :: c51 :: t 0 :: t 1 :: t 2 :: t 3 :: t 4 :: t 5 :: t 6 :: t 7 :: t 8 :: t 9 :: c62 :: c63 :: c64 :: c65 :: c66 :: c67 :: c68 :: c69 :: c70 :: c71 :: []), defers := [] } : Act)) _ _ _ _ _ _ _ _ _ _ _ _ _ _ _ _ _ _ _ _ _ _ _ _ _ _ _ _ _ _ _ _ _ _ _ _ _ _ _ _ _ _ _ _ _ _ _ _ _ _ _ _ _ _ _ _ _ _ _ _ _)
      (Ext := fun L u w' => Below w8.heap.size w8 w' ∧ ClG [(10, 9), (9, 8), (8, 1), (8, 5), (8, 7), (7, 6), (1, 0), (5, 4), (4, 3), (3, 2)] L ∧ (L 10 = false → u 10 = .slice (some ⟨bq, 0, none⟩) 128 cb)) (Good := fun i L w' v => if i = 0 then v = .slice (some ⟨bq, 0, none⟩) 128 cb else if i = 1 then v = .slice (some ⟨bq, 0, none⟩) 120 cb else if i = 2 then v = .slice (some ⟨bq, 0, none⟩) 128 cb else if i = 3 then v = .slice (some ⟨bq, 0, none⟩) 120 cb else if i = 4 then v = .int .u32 cr else if i = 5 then Part w' v (four cr) else if i = 6 then v = .slice (some ⟨bq, 0, none⟩) 128 cb else if i = 7 then v = .slice (some ⟨bq, 124, none⟩) 4 (cb - 124) else if i = 8 then PtL w' v [zs.take 120, four cr, zs.drop 124] else if i = 9 then TxP w' v else if i = 10 then TxP w' v else True) ?hstab (by kernel_rfl) ?hop ?hdone _ _ ((fun (x0 x1 x2 x3 x4 x5 x6 x7 x8 x9 x10 : Value) => fun (i : Nat) => if i = 0 then x0 else if i = 1 then x1 else if i = 2 then x2 else if i = 3 then x3 else if i = 4 then x4 else if i = 5 then x5 else if i = 6 then x6 else if i = 7 then x7 else if i = 8 then x8 else if i = 9 then x9 else if i = 10 then x10 else undef) _ _ _ _ _ _ _ _ _ _ _) _ (by simp) ?ext ?start (by simp)
    case start => intro i hi h; exact absurd h (by rw [Array.getD_eq_getD_getElem?, Array.getElem?_replicate]; split <;> simp)
    case ext => exact ⟨⟨rfl, rfl, rfl, Nat.le_refl _, fun _ _ => rfl⟩, ClG.none (fun i => by rw [Array.getD_eq_getD_getElem?, Array.getElem?_replicate]; split <;> rfl), fun _ => rfl⟩
    case hstab =>
      intro j L w9 w' i v hM _ _ h
      by_cases h5 : j = 5
      · subst h5
        simp at h ⊢
        exact h.below hM
      by_cases h8 : j = 8
      · subst h8
        simp at h ⊢
        exact h.below hM
      by_cases h9 : j = 9
      · subst h9
        simp at h ⊢
        exact h.below hM
      by_cases h10 : j = 10
      · subst h10
        simp at h ⊢
        exact h.below hM
      simp only [if_neg h5, if_neg h8, if_neg h9, if_neg h10] at h ⊢
      exact h
    case hop =>
      intro i o L t w' ho hLi hx hdep K hK
      have hi : i < 11 := (Array.getElem?_eq_some_iff.1 ho).1
      obtain rfl | rfl | rfl | rfl | rfl | rfl | rfl | rfl | rfl | rfl | rfl : i = 0 ∨ i = 1 ∨ i = 2 ∨ i = 3 ∨ i = 4 ∨ i = 5 ∨ i = 6 ∨ i = 7 ∨ i = 8 ∨ i = 9 ∨ i = 10 := by omega
      all_goals (simp at ho; subst ho)
      · clear hdep
        have l1 := hx.2.1.back (a := 1) (b := 0) (by decide) hLi
        have l8 := hx.2.1.back (a := 8) (b := 1) (by decide) l1
        have l9 := hx.2.1.back (a := 9) (b := 8) (by decide) l8
        have l10 := hx.2.1.back (a := 10) (b := 9) (by decide) l9
        have d10 : t 10 = .slice (some ⟨bq, 0, none⟩) 128 cb := hx.2.2 l10
        have hcl : ClG [(10, 9), (9, 8), (8, 1), (8, 5), (8, 7), (7, 6), (1, 0), (5, 4), (4, 3), (3, 2)] (updK L 0) := hx.2.1.step 0 (by intro p hp e; simp only [List.mem_cons, List.not_mem_nil, or_false] at hp; rcases hp with rfl | rfl | rfl | rfl | rfl | rfl | rfl | rfl | rfl | rfl <;> first | (exact absurd e (by decide)) | assumption)
        have hK' := hK w' (.slice (some ⟨bq, 0, none⟩) 128 cb) (by simp) ⟨hx.1.trans ((Below.refl w'.heap.size w').mono hx.1.size), hcl, fun _ => by simpa [upd] using hx.2.2 l10⟩ (Below.refl _ _)
        clear hK hx
        rw [if_pos (by rfl)]
        go_simp
        simpa [upd, d10] using hK'
      · have L0 : L 0 = true := (hdep ⟨0, .data⟩ (by simp) rfl).1
        have d0 : t 0 = .slice (some ⟨bq, 0, none⟩) 128 cb := by simpa using (hdep ⟨0, .data⟩ (by simp) rfl).2
        clear hdep
        have l8 := hx.2.1.back (a := 8) (b := 1) (by decide) hLi
        have l9 := hx.2.1.back (a := 9) (b := 8) (by decide) l8
        have l10 := hx.2.1.back (a := 10) (b := 9) (by decide) l9
        have hcl : ClG [(10, 9), (9, 8), (8, 1), (8, 5), (8, 7), (7, 6), (1, 0), (5, 4), (4, 3), (3, 2)] (updK L 1) := hx.2.1.step 1 (by intro p hp e; simp only [List.mem_cons, List.not_mem_nil, or_false] at hp; rcases hp with rfl | rfl | rfl | rfl | rfl | rfl | rfl | rfl | rfl | rfl <;> first | (exact absurd e (by decide)) | assumption)
        have hK' := hK w' (.slice (some ⟨bq, 0, none⟩) 120 cb) (by simp) ⟨hx.1.trans ((Below.refl w'.heap.size w').mono hx.1.size), hcl, fun _ => by simpa [upd] using hx.2.2 l10⟩ (Below.refl _ _)
        clear hK hx
        rw [if_pos (by rfl)]
        go_simp
        simpa [upd, d0] using hK'
      · clear hdep
        have l3 := hx.2.1.back (a := 3) (b := 2) (by decide) hLi
        have l4 := hx.2.1.back (a := 4) (b := 3) (by decide) l3
        have l5 := hx.2.1.back (a := 5) (b := 4) (by decide) l4
        have l8 := hx.2.1.back (a := 8) (b := 5) (by decide) l5
        have l9 := hx.2.1.back (a := 9) (b := 8) (by decide) l8
        have l10 := hx.2.1.back (a := 10) (b := 9) (by decide) l9
        have d10 : t 10 = .slice (some ⟨bq, 0, none⟩) 128 cb := hx.2.2 l10
        have hcl : ClG [(10, 9), (9, 8), (8, 1), (8, 5), (8, 7), (7, 6), (1, 0), (5, 4), (4, 3), (3, 2)] (updK L 2) := hx.2.1.step 2 (by intro p hp e; simp only [List.mem_cons, List.not_mem_nil, or_false] at hp; rcases hp with rfl | rfl | rfl | rfl | rfl | rfl | rfl | rfl | rfl | rfl <;> first | (exact absurd e (by decide)) | assumption)
        have hK' := hK w' (.slice (some ⟨bq, 0, none⟩) 128 cb) (by simp) ⟨hx.1.trans ((Below.refl w'.heap.size w').mono hx.1.size), hcl, fun _ => by simpa [upd] using hx.2.2 l10⟩ (Below.refl _ _)
        clear hK hx
        rw [if_pos (by rfl)]
        go_simp
        simpa [upd, d10] using hK'
      · have L2 : L 2 = true := (hdep ⟨2, .data⟩ (by simp) rfl).1
        have d2 : t 2 = .slice (some ⟨bq, 0, none⟩) 128 cb := by simpa using (hdep ⟨2, .data⟩ (by simp) rfl).2
        clear hdep
        have l4 := hx.2.1.back (a := 4) (b := 3) (by decide) hLi
        have l5 := hx.2.1.back (a := 5) (b := 4) (by decide) l4
        have l8 := hx.2.1.back (a := 8) (b := 5) (by decide) l5
        have l9 := hx.2.1.back (a := 9) (b := 8) (by decide) l8
        have l10 := hx.2.1.back (a := 10) (b := 9) (by decide) l9
        have hcl : ClG [(10, 9), (9, 8), (8, 1), (8, 5), (8, 7), (7, 6), (1, 0), (5, 4), (4, 3), (3, 2)] (updK L 3) := hx.2.1.step 3 (by intro p hp e; simp only [List.mem_cons, List.not_mem_nil, or_false] at hp; rcases hp with rfl | rfl | rfl | rfl | rfl | rfl | rfl | rfl | rfl | rfl <;> first | (exact absurd e (by decide)) | assumption)
        have hK' := hK w' (.slice (some ⟨bq, 0, none⟩) 120 cb) (by simp) ⟨hx.1.trans ((Below.refl w'.heap.size w').mono hx.1.size), hcl, fun _ => by simpa [upd] using hx.2.2 l10⟩ (Below.refl _ _)
        clear hK hx
        rw [if_pos (by rfl)]
        go_simp
        simpa [upd, d2] using hK'
      · have L3 : L 3 = true := (hdep ⟨3, .data⟩ (by simp) rfl).1
        have d3 : t 3 = .slice (some ⟨bq, 0, none⟩) 120 cb := by simpa using (hdep ⟨3, .data⟩ (by simp) rfl).2
        clear hdep
        have l5 := hx.2.1.back (a := 5) (b := 4) (by decide) hLi
        have l8 := hx.2.1.back (a := 8) (b := 5) (by decide) l5
        have l9 := hx.2.1.back (a := 9) (b := 8) (by decide) l8
        have l10 := hx.2.1.back (a := 10) (b := 9) (by decide) l9
        have hcl : ClG [(10, 9), (9, 8), (8, 1), (8, 5), (8, 7), (7, 6), (1, 0), (5, 4), (4, 3), (3, 2)] (updK L 4) := hx.2.1.step 4 (by intro p hp e; simp only [List.mem_cons, List.not_mem_nil, or_false] at hp; rcases hp with rfl | rfl | rfl | rfl | rfl | rfl | rfl | rfl | rfl | rfl <;> first | (exact absurd e (by decide)) | assumption)
        have A := HCR.out w' hx.1
        have hK' : ∀ ww, Below w'.heap.size w' ww → K _ ww := fun ww hb => hK ww (.int .u32 cr) (by simp) ⟨hx.1.trans (hb.mono hx.1.size), hcl, fun _ => by simpa [upd] using hx.2.2 l10⟩ hb
        clear hK hx
        rw [if_pos (by rfl)]
        go_simp
        try simp only [d3]
        refine A.mono ?_
        rintro e w9 ⟨rfl, hw9⟩
        have hK2 := hK' w9 (by rw [hw9]; exact Below.refl _ _)
        clear hK' A hw9
        go_simp
        simpa [upd, d3] using hK2
      · have L4 : L 4 = true := (hdep ⟨4, .data⟩ (by simp) rfl).1
        have d4 : t 4 = .int .u32 cr := by simpa using (hdep ⟨4, .data⟩ (by simp) rfl).2
        clear hdep
        have l8 := hx.2.1.back (a := 8) (b := 5) (by decide) hLi
        have l9 := hx.2.1.back (a := 9) (b := 8) (by decide) l8
        have l10 := hx.2.1.back (a := 10) (b := 9) (by decide) l9
        have hcl : ClG [(10, 9), (9, 8), (8, 1), (8, 5), (8, 7), (7, 6), (1, 0), (5, 4), (4, 3), (3, 2)] (updK L 5) := hx.2.1.step 5 (by intro p hp e; simp only [List.mem_cons, List.not_mem_nil, or_false] at hp; rcases hp with rfl | rfl | rfl | rfl | rfl | rfl | rfl | rfl | rfl | rfl <;> first | (exact absurd e (by decide)) | assumption)
        have A := four_any cr w' HU.out
        have hK' : ∀ ww v, Part ww v (four cr) → Below w'.heap.size w' ww → K _ ww := fun ww v hv hb => hK ww v (by simpa using hv) ⟨hx.1.trans (hb.mono hx.1.size), hcl, fun _ => by simpa [upd] using hx.2.2 l10⟩ hb
        clear hK hx
        rw [if_pos (by rfl)]
        go_simp
        try simp only [d4]
        refine A.mono ?_
        rintro e w9 ⟨rfl, hw9⟩
        have hK2 := hK' w9 (.slice (some ⟨w'.heap.size, 0, none⟩) 4 4) (by rw [hw9]; exact part_new w' _ (four cr) _ rfl 4 rfl 4) (by rw [hw9]; exact below_new _ _)
        clear hK' A hw9
        go_simp
        simpa [upd, d4] using hK2
      · clear hdep
        have l7 := hx.2.1.back (a := 7) (b := 6) (by decide) hLi
        have l8 := hx.2.1.back (a := 8) (b := 7) (by decide) l7
        have l9 := hx.2.1.back (a := 9) (b := 8) (by decide) l8
        have l10 := hx.2.1.back (a := 10) (b := 9) (by decide) l9
        have d10 : t 10 = .slice (some ⟨bq, 0, none⟩) 128 cb := hx.2.2 l10
        have hcl : ClG [(10, 9), (9, 8), (8, 1), (8, 5), (8, 7), (7, 6), (1, 0), (5, 4), (4, 3), (3, 2)] (updK L 6) := hx.2.1.step 6 (by intro p hp e; simp only [List.mem_cons, List.not_mem_nil, or_false] at hp; rcases hp with rfl | rfl | rfl | rfl | rfl | rfl | rfl | rfl | rfl | rfl <;> first | (exact absurd e (by decide)) | assumption)
        have hK' := hK w' (.slice (some ⟨bq, 0, none⟩) 128 cb) (by simp) ⟨hx.1.trans ((Below.refl w'.heap.size w').mono hx.1.size), hcl, fun _ => by simpa [upd] using hx.2.2 l10⟩ (Below.refl _ _)
        clear hK hx
        rw [if_pos (by rfl)]
        go_simp
        simpa [upd, d10] using hK'
      · have L6 : L 6 = true := (hdep ⟨6, .data⟩ (by simp) rfl).1
        have d6 : t 6 = .slice (some ⟨bq, 0, none⟩) 128 cb := by simpa using (hdep ⟨6, .data⟩ (by simp) rfl).2
        clear hdep
        have l8 := hx.2.1.back (a := 8) (b := 7) (by decide) hLi
        have l9 := hx.2.1.back (a := 9) (b := 8) (by decide) l8
        have l10 := hx.2.1.back (a := 10) (b := 9) (by decide) l9
        have hcl : ClG [(10, 9), (9, 8), (8, 1), (8, 5), (8, 7), (7, 6), (1, 0), (5, 4), (4, 3), (3, 2)] (updK L 7) := hx.2.1.step 7 (by intro p hp e; simp only [List.mem_cons, List.not_mem_nil, or_false] at hp; rcases hp with rfl | rfl | rfl | rfl | rfl | rfl | rfl | rfl | rfl | rfl <;> first | (exact absurd e (by decide)) | assumption)
        have hK' := hK w' (.slice (some ⟨bq, 124, none⟩) 4 (cb - 124)) (by simp) ⟨hx.1.trans ((Below.refl w'.heap.size w').mono hx.1.size), hcl, fun _ => by simpa [upd] using hx.2.2 l10⟩ (Below.refl _ _)
        clear hK hx
        rw [if_pos (by rfl)]
        go_simp
        simpa [upd, d6, HCN.out] using hK'
      · have L1 : L 1 = true := (hdep ⟨1, .data⟩ (by simp) rfl).1
        have d1 : t 1 = .slice (some ⟨bq, 0, none⟩) 120 cb := by simpa using (hdep ⟨1, .data⟩ (by simp) rfl).2
        have L5 : L 5 = true := (hdep ⟨5, .data⟩ (by simp) rfl).1
        have f5 : Part w' (t 5) (four cr) := by simpa using (hdep ⟨5, .data⟩ (by simp) rfl).2
        have L7 : L 7 = true := (hdep ⟨7, .data⟩ (by simp) rfl).1
        have d7 : t 7 = .slice (some ⟨bq, 124, none⟩) 4 (cb - 124) := by simpa using (hdep ⟨7, .data⟩ (by simp) rfl).2
        clear hdep
        have l9 := hx.2.1.back (a := 9) (b := 8) (by decide) hLi
        have l10 := hx.2.1.back (a := 10) (b := 9) (by decide) l9
        have hcl : ClG [(10, 9), (9, 8), (8, 1), (8, 5), (8, 7), (7, 6), (1, 0), (5, 4), (4, 3), (3, 2)] (updK L 8) := hx.2.1.step 8 (by intro p hp e; simp only [List.mem_cons, List.not_mem_nil, or_false] at hp; rcases hp with rfl | rfl | rfl | rfl | rfl | rfl | rfl | rfl | rfl | rfl <;> first | (exact absurd e (by decide)) | assumption)
        obtain ⟨b5, o5, c5, e5, hl5, hc5⟩ := f5
        have f5' : Part w' (.slice (some ⟨b5, o5, none⟩) 4 c5) (four cr) := ⟨b5, o5, c5, rfl, hl5, hc5⟩
        have e5' : t 5 = .slice (some ⟨b5, o5, none⟩) 4 c5 := e5
        have P0 := HPA.out w' hx.1
        have q := PtL.new w' 22 [(.slice (some ⟨bq, 0, none⟩) 120 cb, zs.take 120), (.slice (some ⟨b5, o5, none⟩) 4 c5, four cr), (.slice (some ⟨bq, 124, none⟩) 4 (cb - 124), zs.drop 124)] (by
          intro p hp
          simp only [List.mem_cons, List.not_mem_nil, or_false] at hp
          rcases hp with rfl | rfl | rfl
          · exact P0.1
          · exact f5'
          · exact P0.2)
        have hb : Below w'.heap.size w' (w'.alloc (.cells #[.slice (some ⟨bq, 0, none⟩) 120 cb, .slice (some ⟨b5, o5, none⟩) 4 c5, .slice (some ⟨bq, 124, none⟩) 4 (cb - 124)] 22)) := below_new _ _
        have hK' := hK (w'.alloc (.cells #[.slice (some ⟨bq, 0, none⟩) 120 cb, .slice (some ⟨b5, o5, none⟩) 4 c5, .slice (some ⟨bq, 124, none⟩) 4 (cb - 124)] 22)) (.slice (some ⟨w'.heap.size, 0, none⟩) 3 3) (by simpa using q) ⟨hx.1.trans (hb.mono hx.1.size), hcl, fun _ => by simpa [upd] using hx.2.2 l10⟩ hb
        clear hK q hb P0 f5' hc5 hx e5
        rw [if_pos (by rfl)]
        go_simp
        simpa [upd, d1, d7, e5'] using hK'
      · have L8 : L 8 = true := (hdep ⟨8, .data⟩ (by simp) rfl).1
        have f8 : PtL w' (t 8) [zs.take 120, four cr, zs.drop 124] := by simpa using (hdep ⟨8, .data⟩ (by simp) rfl).2
        clear hdep
        have l10 := hx.2.1.back (a := 10) (b := 9) (by decide) hLi
        have hcl : ClG [(10, 9), (9, 8), (8, 1), (8, 5), (8, 7), (7, 6), (1, 0), (5, 4), (4, 3), (3, 2)] (updK L 9) := hx.2.1.step 9 (by intro p hp e; simp only [List.mem_cons, List.not_mem_nil, or_false] at hp; rcases hp with rfl | rfl | rfl | rfl | rfl | rfl | rfl | rfl | rfl | rfl <;> first | (exact absurd e (by decide)) | assumption)
        obtain ⟨g8, vs8, e8, hl8, hc8⟩ := f8
        have A := cat_any g8 3 3 vs8 [zs.take 120, four cr, zs.drop 124] w' rfl hl8 (fun i hi => (hc8 i hi).1) (fun i hi => (hc8 i hi).2) HLN.out.1 (by decide)
        have hK' : ∀ ww v, TxP ww v → Below w'.heap.size w' ww → K _ ww := fun ww v hv hb => hK ww v (by simpa using hv) ⟨hx.1.trans (hb.mono hx.1.size), hcl, fun _ => by simpa [upd] using hx.2.2 l10⟩ hb
        clear hK hc8 hx
        rw [if_pos (by rfl)]
        have e8' : t 8 = .slice (some ⟨g8, 0, none⟩) 3 3 := e8
        clear e8
        go_simp
        try simp only [e8']
        refine A.mono ?_
        rintro e w9 ⟨v9, rfl, ho9, hb9⟩
        have hK2 := hK' w9 v9 (TxP.of_own ho9 HLN.out.1 HLN.out.2) hb9
        clear hK' A ho9
        go_simp
        simpa [upd, e8'] using hK2
      · have L9 : L 9 = true := (hdep ⟨9, .data⟩ (by simp) rfl).1
        have f9 : TxP w' (t 9) := by simpa using (hdep ⟨9, .data⟩ (by simp) rfl).2
        clear hdep
        have hcl : ClG [(10, 9), (9, 8), (8, 1), (8, 5), (8, 7), (7, 6), (1, 0), (5, 4), (4, 3), (3, 2)] (updK L 10) := hx.2.1.step 10 (by intro p hp e; simp only [List.mem_cons, List.not_mem_nil, or_false] at hp; rcases hp with rfl | rfl | rfl | rfl | rfl | rfl | rfl | rfl | rfl | rfl <;> first | (exact absurd e (by decide)) | assumption)
        have hK' := hK w' (t 9) (by simpa using f9) ⟨hx.1.trans ((Below.refl w'.heap.size w').mono hx.1.size), hcl, fun h => by simp [updK] at h⟩ (Below.refl _ _)
        clear hK hx
        rw [if_pos (by rfl)]
        go_simp
        simpa [upd] using hK'
    case hdone =>
      intro L t w9 hx hg
      have f10 : TxP w9 (t 10) := by simpa using hg 10 (by decide)
      have HF : Hid (TxP w9 (t 10) ∧ Below w.heap.size w w9) := ⟨f10, HD.out.below.trans (hx.1.mono HD.out.below.size)⟩
      clear hg f10 hx
      go_wp2
      go_ret
      exact ⟨_, rfl, HF.out⟩
  · have HD := HD6
    clear HD6
    have hcb4 : (64 : Int) ≤ cb := by have := HD.out.facts.2.2.2.1; omega
    go_wp2_with fail
    refine wp_region_any (by kernel_rfl) ?_
    refine wpAny_slotsU (fun i a b => i = 6 ∨ WrG g a b) (frame := (fun (c0 c1 c2 c3 c5 c6 c7 c8 c9 c10 c11 c12 c13 c14 c15 c16 c17 c18 c19 c20 c21 c22 c23 c24 c25 c26 c27 c28 c29 c30 c31 c32 c33 c34 c35 c36 c37 c38 c39 c40 c41 c42 c43 c44 c45 c46 c47 c48 c49 c50 c51 c52 c53 c54 c55 c56 c57 c58 c59 c60 c61 c62 c63 c71 : Value) => fun (t : Nat → Value) => ({ tmps := List.toArray (c0 :: c1 :: c2 :: c3 :: t 7 :: c5 :: c6 :: c7 :: c8 :: c9 :: c10 :: c11 :: c12 :: c13 :: c14 :: c15 :: c16 :: c17 :: c18 :: c19 :: c20 :: c21 :: c22 :: c23 :: c24 :: c25 :: c26 :: c27 :: c28 :: c29 :: c30 :: c31 :: c32 :: c33 :: c34 :: c35 :: c36 :: c37 :: c38 :: c39 :: c40 :: c41 :: c42 :: c43 :: c44 :: c45 :: c46 :: c47 :: c48 :: c49 :: c50 :: c51 :: c52 :: c53 :: c54 :: c55 :: c56 :: c57 :: c58 :: c59 :: c60 :: c61 :: c62 :: c63 :: t 0 :: t 1 :: t 2 :: t 3 :: t 4 :: t 5 :: t 6 :: c71 :: []), defers := [] } : Act)) _ _ _ _ _ _ _ _ _ _ _ _ _ _ _ _ _ _ _ _ _ _ _ _ _ _ _ _ _ _ _ _ _ _ _ _ _ _ _ _ _ _ _ _ _ _ _ _ _ _ _ _ _ _ _ _ _ _ _ _ _ _ _ _)
      (Ext := fun L u w' => ClG [(7, 6), (6, 1), (6, 5), (5, 4), (4, 3), (3, 2), (1, 0)] L ∧ (L 7 = false → u 7 = .slice (some ⟨bq, 0, none⟩) 128 cb) ∧ (if L 6 = true then TxP w' (u 6) ∧ Below w.heap.size w w' ∧ (L 7 = true → u 7 = u 6) else DD w g x n cap bq cb zs w')) (Good := fun i L w' v => if i = 0 then v = .slice (some ⟨bq, 0, none⟩) 128 cb else if i = 1 then v = .slice (some ⟨bq, 0, none⟩) 64 cb else if i = 2 then v = .pointer (some ⟨g, 0, none⟩) else if i = 3 then L 6 = true ∨ SnVS g w' v else if i = 4 then L 6 = true ∨ TxS g 0 128 w' v else if i = 5 then L 6 = true ∨ TxS g 64 64 w' v else if i = 6 then L 6 = true else if i = 7 then L 7 = true else True) ?hstab (by kernel_rfl) ?hop ?hdone _ _ ((fun (x0 x1 x2 x3 x4 x5 x6 x7 : Value) => fun (i : Nat) => if i = 0 then x0 else if i = 1 then x1 else if i = 2 then x2 else if i = 3 then x3 else if i = 4 then x4 else if i = 5 then x5 else if i = 6 then x6 else if i = 7 then x7 else undef) _ _ _ _ _ _ _ _) _ (by simp) ?ext ?start (by simp)
    case start => intro i hi h; exact absurd h (by rw [Array.getD_eq_getD_getElem?, Array.getElem?_replicate]; split <;> simp)
    case ext =>
      have h0 : ∀ i, (Array.replicate 8 false).getD i false = false := fun i => by rw [Array.getD_eq_getD_getElem?, Array.getElem?_replicate]; split <;> rfl
      exact ⟨ClG.none h0, fun _ => rfl, ite_no (h0 6) (HD.out.call ⟨rfl, rfl, rfl, Nat.le_refl _, fun _ _ => rfl⟩)⟩
    case hstab =>
      intro j L w9 w' i v hM hij hLi h
      have hu : ∀ k, L k = true → updK L i k = true := fun k hk => by unfold updK; split <;> simp [hk]
      by_cases h3 : j = 3
      · subst h3
        simp at h ⊢
        rcases hM with e | hM
        · left; rw [e]; simp [updK]
        · rcases h with h | h
          · exact .inl (hu _ h)
          · exact .inr (h.wrg hM)
      by_cases h4 : j = 4
      · subst h4
        simp at h ⊢
        rcases hM with e | hM
        · left; rw [e]; simp [updK]
        · rcases h with h | h
          · exact .inl (hu _ h)
          · exact .inr (h.wrg hM)
      by_cases h5 : j = 5
      · subst h5
        simp at h ⊢
        rcases hM with e | hM
        · left; rw [e]; simp [updK]
        · rcases h with h | h
          · exact .inl (hu _ h)
          · exact .inr (h.wrg hM)
      by_cases h6 : j = 6
      · subst h6
        simp at h ⊢
        exact hu _ h
      by_cases h7 : j = 7
      · subst h7
        simp at h ⊢
        exact hu _ h
      simp only [if_neg h3, if_neg h4, if_neg h5, if_neg h6, if_neg h7] at h ⊢
      exact h
    case hop =>
      intro i o L t w' ho hLi hx hdep K hK
      have hi : i < 8 := (Array.getElem?_eq_some_iff.1 ho).1
      obtain rfl | rfl | rfl | rfl | rfl | rfl | rfl | rfl : i = 0 ∨ i = 1 ∨ i = 2 ∨ i = 3 ∨ i = 4 ∨ i = 5 ∨ i = 6 ∨ i = 7 := by omega
      all_goals (simp at ho; subst ho)
      · clear hdep
        have l1 := hx.1.back (a := 1) (b := 0) (by decide) hLi
        have l6 := hx.1.back (a := 6) (b := 1) (by decide) l1
        have l7 := hx.1.back (a := 7) (b := 6) (by decide) l6
        have hcl : ClG [(7, 6), (6, 1), (6, 5), (5, 4), (4, 3), (3, 2), (1, 0)] (updK L 0) := hx.1.step 0 (by intro p hp e; simp only [List.mem_cons, List.not_mem_nil, or_false] at hp; rcases hp with rfl | rfl | rfl | rfl | rfl | rfl | rfl <;> first | (exact absurd e (by decide)) | assumption)
        have hdd : DD w g x n cap bq cb zs w' := by have := hx.2.2; rwa [l6, if_neg (by decide)] at this
        have d7 : t 7 = .slice (some ⟨bq, 0, none⟩) 128 cb := hx.2.1 l7
        have hK' := hK w' (.slice (some ⟨bq, 0, none⟩) 128 cb) (by simp) ⟨hcl, fun _ => by simpa [upd] using d7, by rw [if_neg (by simp [updK, l6])]; exact hdd⟩ (.inr (WrG.refl _ _))
        clear hK hx hdd
        rw [if_pos (by rfl)]
        go_simp
        simpa [upd, d7] using hK'
      · have L0 : L 0 = true := (hdep ⟨0, .data⟩ (by simp) rfl).1
        have d0 : t 0 = .slice (some ⟨bq, 0, none⟩) 128 cb := by simpa using (hdep ⟨0, .data⟩ (by simp) rfl).2
        clear hdep
        have l6 := hx.1.back (a := 6) (b := 1) (by decide) hLi
        have l7 := hx.1.back (a := 7) (b := 6) (by decide) l6
        have hcl : ClG [(7, 6), (6, 1), (6, 5), (5, 4), (4, 3), (3, 2), (1, 0)] (updK L 1) := hx.1.step 1 (by intro p hp e; simp only [List.mem_cons, List.not_mem_nil, or_false] at hp; rcases hp with rfl | rfl | rfl | rfl | rfl | rfl | rfl <;> first | (exact absurd e (by decide)) | assumption)
        have hdd : DD w g x n cap bq cb zs w' := by have := hx.2.2; rwa [l6, if_neg (by decide)] at this
        have d7 : t 7 = .slice (some ⟨bq, 0, none⟩) 128 cb := hx.2.1 l7
        have hK' := hK w' (.slice (some ⟨bq, 0, none⟩) 64 cb) (by simp) ⟨hcl, fun _ => by simpa [upd] using d7, by rw [if_neg (by simp [updK, l6])]; exact hdd⟩ (.inr (WrG.refl _ _))
        clear hK hx hdd d7
        rw [if_pos (by rfl)]
        go_simp
        simpa [upd, d0] using hK'
      · clear hdep
        have l3 := hx.1.back (a := 3) (b := 2) (by decide) hLi
        have l4 := hx.1.back (a := 4) (b := 3) (by decide) l3
        have l5 := hx.1.back (a := 5) (b := 4) (by decide) l4
        have l6 := hx.1.back (a := 6) (b := 5) (by decide) l5
        have l7 := hx.1.back (a := 7) (b := 6) (by decide) l6
        have hcl : ClG [(7, 6), (6, 1), (6, 5), (5, 4), (4, 3), (3, 2), (1, 0)] (updK L 2) := hx.1.step 2 (by intro p hp e; simp only [List.mem_cons, List.not_mem_nil, or_false] at hp; rcases hp with rfl | rfl | rfl | rfl | rfl | rfl | rfl <;> first | (exact absurd e (by decide)) | assumption)
        have hdd : DD w g x n cap bq cb zs w' := by have := hx.2.2; rwa [l6, if_neg (by decide)] at this
        have d7 : t 7 = .slice (some ⟨bq, 0, none⟩) 128 cb := hx.2.1 l7
        have hK' := hK w' (.pointer (some ⟨g, 0, none⟩)) (by simp) ⟨hcl, fun _ => by simpa [upd] using d7, by rw [if_neg (by simp [updK, l6])]; exact hdd⟩ (.inr (WrG.refl _ _))
        clear hK hx hdd d7
        rw [if_pos (by rfl)]
        go_simp
        simpa [upd] using hK'
      · have L2 : L 2 = true := (hdep ⟨2, .data⟩ (by simp) rfl).1
        have d2 : t 2 = .pointer (some ⟨g, 0, none⟩) := by simpa using (hdep ⟨2, .data⟩ (by simp) rfl).2
        clear hdep
        have l4 := hx.1.back (a := 4) (b := 3) (by decide) hLi
        have l5 := hx.1.back (a := 5) (b := 4) (by decide) l4
        have l6 := hx.1.back (a := 6) (b := 5) (by decide) l5
        have l7 := hx.1.back (a := 7) (b := 6) (by decide) l6
        have hcl : ClG [(7, 6), (6, 1), (6, 5), (5, 4), (4, 3), (3, 2), (1, 0)] (updK L 3) := hx.1.step 3 (by intro p hp e; simp only [List.mem_cons, List.not_mem_nil, or_false] at hp; rcases hp with rfl | rfl | rfl | rfl | rfl | rfl | rfl <;> first | (exact absurd e (by decide)) | assumption)
        have hdd : DD w g x n cap bq cb zs w' := by have := hx.2.2; rwa [l6, if_neg (by decide)] at this
        have d7 : t 7 = .slice (some ⟨bq, 0, none⟩) 128 cb := hx.2.1 l7
        have A := drawSn_any g x n cap w' hdd.cu hdd.ct
        have hK' : ∀ ww v, SnVS g ww v → DD w g x n cap bq cb zs ww → WrG g w' ww → K _ ww := fun ww v hv hd hw => hK ww v (by simpa using .inr hv) ⟨hcl, fun _ => by simpa [upd] using d7, by rw [if_neg (by simp [updK, l6])]; exact hd⟩ (.inr hw)
        have hgl := hdd.cu.lt
        clear hK hx d7
        rw [if_pos (by rfl)]
        go_simp
        try simp only [d2]
        refine A.mono ?_
        rintro e w9 ⟨v9, rfl, hv9⟩
        obtain ⟨gn, tl, aD, nD, cD, aU, nU, cU, D, U, rfl, ug, ut, hsn, lD, lU, i1, i2, ap, cb9, wg⟩ := hv9
        have hK2 := hK' w9 _ ⟨gn, tl, aD, nD, cD, aU, nU, cU, D, U, rfl, ug, ut, hsn, lD, lU, Iow.mono i1 hgl, Iow.mono i2 hgl⟩ (hdd.wrg cb9 wg) wg
        clear hK' A i1 i2 ap cb9 wg hdd
        go_simp
        simpa [upd, d2] using hK2
      · have L3 : L 3 = true := (hdep ⟨3, .data⟩ (by simp) rfl).1
        have f3 : L 6 = true ∨ SnVS g w' (t 3) := by simpa using (hdep ⟨3, .data⟩ (by simp) rfl).2
        clear hdep
        have l5 := hx.1.back (a := 5) (b := 4) (by decide) hLi
        have l6 := hx.1.back (a := 6) (b := 5) (by decide) l5
        have l7 := hx.1.back (a := 7) (b := 6) (by decide) l6
        have hcl : ClG [(7, 6), (6, 1), (6, 5), (5, 4), (4, 3), (3, 2), (1, 0)] (updK L 4) := hx.1.step 4 (by intro p hp e; simp only [List.mem_cons, List.not_mem_nil, or_false] at hp; rcases hp with rfl | rfl | rfl | rfl | rfl | rfl | rfl <;> first | (exact absurd e (by decide)) | assumption)
        have hdd : DD w g x n cap bq cb zs w' := by have := hx.2.2; rwa [l6, if_neg (by decide)] at this
        have d7 : t 7 = .slice (some ⟨bq, 0, none⟩) 128 cb := hx.2.1 l7
        have f3' : SnVS g w' (t 3) := f3.resolve_left (by rw [l6]; decide)
        obtain ⟨gn, tl, aD, nD, cD, aU, nU, cU, D, U, e3, ug, ut, hsn, lD, lU, i1, i2⟩ := f3'
        obtain ⟨sD, mD, _⟩ := i1.sat
        obtain ⟨sU, mU, _⟩ := i2.sat
        have A := ses_any gn tl aD aU nD cD nU cU D U w' mD mU (by omega) (by omega) sD.at_ sU.at_ ug ut
        have hE : (snE gn tl D U).length = 128 ∧ Byte (snE gn tl D U) := ⟨by unfold snE; rw [snB_yes hsn]; exact END_len, snE_byte ug ut⟩
        have hK' : ∀ ww v, TxS g 0 128 ww v → Below w'.heap.size w' ww → K _ ww := fun ww v hv hb => hK ww v (by simpa using .inr hv) ⟨hcl, fun _ => by simpa [upd] using d7, by rw [if_neg (by simp [updK, l6])]; exact (hdd.call hb)⟩ (.inr (WrG.of_below hb))
        have hgl := hdd.cu.lt
        clear hK hx f3 i1 i2 sD sU d7
        generalize snE gn tl D U = z4 at *
        rw [if_pos (by rfl)]
        go_simp
        try simp only [e3]
        refine A.mono ?_
        rintro e w9 ⟨v9, rfl, ho9, hb9⟩
        obtain ⟨g9, c9, e9, hbg, _, hcc, ha9, _⟩ := ho9.atD
        rw [hE.1] at e9 hcc
        have hK2 := hK' w9 v9 ⟨g9, c9, z4, e9, hcc, hE.1, hE.2, by omega, ha9⟩ hb9
        clear hK' A ho9 hb9 hdd ha9 e9
        go_simp
        simpa [upd, e3] using hK2
      · have L4 : L 4 = true := (hdep ⟨4, .data⟩ (by simp) rfl).1
        have f4 : L 6 = true ∨ TxS g 0 128 w' (t 4) := by simpa using (hdep ⟨4, .data⟩ (by simp) rfl).2
        clear hdep
        have l6 := hx.1.back (a := 6) (b := 5) (by decide) hLi
        have l7 := hx.1.back (a := 7) (b := 6) (by decide) l6
        have hcl : ClG [(7, 6), (6, 1), (6, 5), (5, 4), (4, 3), (3, 2), (1, 0)] (updK L 5) := hx.1.step 5 (by intro p hp e; simp only [List.mem_cons, List.not_mem_nil, or_false] at hp; rcases hp with rfl | rfl | rfl | rfl | rfl | rfl | rfl <;> first | (exact absurd e (by decide)) | assumption)
        have hdd : DD w g x n cap bq cb zs w' := by have := hx.2.2; rwa [l6, if_neg (by decide)] at this
        have d7 : t 7 = .slice (some ⟨bq, 0, none⟩) 128 cb := hx.2.1 l7
        have f4' : TxS g 0 128 w' (t 4) := f4.resolve_left (by rw [l6]; decide)
        obtain ⟨b4, c4, z4, e4, h41, h42, h43, h44, h45⟩ := f4'
        have hts : TxS g 64 64 w' (.slice (some ⟨b4, 64, none⟩) 64 (c4 - 64)) := by
          refine ⟨b4, c4 - 64, z4.drop 64, rfl, by omega, by simp; omega, fun z h => h43 z (List.mem_of_mem_drop h), h44, ?_⟩
          rcases h45 with h | ⟨b', o', e', hl, hc⟩
          · rw [h] at h42; simp at h42
          · cases e'
            exact .inr ⟨b4, 64, rfl, hl, fun i hi => by
              have hi' : i < 64 := by simp at hi; omega
              have := hc (64 + i) (by omega)
              rw [Nat.zero_add] at this
              rw [this, List.getD_eq_getElem?_getD, List.getD_eq_getElem?_getD, List.getElem?_drop]⟩
        have hcn : ¬ c4 = 64 := by omega
        have hK' := hK w' (.slice (some ⟨b4, 64, none⟩) 64 (c4 - 64)) (by simpa using .inr hts) ⟨hcl, fun _ => by simpa [upd] using d7, by rw [if_neg (by simp [updK, l6])]; exact hdd⟩ (.inr (WrG.refl _ _))
        clear hK hx hdd d7 hts f4 h45
        rw [if_pos (by rfl)]
        go_simp
        simpa [upd, e4, hcn] using hK'
      · have L1 : L 1 = true := (hdep ⟨1, .data⟩ (by simp) rfl).1
        have d1 : t 1 = .slice (some ⟨bq, 0, none⟩) 64 cb := by simpa using (hdep ⟨1, .data⟩ (by simp) rfl).2
        have L5 : L 5 = true := (hdep ⟨5, .data⟩ (by simp) rfl).1
        have f5 : L 6 = true ∨ TxS g 64 64 w' (t 5) := by simpa using (hdep ⟨5, .data⟩ (by simp) rfl).2
        clear hdep
        have l7 := hx.1.back (a := 7) (b := 6) (by decide) hLi
        have hcl : ClG [(7, 6), (6, 1), (6, 5), (5, 4), (4, 3), (3, 2), (1, 0)] (updK L 6) := hx.1.step 6 (by intro p hp e; simp only [List.mem_cons, List.not_mem_nil, or_false] at hp; rcases hp with rfl | rfl | rfl | rfl | rfl | rfl | rfl <;> first | (exact absurd e (by decide)) | assumption)
        have hdd : DD w g x n cap bq cb zs w' := by have := hx.2.2; rwa [hLi, if_neg (by decide)] at this
        have f5' : TxS g 64 64 w' (t 5) := f5.resolve_left (by rw [hLi]; decide)
        obtain ⟨b5, c5, z5, e5, h51, h52, h53, h54, h55⟩ := f5'
        have hc5 : ∀ i, i < z5.length → w'.cell? ⟨b5, 64 + i, none⟩ = some (.int .u8 (z5.getD i 0)) := by
          rcases h55 with h | ⟨b', o', e', hl, hc⟩
          · rw [h] at h52; simp at h52
          · cases e'; exact hc
        have hfc := hdd.facts
        have how : w'.ownsRow (g + 1) 5 1 (.slice (some ⟨bq, 0, none⟩) 64 cb) 64 ((zs.take 64).map (Value.int .u8)) := by
          have := hdd.own.1
          rw [hdd.len] at this
          exact owns_short this (by decide)
        have d7 : t 7 = .slice (some ⟨bq, 0, none⟩) 128 cb := hx.2.1 l7
        have hK' : ∀ ww v, TxP ww v → Below w.heap.size w ww → K _ ww := fun ww v hv hb => hK ww v (by simp [updK]) ⟨hcl, fun _ => by simpa [upd] using d7, by rw [if_pos (by simp [updK])]; exact ⟨by simpa [upd] using hv, hb, fun q => by simp [updK, l7] at q⟩⟩ (.inl rfl)
        clear hK hx
        rw [if_pos (by rfl)]
        refine wp_appB8 w' (.tmp 65) (.tmp 69) rfl (g + 1) (.slice (some ⟨bq, 0, none⟩) 64 cb) 64 (zs.take 64) d1 how b5 64 64 c5 z5 e5 h52 hc5 (by decide) (by have := hdd.cu.lt; omega) ?_
        intro v9 w9 h9 hg9
        obtain ⟨a9, cap9, e9, hl9, hn9, _, ha9⟩ := At.of_owns h9
        have hK2 := hK' w9 v9 ⟨a9, _, cap9, zs.take 64 ++ z5, e9, hl9, hn9, by decide, Byte.app (fun z h => hdd.byte z (List.mem_of_mem_take h)) h53, ha9⟩ (hdd.below.trans ((Below.refl _ _).grown hg9 hdd.below.size (fun k hk => by
          have : bq = k := by simpa [Value.ownBlock] using hk
          have := hdd.hg; omega)))
        clear hK' h9 hg9
        simpa [upd, Act.put] using hK2
      · have L6 : L 6 = true := (hdep ⟨6, .data⟩ (by simp) rfl).1
        clear hdep
        have hcl : ClG [(7, 6), (6, 1), (6, 5), (5, 4), (4, 3), (3, 2), (1, 0)] (updK L 7) := hx.1.step 7 (by intro p hp e; simp only [List.mem_cons, List.not_mem_nil, or_false] at hp; rcases hp with rfl | rfl | rfl | rfl | rfl | rfl | rfl <;> first | (exact absurd e (by decide)) | assumption)
        have h6 := hx.2.2
        rw [L6, if_pos rfl] at h6
        obtain ⟨htx, hbl, _⟩ := h6
        obtain ⟨a6, n6, c6, z6, e6, r1, r2, r3, r4, r5⟩ := htx
        have htx2 : TxP w' (t 6) := ⟨a6, n6, c6, z6, e6, r1, r2, r3, r4, r5⟩
        have hK' := hK w' (t 6) (by simp [updK]) ⟨hcl, fun h => by simp [updK] at h, by rw [if_pos (by simp [updK, L6])]; exact ⟨by simpa [upd] using htx2, hbl, fun _ => by simp [upd]⟩⟩ (.inr (WrG.refl _ _))
        clear hK hx r5
        rw [if_pos (by rfl)]
        go_simp
        simpa [upd, e6] using hK'
    case hdone =>
      intro L t w9 hx hg
      have l7 : L 7 = true := by simpa using hg 7 (by decide)
      have l6 : L 6 = true := by simpa using hg 6 (by decide)
      clear hg
      obtain ⟨_, _, h6⟩ := hx
      rw [l6, if_pos rfl] at h6
      obtain ⟨htx, hbl, h76⟩ := h6
      have e7 := h76 l7
      have HF : Hid (TxP w9 (t 6) ∧ Below w.heap.size w w9) := ⟨htx, hbl⟩
      simp only [e7]
      clear htx hbl h76 e7 l7 l6
      go_wp2
      go_ret
      exact ⟨_, rfl, HF.out⟩
  · have HF : Hid (TxP w6 (.slice (some ⟨bq, 0, none⟩) 128 cb) ∧ Below w.heap.size w w6) := ⟨TxP.of_own HD6.out.own (by rw [HD6.out.len]; decide) HD6.out.byte, HD6.out.below⟩
    have n0 : (k == 0) = false := by simp; omega
    have n1 : (k == 1) = false := by simp; omega
    have n2 : (k == 2) = false := by simp; omega
    have n3 : (k == 3) = false := by simp; omega
    go_wp2
    go_ret
    exact ⟨_, rfl, HF.out⟩
end Go.Proofs.Ytmnoelfabldpfaa
