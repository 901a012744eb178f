/-
  Own work: the model's number of 32 bytes (written by wip/mkfb.py).
-/
import Derived.Test.YthghkfncpdnpoacSRo
import Derived.Test.YthghkfncpdnpoacBytes
namespace Go.Proofs.Ythghkfncpdnpoac
open Go.ChangeShapes Go.WideShapes Go.ChangeAt Go.RowKit
set_option linter.unusedVariables false

def fbL (bs : List Int) : List Int := (List.range 16).map fun i => bs.getD (2 * i) 0 + 256 * bs.getD (2 * i + 1) 0
theorem fbL_len (bs : List Int) : (fbL bs).length = 16 := by simp [fbL]
theorem fb_val (bs : List Int) (n : Nat) (h : 2 * n ≤ bs.length) : val 65536 ((List.range n).map fun i => bs.getD (2 * i) 0 + 256 * bs.getD (2 * i + 1) 0) = val 256 (bs.take (2 * n)) := by
  induction n with
  | zero => simp [val]
  | succ n ih =>
    rw [val_range, ih (by omega), show 2 * (n + 1) = 2 * n + 1 + 1 by omega, val_take 256 bs (2 * n + 1) (by omega), val_take 256 bs (2 * n) (by omega)]
    have e : (65536 : Int) ^ n = 256 ^ (2 * n) := by rw [Int.pow_mul]; rfl
    rw [e, Int.pow_succ]
    generalize (256 : Int) ^ (2 * n) = P
    generalize bs.getD (2 * n) 0 = x
    generalize bs.getD (2 * n + 1) 0 = y
    generalize val 256 (bs.take (2 * n)) = v
    grind
theorem fb_top (V r d : Int) (hV : V = r + d * 1766847064778384329583297500742918515827483896875618958121606201292619776) (h0 : 0 ≤ r) (h1 : r < 1766847064778384329583297500742918515827483896875618958121606201292619776) (hd0 : 0 ≤ d) (hd1 : d < 65536) :
    V + (d % 32768 - d) * 1766847064778384329583297500742918515827483896875618958121606201292619776 = V % 57896044618658097711785492504343953926634992332820282019728792003956564819968 := by omega
theorem fb_all (bs : List Int) (hl : bs.length = 32) (hb : Byte bs) : ((fbL bs).set 15 ((fbL bs).getD 15 0 % 32768)).length = 16 ∧ (∀ i, 0 ≤ ((fbL bs).set 15 ((fbL bs).getD 15 0 % 32768)).getD i 0 ∧ ((fbL bs).set 15 ((fbL bs).getD 15 0 % 32768)).getD i 0 < 65536) ∧ val 65536 ((fbL bs).set 15 ((fbL bs).getD 15 0 % 32768)) = val 256 bs % (fp + 19) := by
  have hd : ∀ i, 0 ≤ (fbL bs).getD i 0 ∧ (fbL bs).getD i 0 < 65536 := fun i => by
    by_cases h : i < 16
    · rw [show (fbL bs).getD i 0 = _ from rget _ i h]
      have := hb.get (2 * i); have := hb.get (2 * i + 1); omega
    · rw [getD_past (by rw [fbL_len]; omega)]; omega
  refine ⟨by rw [List.length_set, fbL_len], fun i => ?_, ?_⟩
  · rw [getD_set_eq _ _ _ _ (by rw [fbL_len]; decide)]
    have := hd i; have := hd 15
    split <;> omega
  · have e1 : val 65536 (fbL bs) = val 256 bs := by
      have := fb_val bs 16 (by omega)
      rw [List.take_of_length_le (by omega)] at this; exact this
    have e2 := val_take 65536 (fbL bs) 15 (by rw [fbL_len]; decide)
    rw [List.take_of_length_le (by rw [fbL_len]; decide), e1] at e2
    have dg : Dig 65536 ((fbL bs).take 15) := fun z hz => dig_of_get hd z (List.mem_of_mem_take hz)
    have b0 := val_nonneg (B := 65536) (by decide) dg
    have b1 := val_lt (B := 65536) (by decide) dg
    rw [List.length_take, fbL_len, show min 15 16 = 15 from rfl] at b1
    have e3 : (65536 : Int) ^ 15 = 1766847064778384329583297500742918515827483896875618958121606201292619776 := by decide
    have e4 : fp + 19 = 57896044618658097711785492504343953926634992332820282019728792003956564819968 := by decide
    rw [val_set _ _ _ _ (by rw [fbL_len]; decide), e1, e3, e4]
    rw [e3] at e2 b1
    exact fb_top _ _ _ e2 b0 b1 (hd 15).1 (hd 15).2

def GFb (B : Nat) (u : Value) (b0 off n cap k : Nat) (x y : Int) (zs : List Int) : Nat → (Nat → Bool) → World → Value → Prop
  | 0, _, _, v => v = u
  | 1, _, _, v => v = (.slice (some ⟨b0, off, none⟩) n cap)
  | 2, _, _, v => v = (.int .i64 k)
  | 3, _, _, v => v = (.int .i64 ((2 * k : Nat) : Int))
  | 4, _, _, v => v = (.pointer (some ⟨b0, off + 2 * k, none⟩))
  | 5, _, _, v => v = (.int .u8 x)
  | 6, _, _, v => v = (.int .i64 x)
  | 7, _, _, v => v = (.slice (some ⟨b0, off, none⟩) n cap)
  | 8, _, _, v => v = (.int .i64 k)
  | 9, _, _, v => v = (.int .i64 ((2 * k : Nat) : Int))
  | 10, _, _, v => v = (.int .i64 ((2 * k + 1 : Nat) : Int))
  | 11, _, _, v => v = (.pointer (some ⟨b0, off + (2 * k + 1), none⟩))
  | 12, _, _, v => v = (.int .u8 y)
  | 13, _, _, v => v = (.int .i64 y)
  | 14, _, _, v => v = (.int .i64 (256 * y))
  | 15, _, _, v => v = (.int .i64 (x + 256 * y))
  | 16, L, w, v => L 17 = false → ∃ g', v = .slice (some ⟨g', 0, none⟩) 1 1 ∧ g' < w.heap.size ∧ w.cell? ⟨g', 0, none⟩ = some (.int .i64 (x + 256 * y))
  | 17, _, w, v => OwnI w B v (zs ++ [x + 256 * y])
  | _, _, _, _ => True
theorem GFb_stab (B : Nat) (u : Value) (b0 off n cap k : Nat) (x y : Int) (zs : List Int) (j : Nat) (L : Nat → Bool) (w w' : World) (i : Nat) (v : Value) (hm : i ≠ 17 → Below w.heap.size w w') (hij : i ≠ j) (hL : L i = false) (h : GFb B u b0 off n cap k x y zs j L w v) :
    GFb B u b0 off n cap k x y zs j (updK L i) w' v := by
  unfold GFb at *
  split at h <;> try exact h
  · intro h14
    have hi : i ≠ 17 := fun e => by subst e; simp [updK] at h14
    have hL14 : L 17 = false := by simpa [updK, Ne.symm hi] using h14
    obtain ⟨g', e, hg, c0⟩ := h hL14
    have hb := hm hi
    exact ⟨g', e, by have := hb.size; omega, by rw [hb.cell (p := ⟨g', 0, none⟩) hg]; exact c0⟩
  · exact h.grow (hm (fun e => hij e))

set_option maxHeartbeats 2000000 in
theorem fromBytes_any (a : Option Addr) (n cap : Nat) (bs : List Int) (w : World) (hn : bs.length = n) (h32 : 32 ≤ n) (hmx : n ≤ 32) (ha : At .u8 w a bs) (hb : Byte bs) :
    Calls Try.prog 86 #[.slice a n cap] w (LsP w (val 256 bs % (fp + 19))) := by
  obtain ⟨b0, off, rfl, hb0, hc⟩ := ha.get (by omega)
  have HC : Hid (∀ i, i < 32 → w.cell? ⟨b0, off + i, none⟩ = some (.int .u8 (bs.getD i 0))) := fun i hi => hc i (by omega)
  have HBY : Hid (Byte bs) := hb
  have HALL : Hid (((fbL bs).set 15 ((fbL bs).getD 15 0 % 32768)).length = 16 ∧ (∀ i, 0 ≤ ((fbL bs).set 15 ((fbL bs).getD 15 0 % 32768)).getD i 0 ∧ ((fbL bs).set 15 ((fbL bs).getD 15 0 % 32768)).getD i 0 < 65536) ∧ val 65536 ((fbL bs).set 15 ((fbL bs).getD 15 0 % 32768)) = val 256 bs % (fp + 19)) := fb_all bs (by omega) hb
  have H15 : Hid (0 ≤ (fbL bs).getD 15 0 ∧ (fbL bs).getD 15 0 < 65536) := by
    show _ ∧ _
    rw [show (fbL bs).getD 15 0 = _ from rget _ 15 (by decide)]
    have := hb.get (2 * 15); have := hb.get (2 * 15 + 1); omega
  clear hc ha hb hn
  go_enter Try.func86, Try.ntmps86
  go_wp2
  go_loopw [3, 4] (fun v i wr => ∃ k : Nat, k ≤ 16 ∧ i = .int .i64 k ∧ OwnI wr w.heap.size v ((fbL bs).take k) ∧ Below w.heap.size w wr) (fun _ i _ => 16 - (intOf i).toNat)
  case atStart => exact ⟨0, by decide, rfl, OwnK.empty _ _ (Nat.le_refl _), (Below.refl _ _).alloc (Nat.le_refl _) _⟩
  case round =>
    obtain ⟨k, hk, rfl, hown, hbel⟩ := hrel
    by_cases hlt : k < 16
    · have hlt' : (k : Int) < 16 := by omega
      have HO : Hid (OwnI wr w.heap.size u3 ((fbL bs).take k)) := hown
      have HBE : Hid (Below w.heap.size w wr) := hbel
      obtain ⟨x0, x1⟩ := HBY.out.get (2 * k)
      obtain ⟨y0, y1⟩ := HBY.out.get (2 * k + 1)
      have HTK : Hid ((fbL bs).take (k + 1) = (fbL bs).take k ++ [bs.getD (2 * k) 0 + 256 * bs.getD (2 * k + 1) 0]) := by
        show _ = _
        have e : (fbL bs).getD k 0 = bs.getD (2 * k) 0 + 256 * bs.getD (2 * k + 1) 0 := rget _ k hlt
        rw [← e, List.take_succ_eq_append_getElem (by rw [fbL_len]; exact hlt), List.getD_eq_getElem?_getD, List.getElem?_eq_getElem (by rw [fbL_len]; exact hlt)]; rfl
      have HTL : Hid (((fbL bs).take k).length = k) := by show _ = _; rw [List.length_take, fbL_len]; omega
      have HCX : Hid (w.cell? ⟨b0, off + 2 * k, none⟩ = some (.int .u8 (bs.getD (2 * k) 0))) := HC.out _ (by omega)
      have HCY : Hid (w.cell? ⟨b0, off + (2 * k + 1), none⟩ = some (.int .u8 (bs.getD (2 * k + 1) 0))) := HC.out _ (by omega)
      have hsz := hbel.size
      clear hown hbel
      generalize (fbL bs).take k = zs at *
      generalize bs.getD (2 * k) 0 = x at *
      generalize bs.getD (2 * k + 1) 0 = y at *
      have hm1 : IntKind.i64.wrap x = x := by rw [IntKind.wrap_i64]; omega
      have hm2 : IntKind.i64.wrap y = y := by rw [IntKind.wrap_i64]; omega
      have hm3 : IntKind.i64.wrap (256 * y) = 256 * y := by rw [IntKind.wrap_i64]; omega
      have hm4 : IntKind.i64.wrap (x + 256 * y) = x + 256 * y := by rw [IntKind.wrap_i64]; omega
      have hm5 : IntKind.i64.wrap (2 * (k : Int)) = 2 * (k : Int) := by rw [IntKind.wrap_i64]; omega
      have hm6 : IntKind.i64.wrap (2 * (k : Int) + 1) = 2 * (k : Int) + 1 := by rw [IntKind.wrap_i64]; omega
      have hp1 : 0 ≤ 2 * (k : Int) := by omega
      have hp2 : 0 ≤ 2 * (k : Int) + 1 := by omega
      have ht1 : (2 * (k : Int)).toNat = 2 * k := by omega
      have ht2 : (2 * (k : Int) + 1).toNat = 2 * k + 1 := by omega
      have hi1 : 2 * (k : Int) < (n : Int) := by omega
      have hi2 : 2 * (k : Int) + 1 < (n : Int) := by omega
      have hi3 : ((2 * k : Nat) : Int) < (n : Int) := by omega
      have hi4 : ((2 * k + 1 : Nat) : Int) < (n : Int) := by omega
      go_wp2
      refine wp_region_any (by kernel_rfl) ?_
      refine wpAny_slotsK 18 (fun i w w' => i ≠ 17 → Below w.heap.size w w') (frame := (fun (c0 c1 c2 c3 c4 c5 c6 c7 c8 c9 c28 c29 c30 c31 c32 c33 c34 : Value) => fun (t : Nat → Value) => ({ tmps := List.toArray (c0 :: c1 :: c2 :: c3 :: c4 :: c5 :: c6 :: c7 :: c8 :: c9 :: t 0 :: t 1 :: t 2 :: t 3 :: t 4 :: t 5 :: t 6 :: t 7 :: t 8 :: t 9 :: t 10 :: t 11 :: t 12 :: t 13 :: t 14 :: t 15 :: t 16 :: t 17 :: c28 :: c29 :: c30 :: c31 :: c32 :: c33 :: c34 :: []), defers := [] } : Act)) _ _ _ _ _ _ _ _ _ _ _ _ _ _ _ _ _)
        (Ext := fun L w' => (L 17 = false → Below wr.heap.size wr w') ∧ Below w.heap.size w w' ∧ wr.heap.size ≤ w'.heap.size)
        (Good := GFb w.heap.size u3 b0 off n cap k x y zs) (by rfl) (by kernel_rfl) (GFb_stab _ _ _ _ _ _ _ _ _ _) (by kernel_rfl) (by kernel_rfl) ?hop ?hend _ _ ((fun (x0 x1 x2 x3 x4 x5 x6 x7 x8 x9 x10 x11 x12 x13 x14 x15 x16 x17 : Value) => fun (i : Nat) => if i = 0 then x0 else if i = 1 then x1 else if i = 2 then x2 else if i = 3 then x3 else if i = 4 then x4 else if i = 5 then x5 else if i = 6 then x6 else if i = 7 then x7 else if i = 8 then x8 else if i = 9 then x9 else if i = 10 then x10 else if i = 11 then x11 else if i = 12 then x12 else if i = 13 then x13 else if i = 14 then x14 else if i = 15 then x15 else if i = 16 then x16 else if i = 17 then x17 else undef) _ _ _ _ _ _ _ _ _ _ _ _ _ _ _ _ _ _) _ (by simp) (by simp) ?ext ?start (by simp)
      case start => intro i hi h; exact absurd h (by rw [Array.getD_eq_getD_getElem?, Array.getElem?_replicate]; split <;> simp)
      case ext => exact ⟨fun _ => (Below.refl _ _).drew, ⟨HBE.out.os, HBE.out.tape, HBE.out.output, HBE.out.size, HBE.out.block⟩, Nat.le_refl _⟩
      case hop =>
        intro i o L t w' hil ho hLi hx hdep K hK
        obtain ⟨hx14, hxB, hxS⟩ := hx
        have cX : w'.cell? ⟨b0, off + 2 * k, none⟩ = some (.int .u8 x) := by rw [hxB.cell (p := ⟨b0, off + 2 * k, none⟩) hb0]; exact HCX.out
        have cY : w'.cell? ⟨b0, off + (2 * k + 1), none⟩ = some (.int .u8 y) := by rw [hxB.cell (p := ⟨b0, off + (2 * k + 1), none⟩) hb0]; exact HCY.out
        have RX : Hid (∀ j, j ≠ 17 → ∀ ww, Below w'.heap.size w' ww → ((updK L j 17 = false → Below wr.heap.size wr ww) ∧ Below w.heap.size w ww ∧ wr.heap.size ≤ ww.heap.size)) := fun j hj ww hb =>
          ⟨fun hL => (hx14 (by simpa [updK, Ne.symm hj] using hL)).trans (hb.mono hxS), hxB.trans (hb.mono hxB.size), by have := hb.size; omega⟩
        have RR : Hid (∀ j, j ≠ 17 → ((updK L j 17 = false → Below wr.heap.size wr w') ∧ Below w.heap.size w w' ∧ wr.heap.size ≤ w'.heap.size)) := fun j hj => RX.out j hj w' (Below.refl _ _)
        have RM : Hid (∀ j : Nat, j ≠ 17 → Below w'.heap.size w' w') := fun _ _ => Below.refl _ _
        have H14 : Hid (L 17 = false → Below wr.heap.size wr w') := hx14
        have HXB : Hid (Below w.heap.size w w') := hxB
        clear hx14 hxB
        obtain rfl | rfl | rfl | rfl | rfl | rfl | rfl | rfl | rfl | rfl | rfl | rfl | rfl | rfl | rfl | rfl | rfl | rfl : i = 0 ∨ i = 1 ∨ i = 2 ∨ i = 3 ∨ i = 4 ∨ i = 5 ∨ i = 6 ∨ i = 7 ∨ i = 8 ∨ i = 9 ∨ i = 10 ∨ i = 11 ∨ i = 12 ∨ i = 13 ∨ i = 14 ∨ i = 15 ∨ i = 16 ∨ i = 17 := by omega
        all_goals (simp at ho; subst ho)
        · clear hdep
          go_simp
          exact hK w' u3 rfl (RR.out 0 (by decide)) (RM.out 0)
        · clear hdep
          go_simp
          exact hK w' (.slice (some ⟨b0, off, none⟩) n cap) rfl (RR.out 1 (by decide)) (RM.out 1)
        · clear hdep
          go_simp
          exact hK w' (.int .i64 k) rfl (RR.out 2 (by decide)) (RM.out 2)
        · have d2 : t 2 = (.int .i64 k) := hdep ⟨2, .data⟩ (by simp) rfl
          clear hdep
          have hK' := hK w' (.int .i64 ((2 * k : Nat) : Int)) rfl (RR.out 3 (by decide)) (RM.out 3)
          clear hK
          go_simp
          simpa [upd, d2, hm1, hm2, hm3, hm4, hm5, hm6, hp1, hp2, ht1, ht2] using hK'
        · have d1 : t 1 = (.slice (some ⟨b0, off, none⟩) n cap) := hdep ⟨1, .data⟩ (by simp) rfl
          have d3 : t 3 = (.int .i64 ((2 * k : Nat) : Int)) := hdep ⟨3, .data⟩ (by simp) rfl
          clear hdep
          have hK' := hK w' (.pointer (some ⟨b0, off + 2 * k, none⟩)) rfl (RR.out 4 (by decide)) (RM.out 4)
          clear hK
          go_simp
          simpa [upd, d1, d3, hm1, hm2, hm3, hm4, hm5, hm6, hp1, hp2, ht1, ht2] using hK'
        · have d4 : t 4 = (.pointer (some ⟨b0, off + 2 * k, none⟩)) := hdep ⟨4, .data⟩ (by simp) rfl
          clear hdep
          have hK' := hK w' (.int .u8 x) rfl (RR.out 5 (by decide)) (RM.out 5)
          clear hK
          go_simp
          simpa [upd, d4, hm1, hm2, hm3, hm4, hm5, hm6, hp1, hp2, ht1, ht2] using hK'
        · have d5 : t 5 = (.int .u8 x) := hdep ⟨5, .data⟩ (by simp) rfl
          clear hdep
          have hK' := hK w' (.int .i64 x) rfl (RR.out 6 (by decide)) (RM.out 6)
          clear hK
          go_simp
          simpa [upd, d5, hm1, hm2, hm3, hm4, hm5, hm6, hp1, hp2, ht1, ht2] using hK'
        · clear hdep
          go_simp
          exact hK w' (.slice (some ⟨b0, off, none⟩) n cap) rfl (RR.out 7 (by decide)) (RM.out 7)
        · clear hdep
          go_simp
          exact hK w' (.int .i64 k) rfl (RR.out 8 (by decide)) (RM.out 8)
        · have d8 : t 8 = (.int .i64 k) := hdep ⟨8, .data⟩ (by simp) rfl
          clear hdep
          have hK' := hK w' (.int .i64 ((2 * k : Nat) : Int)) rfl (RR.out 9 (by decide)) (RM.out 9)
          clear hK
          go_simp
          simpa [upd, d8, hm1, hm2, hm3, hm4, hm5, hm6, hp1, hp2, ht1, ht2] using hK'
        · have d9 : t 9 = (.int .i64 ((2 * k : Nat) : Int)) := hdep ⟨9, .data⟩ (by simp) rfl
          clear hdep
          have hK' := hK w' (.int .i64 ((2 * k + 1 : Nat) : Int)) rfl (RR.out 10 (by decide)) (RM.out 10)
          clear hK
          go_simp
          simpa [upd, d9, hm1, hm2, hm3, hm4, hm5, hm6, hp1, hp2, ht1, ht2] using hK'
        · have d7 : t 7 = (.slice (some ⟨b0, off, none⟩) n cap) := hdep ⟨7, .data⟩ (by simp) rfl
          have d10 : t 10 = (.int .i64 ((2 * k + 1 : Nat) : Int)) := hdep ⟨10, .data⟩ (by simp) rfl
          clear hdep
          have hK' := hK w' (.pointer (some ⟨b0, off + (2 * k + 1), none⟩)) rfl (RR.out 11 (by decide)) (RM.out 11)
          clear hK
          go_simp
          simpa [upd, d7, d10, hm1, hm2, hm3, hm4, hm5, hm6, hp1, hp2, ht1, ht2] using hK'
        · have d11 : t 11 = (.pointer (some ⟨b0, off + (2 * k + 1), none⟩)) := hdep ⟨11, .data⟩ (by simp) rfl
          clear hdep
          have hK' := hK w' (.int .u8 y) rfl (RR.out 12 (by decide)) (RM.out 12)
          clear hK
          go_simp
          simpa [upd, d11, hm1, hm2, hm3, hm4, hm5, hm6, hp1, hp2, ht1, ht2] using hK'
        · have d12 : t 12 = (.int .u8 y) := hdep ⟨12, .data⟩ (by simp) rfl
          clear hdep
          have hK' := hK w' (.int .i64 y) rfl (RR.out 13 (by decide)) (RM.out 13)
          clear hK
          go_simp
          simpa [upd, d12, hm1, hm2, hm3, hm4, hm5, hm6, hp1, hp2, ht1, ht2] using hK'
        · have d13 : t 13 = (.int .i64 y) := hdep ⟨13, .data⟩ (by simp) rfl
          clear hdep
          have hK' := hK w' (.int .i64 (256 * y)) rfl (RR.out 14 (by decide)) (RM.out 14)
          clear hK
          go_simp
          simpa [upd, d13, hm1, hm2, hm3, hm4, hm5, hm6, hp1, hp2, ht1, ht2] using hK'
        · have d6 : t 6 = (.int .i64 x) := hdep ⟨6, .data⟩ (by simp) rfl
          have d14 : t 14 = (.int .i64 (256 * y)) := hdep ⟨14, .data⟩ (by simp) rfl
          clear hdep
          have hK' := hK w' (.int .i64 (x + 256 * y)) rfl (RR.out 15 (by decide)) (RM.out 15)
          clear hK
          go_simp
          simpa [upd, d6, d14, hm1, hm2, hm3, hm4, hm5, hm6, hp1, hp2, ht1, ht2] using hK'
        · have d15 : t 15 = (.int .i64 (x + 256 * y)) := hdep ⟨15, .data⟩ (by simp) rfl
          clear hdep
          have hK' := hK (w'.alloc (.cells #[.int .i64 (x + 256 * y)] 2)) (.slice (some ⟨w'.heap.size, 0, none⟩) 1 1) (fun _ => ⟨w'.heap.size, rfl, by simp, cell_of_row _ _ _ _ _ _ (heap_alloc_new _ _)⟩) (RX.out 16 (by decide) _ (below_new3 _ _)) (fun _ => below_new3 _ _)
          clear hK
          go_simp
          simpa [upd, d15] using hK'
        · have d0 : t 0 = _ := hdep ⟨0, .data⟩ (by simp) rfl
          have d10 := hdep ⟨16, .data⟩ (by simp) rfl
          obtain ⟨g', e10, hg', cc0⟩ := d10 hLi
          clear hdep d10
          have hO := HO.out.grow (H14.out hLi)
          refine wp_appI (a := _) _ ktI _ _ rfl w.heap.size _ zs (by first | exact d0 | (simp [d0]; done)) hO ⟨g', 0, none⟩ 1 1 [x + 256 * y] (by first | exact e10 | (simp [e10]; done)) rfl ?_ ?_ ?_ ?_
          · intro j hj
            obtain rfl : j = 0 := by omega
            rw [Addr.add_lit]; exact cc0
          · rw [HTL.out]; omega
          · exact HXB.out.size
          · intro v' w9 hown' hbel'
            exact hK w9 v' hown' ⟨fun h => by simp [updK] at h, HXB.out.trans hbel', by have := hbel'.size; have := HXB.out.size; omega⟩ (fun h => absurd rfl h)
      case hend =>
        intro o L t w' ho hx hg K hK
        simp at ho; subst ho
        obtain ⟨hx14, hxB, hxS⟩ := hx
        have O14 : OwnI w' w.heap.size (t 17) (zs ++ [x + 256 * y]) := hg 17 (by decide)
        have HXB : Hid (Below w.heap.size w w') := hxB
        have HO14 : Hid (OwnI w' w.heap.size (t 17) ((fbL bs).take (k + 1))) := by rw [HTK.out]; exact O14
        clear hg O14 hx14 hxB hxS hm1 hm2 hm3 hm4 hm5 hm6 hp1 hp2 ht1 ht2 hi1 hi2 hi3 hi4
        go_simp
        refine hK _ _ ?_
        go_wp2
        go_roundw
        case rel => exact ⟨k + 1, by omega, by go_num, HO14.out, HXB.out⟩
        case measure => simp [intOf]; omega
    · have hk16 : k = 16 := by omega
      have ho : OwnI wr w.heap.size u3 (fbL bs) := by rw [hk16, List.take_of_length_le (by rw [fbL_len]; decide)] at hown; exact hown
      obtain ⟨g, c, rfl, hg, hg', hA⟩ := ho.at_
      rw [fbL_len] at ho ⊢
      obtain ⟨c15, f15, o15⟩ := ho.set (fbL_len bs) 15 ((fbL bs).getD 15 0 % 32768) (by decide)
      have HOW : Hid (OwnI (wr.setCell ⟨g, 15, none⟩ (.int .i64 ((fbL bs).getD 15 0 % 32768))) w.heap.size (.slice (some ⟨g, 0, none⟩) 16 c) ((fbL bs).set 15 ((fbL bs).getD 15 0 % 32768))) := o15
      have HBE : Hid (Below w.heap.size w (wr.setCell ⟨g, 15, none⟩ (.int .i64 ((fbL bs).getD 15 0 % 32768)))) := hbel.setCell (by simpa using hg) _
      obtain ⟨q0, q1⟩ := H15.out
      have hlt' : ¬ (k : Int) < 16 := by omega
      clear ho hown o15 hA hk16 hbel
      generalize hdd : (fbL bs).getD 15 0 = d at *
      clear hdd
      have htm : d.tmod 32768 = d % 32768 := Int.tmod_eq_emod_of_nonneg q0
      go_wp2
      go_ret
      obtain ⟨hA1, z1, z2⟩ := HOW.out.atS
      exact ⟨g, c, rfl, z1, z2, ⟨_, hA1, HALL.out.1, HALL.out.2.1, HALL.out.2.2⟩, HBE.out⟩
end Go.Proofs.Ythghkfncpdnpoac
