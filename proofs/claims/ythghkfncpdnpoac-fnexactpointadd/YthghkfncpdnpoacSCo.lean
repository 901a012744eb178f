/-
  Own work: the code of a point, by the model (written by wip/mkco.py).
-/
import Derived.Test.YthghkfncpdnpoacSSum
import Derived.Test.YthghkfncpdnpoacSPow
import Derived.Test.YthghkfncpdnpoacSLst
import Derived.Test.YthghkfncpdnpoacByP
namespace Go.Proofs.Ythghkfncpdnpoac
open Go.ChangeShapes Go.WideShapes Go.ChangeAt Go.RowKit
set_option linter.unusedVariables false

def top255 : Int := 57896044618658097711785492504343953926634992332820282019728792003956564819968
/-- The number that is a point's code. -/
def cdV (X Y Z : Int) : Int := Y * inv0 Z % fp + top255 * (X * inv0 Z % fp % 2)
theorem pair_val (bs : List Int) (d : Int) (k : Nat) (h : bs.length = 2 * k) : val 256 (bs ++ [d % 256, d / 256]) = val 256 bs + d * 65536 ^ k := by
  rw [val_append, h]
  have e : (256 : Int) ^ (2 * k) = 65536 ^ k := by rw [Int.pow_mul, show (256 : Int) ^ 2 = 65536 from by decide]
  rw [e]
  simp only [val]
  have : d % 256 + 256 * (d / 256) = d := Int.emod_add_mul_ediv _ _
  have e2 : d % 256 + 256 * (d / 256 + 256 * 0) = d := by omega
  rw [e2, Int.mul_comm]

/-- The bytes of the digits so far. -/
structure BYS (w w5 : World) (zs : List Int) (k : Nat) (v : Value) (wr : World) : Prop where
  st : ∃ bs : List Int, Own wr w5.heap.size v bs ∧ bs.length = 2 * k ∧ Byte bs ∧ val 256 bs = val 65536 (zs.take k)
  below : Below w5.heap.size w5 wr

def CodeP (w : World) (x : Int) (e : Ending) (w' : World) : Prop :=
  ∃ v bs, e = .returned v ∧ Own w' w.heap.size v bs ∧ Byte bs ∧ bs.length = 32 ∧ val 256 bs = x ∧ Below w.heap.size w w'
theorem Own.lower3 {w : World} {B B' : Nat} {v : Value} {zs : List Int} (h : Own w B' v zs) (hB : B ≤ B') : Own w B v zs := by
  obtain ⟨⟨h1, h2⟩, h3⟩ := h
  refine ⟨⟨h1, ?_⟩, h3⟩
  rcases h2 with h | ⟨g, c, cur, h4, h5, h6⟩
  · exact .inl h
  · exact .inr ⟨g, c, cur, h4, by omega, h6⟩

theorem code_set (bs : List Int) (hl : bs.length = 32) (hb : Byte bs) (V p : Int) (hv : val 256 bs = V) (hV : V < top255) (hp : p = 0 ∨ p = 1) :
    0 ≤ bs.getD 31 0 ∧ bs.getD 31 0 < 128 ∧ val 256 (bs.set 31 (bs.getD 31 0 + 128 * p)) = V + top255 * p ∧ Byte (bs.set 31 (bs.getD 31 0 + 128 * p)) := by
  have h31 := hb.get 31
  have hd := val_digit (B := 256) (by decide) (fun z hz => hb z hz) 31
  rw [hv] at hd
  have hV0 : 0 ≤ V := by rw [← hv]; exact val_nonneg (by decide) (fun z hz => hb z hz)
  have e31 : (256 : Int) ^ 31 = 452312848583266388373324160190187140051835877600158453279131187530910662656 := by decide
  have hlt : bs.getD 31 0 < 128 := by
    rw [← hd, e31]; unfold top255 at hV; omega
  refine ⟨h31.1, hlt, ?_, ?_⟩
  · rw [val_set 256 bs 31 _ (by omega), hv, e31]
    unfold top255
    rcases hp with rfl | rfl <;> omega
  · intro z hz
    rcases List.mem_or_eq_of_mem_set hz with h | h
    · exact hb z h
    · omega

set_option maxRecDepth 100000 in
set_option maxHeartbeats 4000000 in
theorem code_any (a0 a1 a2 a3 : Option Addr) (c0 c1 c2 c3 : Nat) (X Y Z : Int) (w : World) (hx : FeA w a0 X) (hy : FeA w a1 Y) (hz : FeA w a2 Z) :
    Calls Try.prog 64 #[.agg #[.slice a0 16 c0, .slice a1 16 c1, .slice a2 16 c2, .slice a3 16 c3]] w (CodeP w (cdV X Y Z)) := by
  have bb : Below w.heap.size w (w.alloc (.cells #[.slice a0 16 c0, .slice a1 16 c1, .slice a2 16 c2, .slice a3 16 c3] 76)) := below_new3 _ _
  have HP : Hid (PtW (w.alloc (.cells #[.slice a0 16 c0, .slice a1 16 c1, .slice a2 16 c2, .slice a3 16 c3] 76)) w.heap.size #[.slice a0 16 c0, .slice a1 16 c1, .slice a2 16 c2, .slice a3 16 c3]) := heap_alloc_new w _
  have SRK : Hid (SR w (w.alloc (.cells #[.slice a0 16 c0, .slice a1 16 c1, .slice a2 16 c2, .slice a3 16 c3] 76)) [(a0, X), (a1, Y), (a2, Z)]) := ⟨bb, fun e he => by
    simp only [List.mem_cons, List.not_mem_nil, or_false] at he
    rcases he with rfl | rfl | rfl
    · exact hx.below bb
    · exact hy.below bb
    · exact hz.below bb⟩
  clear bb hx hy hz
  have k2 := HP.out.c2
  go_enter Try.func64, Try.ntmps64
  go_wp2_with fail
  generalize (w.alloc (.cells #[.slice a0 16 c0, .slice a1 16 c1, .slice a2 16 c2, .slice a3 16 c3] 76)) = w0 at *
  refine (pow0_any _ c2 Z _ (SRK.out.at 2 _ _ rfl)).mono ?_
  rintro e w1 ⟨g1, k1, rfl, hk1, hl1, hf, hb⟩
  have HP1 : Hid (PtW w1 w.heap.size #[.slice a0 16 c0, .slice a1 16 c1, .slice a2 16 c2, .slice a3 16 c3]) := HP.out.below hb HP.out.lt
  have SRK1 : Hid (SR w w1 [(a0, X), (a1, Y), (a2, Z), (some ⟨g1, 0, none⟩, inv0 Z)]) := SRK.out.more hb hf
  clear hf hb HP SRK hk1 hl1 k2
  have k0 := HP1.out.c0
  go_wp2_with fail
  refine (fmul_any _ _ c0 k1 _ _ _ (SRK1.out.at 0 _ _ rfl) (SRK1.out.at 3 _ _ rfl)).mono ?_
  rintro e w2 ⟨g2, kk2, rfl, hk1, hl1, hf, hb⟩
  have HP2 : Hid (PtW w2 w.heap.size #[.slice a0 16 c0, .slice a1 16 c1, .slice a2 16 c2, .slice a3 16 c3]) := HP1.out.below hb HP1.out.lt
  have SRK2 : Hid (SR w w2 [(a0, X), (a1, Y), (a2, Z), (some ⟨g1, 0, none⟩, inv0 Z), (some ⟨g2, 0, none⟩, X * inv0 Z % fp)]) := SRK1.out.more hb hf
  clear hf hb HP1 SRK1 hk1 hl1 k0
  go_wp2_with fail
  refine (least_any _ kk2 _ _ (SRK2.out.at 4 _ _ rfl)).mono ?_
  rintro e w3 ⟨gx, cx, rfl, hgx, hgx', hlx, hb⟩
  have HP3 : Hid (PtW w3 w.heap.size #[.slice a0 16 c0, .slice a1 16 c1, .slice a2 16 c2, .slice a3 16 c3]) := HP2.out.below hb HP2.out.lt
  have SRK3 : Hid (SR w w3 [(a0, X), (a1, Y), (a2, Z), (some ⟨g1, 0, none⟩, inv0 Z), (some ⟨g2, 0, none⟩, X * inv0 Z % fp)]) := SRK2.out.low hb
  have HLX : Hid (LsA w3 (some ⟨gx, 0, none⟩) (X * inv0 Z % fp)) := hlx
  clear hb HP2 SRK2 hgx hlx
  have k1' := HP3.out.c1
  go_wp2_with fail
  refine (fmul_any _ _ c1 k1 _ _ _ (SRK3.out.at 1 _ _ rfl) (SRK3.out.at 3 _ _ rfl)).mono ?_
  rintro e w4 ⟨g4, k4, rfl, hk1, hl1, hf, hb⟩
  have HLX4 : Hid (LsA w4 (some ⟨gx, 0, none⟩) (X * inv0 Z % fp)) := HLX.out.below hb
  have HS4 : Hid (Below w.heap.size w w4) := SRK3.out.below.trans (hb.mono SRK3.out.below.size)
  have HF4 : Hid (FeA w4 (some ⟨g4, 0, none⟩) (Y * inv0 Z % fp)) := hf
  have hgx4 : gx < w4.heap.size := by have := hb.size; omega
  clear hf hb HP3 SRK3 HLX hk1 hl1 k1' hgx'
  go_wp2_with fail
  refine (least_any _ k4 _ _ HF4.out).mono ?_
  rintro e w5 ⟨gy, cyy, rfl, hgy, hgy', ⟨zs, hzA, hzl, hzd, hzv⟩, hb5⟩
  have HB5 : Hid (Below w.heap.size w w5) := HS4.out.trans (hb5.mono HS4.out.size)
  obtain ⟨xs, hxA, hxl, hxd, hxv⟩ := HLX4.out.below hb5
  have hgx5 : gx < w5.heap.size := by have := hb5.size; omega
  have HYC : Hid (∀ i, i < 16 → w5.cell? ⟨gy, i, none⟩ = some (.int .i64 (zs.getD i 0))) := fun i hi => by
    obtain ⟨_, _, e, _, hc⟩ := hzA.get (by omega)
    cases e
    have := hc i (by omega)
    rwa [Nat.zero_add] at this
  have HXC : Hid (w5.cell? ⟨gx, 0, none⟩ = some (.int .i64 (xs.getD 0 0))) := by
    obtain ⟨_, _, e, _, hc⟩ := hxA.get (by omega)
    cases e
    exact hc 0 (by omega)
  have HXP : Hid (xs.getD 0 0 % 2 = X * inv0 Z % fp % 2 ∧ 0 ≤ xs.getD 0 0 ∧ xs.getD 0 0 < 65536) := ⟨by rw [← val_par xs hxl, hxv], hxd 0⟩
  have HZL : Hid (zs.length = 16) := hzl
  have HZD : Hid (∀ i, 0 ≤ zs.getD i 0 ∧ zs.getD i 0 < 65536) := hzd
  have HZV : Hid (val 65536 zs = Y * inv0 Z % fp) := hzv
  have HS : Hid (BYS w w5 zs 0 (.slice (some ⟨w5.heap.size, 0, none⟩) 0 0) (w5.alloc (.cells #[] 5))) := ⟨⟨[], Own.empty _ _ (Nat.le_refl _), rfl, by simp [Byte], by simp [val]⟩, below_new3 _ _⟩
  clear HF4 HLX4 HS4 hgx4 hb5 hzA hzl hzd hzv hxA hxl hxd hxv
  generalize xs.getD 0 0 = x at *
  go_wp2
  go_loopw [6, 7] (fun v i wr => ∃ k : Nat, k ≤ 16 ∧ i = .int .i64 k ∧ BYS w w5 zs k v wr) (fun _ i _ => 16 - (intOf i).toNat)
  case atStart => exact ⟨0, by decide, rfl, HS.out⟩
  case round =>
    clear HS
    obtain ⟨k, hk, rfl, ⟨bs, hO, hbl, hbb, hbv⟩, hbel⟩ := hrel
    by_cases hlt : k < 16
    · have hlt' : (k : Int) < 16 := by omega
      have hd := HZD.out k
      have vt := val_take 65536 zs k (by have := HZL.out; omega)
      have c0 : wr.cell? ⟨gy, k, none⟩ = some (.int .i64 (zs.getD k 0)) := by
        rw [hbel.cell (p := ⟨gy, k, none⟩) hgy']; exact HYC.out k hlt
      generalize hdd : zs.getD k 0 = d at *
      clear hdd
      have HGN : Hid (¬ some gy = u6.ownBlock) := by
        obtain ⟨g, c, rfl, hg, _, _⟩ := hO.base
        intro h; simp [Value.ownBlock] at h; omega
      have HBL : Hid (bs.length ≤ 32) := by show _ ≤ _; omega
      have HN : Hid (val 256 (bs ++ [d % 256, d / 256]) = val 65536 (zs.take (k + 1)) ∧ (bs ++ [d % 256, d / 256]).length = 2 * (k + 1) ∧ Byte (bs ++ [d % 256, d / 256])) := by
        refine ⟨by rw [pair_val bs d k hbl, hbv, vt], by simp [hbl]; omega, ?_⟩
        intro z hz
        simp at hz
        rcases hz with h | h | h
        · exact hbb z h
        · omega
        · omega
      have HO : Hid (Own wr w5.heap.size u6 bs) := hO
      have HBE : Hid (Below w5.heap.size w5 wr) := hbel
      have hwr := hbel.size
      obtain ⟨hd0, hd1⟩ := hd
      clear hO hbel vt hbv hbb hbl HYC HZV HZD HXC
      go_wp2_with fail
      have hm1 : d.tmod 256 = d % 256 := Int.tmod_eq_emod_of_nonneg hd0
      have hm2 : d.tdiv 256 = d / 256 := Int.tdiv_eq_ediv_of_nonneg hd0
      have hm3 : IntKind.u8.wrap (d / 256) = d / 256 := by rw [IntKind.wrap_u8]; omega
      have hm4 : IntKind.u8.wrap (d % 256) = d % 256 := by rw [IntKind.wrap_u8]; omega
      have hm5 : IntKind.i64.wrap (d / 256) = d / 256 := by rw [IntKind.wrap_i64]; omega
      refine wp_region_any (by kernel_rfl) ?_
      refine wpAny_slotsK 15 (fun i w w' => i ≠ 14 → Below w.heap.size w w') (frame := (fun (c0 c1 c2 c3 c4 c5 c6 c7 c8 c9 c10 c11 c12 c13 c14 c15 c16 c17 c18 c19 c20 c21 c22 c23 c24 c25 c41 c42 c43 c44 c45 c46 c47 c48 c49 c50 c51 c52 c53 : Value) => fun (t : Nat → Value) => ({ tmps := List.toArray (c0 :: c1 :: c2 :: c3 :: c4 :: c5 :: c6 :: c7 :: c8 :: c9 :: c10 :: c11 :: c12 :: c13 :: c14 :: c15 :: c16 :: c17 :: c18 :: c19 :: c20 :: c21 :: c22 :: c23 :: c24 :: c25 :: t 0 :: t 1 :: t 2 :: t 3 :: t 4 :: t 5 :: t 6 :: t 7 :: t 8 :: t 9 :: t 10 :: t 11 :: t 12 :: t 13 :: t 14 :: c41 :: c42 :: c43 :: c44 :: c45 :: c46 :: c47 :: c48 :: c49 :: c50 :: c51 :: c52 :: c53 :: []), defers := [] } : Act)) _ _ _ _ _ _ _ _ _ _ _ _ _ _ _ _ _ _ _ _ _ _ _ _ _ _ _ _ _ _ _ _ _ _ _ _ _ _ _)
        (Ext := fun L w' => (L 14 = false → Below wr.heap.size wr w') ∧ Below w5.heap.size w5 w' ∧ (∀ i, i < 16 → w'.cell? ⟨gy, i, none⟩ = wr.cell? ⟨gy, i, none⟩) ∧ wr.heap.size ≤ w'.heap.size)
        (Good := GBy w5.heap.size u6 gy cyy k d bs) (by rfl) (by kernel_rfl) (GBy_stab _ _ _ _ _ _ _) (by kernel_rfl) (by kernel_rfl) ?hop ?hend _ _ ((fun (x0 x1 x2 x3 x4 x5 x6 x7 x8 x9 x10 x11 x12 x13 x14 : Value) => fun (i : Nat) => if i = 0 then x0 else if i = 1 then x1 else if i = 2 then x2 else if i = 3 then x3 else if i = 4 then x4 else if i = 5 then x5 else if i = 6 then x6 else if i = 7 then x7 else if i = 8 then x8 else if i = 9 then x9 else if i = 10 then x10 else if i = 11 then x11 else if i = 12 then x12 else if i = 13 then x13 else if i = 14 then x14 else undef) _ _ _ _ _ _ _ _ _ _ _ _ _ _ _) _ (by simp) (by simp) ?ext ?start (by simp)
      case start => intro i hi h; exact absurd h (by rw [Array.getD_eq_getD_getElem?, Array.getElem?_replicate]; split <;> simp)
      case ext => exact ⟨fun _ => (Below.refl _ _).drew, ⟨HBE.out.os, HBE.out.tape, HBE.out.output, HBE.out.size, HBE.out.block⟩, fun _ _ => rfl, Nat.le_refl _⟩
      case hop =>
        intro i o L t w' hil ho hLi hx hdep K hK
        obtain ⟨hx14, hxB, hxY, hxS⟩ := hx
        have cY : w'.cell? ⟨gy, k, none⟩ = some (.int .i64 d) := by rw [hxY k (by omega)]; exact c0
        have RX : Hid (∀ j, j ≠ 14 → ∀ ww, Below w'.heap.size w' ww → ((updK L j 14 = false → Below wr.heap.size wr ww) ∧ Below w5.heap.size w5 ww ∧ (∀ i, i < 16 → ww.cell? ⟨gy, i, none⟩ = wr.cell? ⟨gy, i, none⟩) ∧ wr.heap.size ≤ ww.heap.size)) := fun j hj ww hb =>
          ⟨fun hL => (hx14 (by simpa [updK, Ne.symm hj] using hL)).trans (hb.mono hxS), hxB.trans (hb.mono hxB.size), fun i hi => by rw [hb.cell (p := ⟨gy, i, none⟩) (by show gy < w'.heap.size; omega)]; exact hxY i hi, by have := hb.size; omega⟩
        have RR : Hid (∀ j, j ≠ 14 → ((updK L j 14 = false → Below wr.heap.size wr w') ∧ Below w5.heap.size w5 w' ∧ (∀ i, i < 16 → w'.cell? ⟨gy, i, none⟩ = wr.cell? ⟨gy, i, none⟩) ∧ wr.heap.size ≤ w'.heap.size)) := fun j hj => RX.out j hj w' (Below.refl _ _)
        have RM : Hid (∀ j : Nat, j ≠ 14 → Below w'.heap.size w' w') := fun _ _ => Below.refl _ _
        have H14 : Hid (L 14 = false → Below wr.heap.size wr w') := hx14
        have HXB : Hid (Below w5.heap.size w5 w') := hxB
        have HXY : Hid (∀ i, i < 16 → w'.cell? ⟨gy, i, none⟩ = wr.cell? ⟨gy, i, none⟩) := hxY
        clear hx14 hxB hxY
        obtain rfl | rfl | rfl | rfl | rfl | rfl | rfl | rfl | rfl | rfl | rfl | rfl | rfl | rfl | rfl : i = 0 ∨ i = 1 ∨ i = 2 ∨ i = 3 ∨ i = 4 ∨ i = 5 ∨ i = 6 ∨ i = 7 ∨ i = 8 ∨ i = 9 ∨ i = 10 ∨ i = 11 ∨ i = 12 ∨ i = 13 ∨ i = 14 := by omega
        all_goals (simp at ho; subst ho)
        · clear hdep
          go_simp
          exact hK w' u6 rfl (RR.out 0 (by decide)) (RM.out 0)
        · clear hdep
          go_simp
          exact hK w' (.slice (some ⟨gy, 0, none⟩) 16 cyy) rfl (RR.out 1 (by decide)) (RM.out 1)
        · clear hdep
          go_simp
          exact hK w' (.int .i64 k) rfl (RR.out 2 (by decide)) (RM.out 2)
        · have d1 : t 1 = _ := hdep ⟨1, .data⟩ (by simp) rfl
          have d2 : t 2 = _ := hdep ⟨2, .data⟩ (by simp) rfl
          clear hdep
          go_simp
          simpa [upd, d1, d2] using hK w' (.pointer (some ⟨gy, k, none⟩)) rfl (RR.out 3 (by decide)) (RM.out 3)
        · have d3 : t 3 = _ := hdep ⟨3, .data⟩ (by simp) rfl
          clear hdep
          go_simp
          simpa [upd, d3] using hK w' (.int .i64 d) rfl (RR.out 4 (by decide)) (RM.out 4)
        · have d4 : t 4 = _ := hdep ⟨4, .data⟩ (by simp) rfl
          clear hdep
          go_simp
          simpa [upd, d4, hm1, hm2, hm3, hm4, hm5] using hK w' (.int .i64 (d % 256)) rfl (RR.out 5 (by decide)) (RM.out 5)
        · have d5 : t 5 = _ := hdep ⟨5, .data⟩ (by simp) rfl
          clear hdep
          go_simp
          simpa [upd, d5, hm1, hm2, hm3, hm4, hm5] using hK w' (.int .u8 (d % 256)) rfl (RR.out 6 (by decide)) (RM.out 6)
        · clear hdep
          go_simp
          exact hK w' (.slice (some ⟨gy, 0, none⟩) 16 cyy) rfl (RR.out 7 (by decide)) (RM.out 7)
        · clear hdep
          go_simp
          exact hK w' (.int .i64 k) rfl (RR.out 8 (by decide)) (RM.out 8)
        · have d7 : t 7 = _ := hdep ⟨7, .data⟩ (by simp) rfl
          have d8 : t 8 = _ := hdep ⟨8, .data⟩ (by simp) rfl
          clear hdep
          go_simp
          simpa [upd, d7, d8] using hK w' (.pointer (some ⟨gy, k, none⟩)) rfl (RR.out 9 (by decide)) (RM.out 9)
        · have d9 : t 9 = _ := hdep ⟨9, .data⟩ (by simp) rfl
          clear hdep
          go_simp
          simpa [upd, d9] using hK w' (.int .i64 d) rfl (RR.out 10 (by decide)) (RM.out 10)
        · have d10 : t 10 = _ := hdep ⟨10, .data⟩ (by simp) rfl
          clear hdep
          go_simp
          simpa [upd, d10, hm1, hm2, hm3, hm4, hm5] using hK w' (.int .i64 (d / 256)) rfl (RR.out 11 (by decide)) (RM.out 11)
        · have d11 : t 11 = _ := hdep ⟨11, .data⟩ (by simp) rfl
          clear hdep
          go_simp
          simpa [upd, d11, hm1, hm2, hm3, hm4, hm5] using hK w' (.int .u8 (d / 256)) rfl (RR.out 12 (by decide)) (RM.out 12)
        · have d6 : t 6 = _ := hdep ⟨6, .data⟩ (by simp) rfl
          have d12 : t 12 = _ := hdep ⟨12, .data⟩ (by simp) rfl
          clear hdep
          have hK' := hK (w'.alloc (.cells #[.int .u8 (d % 256), .int .u8 (d / 256)] 5)) (.slice (some ⟨w'.heap.size, 0, none⟩) 2 2) (fun _ => ⟨w'.heap.size, rfl, by simp, cell_of_row _ _ _ _ _ _ (heap_alloc_new _ _), cell_of_row _ _ _ _ _ _ (heap_alloc_new _ _)⟩) (RX.out 13 (by decide) _ (below_new3 _ _)) (fun _ => below_new3 _ _)
          clear hK
          go_simp
          simpa [upd, d6, d12] using hK'
        · have d0 : t 0 = _ := hdep ⟨0, .data⟩ (by simp) rfl
          have d13 := hdep ⟨13, .data⟩ (by simp) rfl
          obtain ⟨g', e13, hg', cc0, cc1⟩ := d13 hLi
          clear hdep d13
          have hO := HO.out.grow2 (H14.out hLi)
          refine wp_app (a := _) _ _ _ rfl w5.heap.size _ bs (by first | exact d0 | (simp [d0]; done)) hO ⟨g', 0, none⟩ 2 2 [d % 256, d / 256] (by first | exact e13 | (simp [e13]; done)) rfl ?_ ?_ ?_ ?_
          · intro j hj
            rcases (show j = 0 ∨ j = 1 by omega) with rfl | rfl
            · rw [Addr.add_lit]; exact cc0
            · rw [Addr.add_lit]; exact cc1
          · have := HBL.out; omega
          · exact HXB.out.size
          · intro v' w9 hown' hbel' hgr
            have hs9 := hgr.size
            have hyY : ∀ i, i < 16 → w9.cell? ⟨gy, i, none⟩ = wr.cell? ⟨gy, i, none⟩ := fun i hi => by
              rw [World.cell?_of_block (a := ⟨gy, i, none⟩) (w := w') (hgr.block gy (by omega) HGN.out)]; exact HXY.out i hi
            exact hK w9 v' hown' ⟨fun h => by simp [updK] at h, HXB.out.trans hbel', hyY, by omega⟩ (fun h => absurd rfl h)
      case hend =>
        intro o L t w' ho hx hg K hK
        simp at ho; subst ho
        obtain ⟨hx14, hxB, hxY, hxS⟩ := hx
        have O14 : Own w' w5.heap.size (t 14) (bs ++ [d % 256, d / 256]) := hg 14 (by decide)
        have HXB : Hid (Below w5.heap.size w5 w') := hxB
        have HXY : Hid (∀ i, i < 16 → w'.cell? ⟨gy, i, none⟩ = wr.cell? ⟨gy, i, none⟩) := hxY
        have HSZ : Hid (wr.heap.size ≤ w'.heap.size) := hxS
        have HO14 : Hid (Own w' w5.heap.size (t 14) (bs ++ [d % 256, d / 256])) := O14
        clear hg O14 hx14 hxB hxY hxS
        go_simp
        refine hK _ _ ?_
        have hHB : Below w5.heap.size w5 w' := HXB.out
        have HP : Hid (BYS w w5 zs (k + 1) (t 14) w') := ⟨⟨_, HO14.out, HN.out.2.1, HN.out.2.2, HN.out.1⟩, hHB⟩
        clear hHB HXB HXY HO14 HSZ HN HO HBE HGN hK c0
        generalize t 14 = v14 at *
        go_wp2
        go_roundw
        case rel => exact ⟨k + 1, by omega, by go_num, HP.out⟩
        case measure => simp [intOf]; omega
    · have hk16 : k = 16 := by omega
      rw [hk16, List.take_of_length_le (by have := HZL.out; omega), HZV.out] at hbv
      obtain ⟨g, c, hu, hg0, hg1, hc0⟩ := hO.base
      have hl32 : bs.length = 32 := by omega
      rw [hl32] at hu hc0
      subst hu
      have hlt : ¬ ((k : Int) < 16) := by omega
      have hV : Y * inv0 Z % fp < top255 := by
        have := Int.emod_lt_of_pos (Y * inv0 Z) (show (0 : Int) < fp by decide)
        have e : fp < top255 := by decide
        omega
      obtain ⟨hp, hx0, hx1⟩ := HXP.out
      obtain ⟨s1, s2, s3, s4⟩ := code_set bs hl32 hbb _ (x % 2) hbv hV (by omega)
      have hset := OwnK.set (k := .u8) (t := 5) hl32 hO 31 (bs.getD 31 0 + 128 * (x % 2)) (by omega)
      obtain ⟨cB, fB, hO'⟩ := hset
      have cX : wr.cell? ⟨gx, 0, none⟩ = some (.int .i64 x) := by rw [hbel.cell (p := ⟨gx, 0, none⟩) hgx5]; exact HXC.out
      have BB : Below w.heap.size w (wr.setCell ⟨g, 31, none⟩ (.int .u8 (bs.getD 31 0 + 128 * (x % 2)))) := HB5.out.trans ((hbel.trans ((Below.refl _ _).setCell (by show w5.heap.size ≤ g; omega) _)).mono HB5.out.size)
      have HP9 : ∀ q, Hid (CodeP w (cdV X Y Z) (.returned (.slice (some ⟨g, 0, none⟩) 32 c)) ((wr.drewN q).setCell ⟨g, 31, none⟩ (.int .u8 (bs.getD 31 0 + 128 * (x % 2))))) := fun q =>
        ⟨_, bs.set 31 (bs.getD 31 0 + 128 * (x % 2)), rfl, (show Own _ w5.heap.size _ _ from (show Own (wr.setCell ⟨g, 31, none⟩ (.int .u8 (bs.getD 31 0 + 128 * (x % 2)))) w5.heap.size (.slice (some ⟨g, 0, none⟩) 32 c) _ from hO')).lower3 HB5.out.size, s4, by rw [List.length_set]; exact hl32, by rw [s3, hp]; rfl,
          ⟨BB.os, BB.tape, BB.output, BB.size, BB.block⟩⟩
      have hm1 : x.tmod 2 = x % 2 := Int.tmod_eq_emod_of_nonneg hx0
      have hm2 : IntKind.i64.wrap (128 * (x % 2)) = 128 * (x % 2) := by rw [IntKind.wrap_i64]; omega
      have hm3 : IntKind.u8.wrap (128 * (x % 2)) = 128 * (x % 2) := by rw [IntKind.wrap_u8]; omega
      have hm4 : IntKind.u8.wrap (bs.getD 31 0 + 128 * (x % 2)) = bs.getD 31 0 + 128 * (x % 2) := by rw [IntKind.wrap_u8]; omega
      clear BB hbv hO hbb hbl hbel hk16 HZV HZD HYC HXC HXP hO' s3 s4 hV hp hl32
      generalize bs.getD 31 0 = b at *
      go_wp2_with fail
      refine wp_region_any (by kernel_rfl) ?_
      refine wpAny_slotsL 12 (fun w w' => True) (frame := (fun (c0 c1 c2 c3 c4 c5 c6 c7 c8 c9 c10 c11 c12 c13 c14 c15 c16 c17 c18 c19 c20 c21 c22 c23 c24 c25 c26 c27 c28 c29 c30 c31 c32 c33 c34 c35 c36 c37 c38 c39 c40 c53 : Value) => fun (t : Nat → Value) => ({ tmps := List.toArray (c0 :: c1 :: c2 :: c3 :: c4 :: c5 :: c6 :: c7 :: c8 :: c9 :: c10 :: c11 :: c12 :: c13 :: c14 :: c15 :: c16 :: c17 :: c18 :: c19 :: c20 :: c21 :: c22 :: c23 :: c24 :: c25 :: c26 :: c27 :: c28 :: c29 :: c30 :: c31 :: c32 :: c33 :: c34 :: c35 :: c36 :: c37 :: c38 :: c39 :: c40 :: t 0 :: t 1 :: t 2 :: t 3 :: t 4 :: t 5 :: t 6 :: t 7 :: t 8 :: t 9 :: t 10 :: t 11 :: c53 :: []), defers := [] } : Act)) _ _ _ _ _ _ _ _ _ _ _ _ _ _ _ _ _ _ _ _ _ _ _ _ _ _ _ _ _ _ _ _ _ _ _ _ _ _ _ _ _ _)
        (Ext := fun w' => ∃ q, w' = wr.drewN q) (Good := fun i _ v => if i = 0 then v = .slice (some ⟨g, 0, none⟩) 32 c else if i = 1 then v = .slice (some ⟨g, 0, none⟩) 32 c else if i = 2 then v = .pointer (some ⟨g, 31, none⟩) else if i = 3 then v = .int .u8 b else if i = 4 then v = .slice (some ⟨gx, 0, none⟩) 16 cx else if i = 5 then v = .pointer (some ⟨gx, 0, none⟩) else if i = 6 then v = .int .i64 x else if i = 7 then v = .int .i64 (x % 2) else if i = 8 then v = .int .i64 (128 * (x % 2)) else if i = 9 then v = .int .u8 (128 * (x % 2)) else if i = 10 then v = .int .u8 (b + 128 * (x % 2)) else if i = 11 then v = .pointer (some ⟨g, 31, none⟩) else True) (by rfl) (by kernel_rfl) (fun i w w' v _ h => h) (by kernel_rfl) (by kernel_rfl) ?hop ?hend _ _ ((fun (x0 x1 x2 x3 x4 x5 x6 x7 x8 x9 x10 x11 : Value) => fun (i : Nat) => if i = 0 then x0 else if i = 1 then x1 else if i = 2 then x2 else if i = 3 then x3 else if i = 4 then x4 else if i = 5 then x5 else if i = 6 then x6 else if i = 7 then x7 else if i = 8 then x8 else if i = 9 then x9 else if i = 10 then x10 else if i = 11 then x11 else undef) _ _ _ _ _ _ _ _ _ _ _ _) _ (by simp) (by simp) ?ext ?start (by simp)
      case start => intro i hi h; exact absurd h (by rw [Array.getD_eq_getD_getElem?, Array.getElem?_replicate]; split <;> simp)
      case ext => exact ⟨1, rfl⟩
      case hop =>
        intro i o t w' hil ho hx hdep K hK
        obtain ⟨q, rfl⟩ := hx
        obtain rfl | rfl | rfl | rfl | rfl | rfl | rfl | rfl | rfl | rfl | rfl | rfl : i = 0 ∨ i = 1 ∨ i = 2 ∨ i = 3 ∨ i = 4 ∨ i = 5 ∨ i = 6 ∨ i = 7 ∨ i = 8 ∨ i = 9 ∨ i = 10 ∨ i = 11 := by omega
        all_goals (simp at ho; subst ho)
        · clear hdep
          have hK' := hK (wr.drewN q) (.slice (some ⟨g, 0, none⟩) 32 c) (by simp) ⟨q, rfl⟩ trivial
          clear hK
          go_simp
          simpa [upd, hm1, hm2, hm3, hm4] using hK'
        · clear hdep
          have hK' := hK (wr.drewN q) (.slice (some ⟨g, 0, none⟩) 32 c) (by simp) ⟨q, rfl⟩ trivial
          clear hK
          go_simp
          simpa [upd, hm1, hm2, hm3, hm4] using hK'
        · have d1 : t 1 = .slice (some ⟨g, 0, none⟩) 32 c := by simpa using hdep ⟨1, .data⟩ (by simp) rfl
          clear hdep
          have hK' := hK (wr.drewN q) (.pointer (some ⟨g, 31, none⟩)) (by simp) ⟨q, rfl⟩ trivial
          clear hK
          go_simp
          simpa [upd, d1, hm1, hm2, hm3, hm4] using hK'
        · have d2 : t 2 = .pointer (some ⟨g, 31, none⟩) := by simpa using hdep ⟨2, .data⟩ (by simp) rfl
          clear hdep
          have hK' := hK (wr.drewN q) (.int .u8 b) (by simp) ⟨q, rfl⟩ trivial
          clear hK
          go_simp
          simpa [upd, d2, hm1, hm2, hm3, hm4] using hK'
        · clear hdep
          have hK' := hK (wr.drewN q) (.slice (some ⟨gx, 0, none⟩) 16 cx) (by simp) ⟨q, rfl⟩ trivial
          clear hK
          go_simp
          simpa [upd, hm1, hm2, hm3, hm4] using hK'
        · have d4 : t 4 = .slice (some ⟨gx, 0, none⟩) 16 cx := by simpa using hdep ⟨4, .data⟩ (by simp) rfl
          clear hdep
          have hK' := hK (wr.drewN q) (.pointer (some ⟨gx, 0, none⟩)) (by simp) ⟨q, rfl⟩ trivial
          clear hK
          go_simp
          simpa [upd, d4, hm1, hm2, hm3, hm4] using hK'
        · have d5 : t 5 = .pointer (some ⟨gx, 0, none⟩) := by simpa using hdep ⟨5, .data⟩ (by simp) rfl
          clear hdep
          have hK' := hK (wr.drewN q) (.int .i64 x) (by simp) ⟨q, rfl⟩ trivial
          clear hK
          go_simp
          simpa [upd, d5, hm1, hm2, hm3, hm4] using hK'
        · have d6 : t 6 = .int .i64 x := by simpa using hdep ⟨6, .data⟩ (by simp) rfl
          clear hdep
          have hK' := hK (wr.drewN q) (.int .i64 (x % 2)) (by simp) ⟨q, rfl⟩ trivial
          clear hK
          go_simp
          simpa [upd, d6, hm1, hm2, hm3, hm4] using hK'
        · have d7 : t 7 = .int .i64 (x % 2) := by simpa using hdep ⟨7, .data⟩ (by simp) rfl
          clear hdep
          have hK' := hK (wr.drewN q) (.int .i64 (128 * (x % 2))) (by simp) ⟨q, rfl⟩ trivial
          clear hK
          go_simp
          simpa [upd, d7, hm1, hm2, hm3, hm4] using hK'
        · have d8 : t 8 = .int .i64 (128 * (x % 2)) := by simpa using hdep ⟨8, .data⟩ (by simp) rfl
          clear hdep
          have hK' := hK (wr.drewN q) (.int .u8 (128 * (x % 2))) (by simp) ⟨q, rfl⟩ trivial
          clear hK
          go_simp
          simpa [upd, d8, hm1, hm2, hm3, hm4] using hK'
        · have d3 : t 3 = .int .u8 b := by simpa using hdep ⟨3, .data⟩ (by simp) rfl
          have d9 : t 9 = .int .u8 (128 * (x % 2)) := by simpa using hdep ⟨9, .data⟩ (by simp) rfl
          clear hdep
          have hK' := hK (wr.drewN q) (.int .u8 (b + 128 * (x % 2))) (by simp) ⟨q, rfl⟩ trivial
          clear hK
          go_simp
          simpa [upd, d3, d9, hm1, hm2, hm3, hm4] using hK'
        · have d0 : t 0 = .slice (some ⟨g, 0, none⟩) 32 c := by simpa using hdep ⟨0, .data⟩ (by simp) rfl
          clear hdep
          have hK' := hK (wr.drewN q) (.pointer (some ⟨g, 31, none⟩)) (by simp) ⟨q, rfl⟩ trivial
          clear hK
          go_simp
          simpa [upd, d0, hm1, hm2, hm3, hm4] using hK'
      case hend =>
        intro o t w' ho hx hg K hK
        obtain ⟨q, rfl⟩ := hx
        simp at ho; subst ho
        have d0 : t 0 = .slice (some ⟨g, 0, none⟩) 32 c := by simpa using hg 0 (by decide)
        have d1 : t 1 = .slice (some ⟨g, 0, none⟩) 32 c := by simpa using hg 1 (by decide)
        have d2 : t 2 = .pointer (some ⟨g, 31, none⟩) := by simpa using hg 2 (by decide)
        have d3 : t 3 = .int .u8 b := by simpa using hg 3 (by decide)
        have d4 : t 4 = .slice (some ⟨gx, 0, none⟩) 16 cx := by simpa using hg 4 (by decide)
        have d5 : t 5 = .pointer (some ⟨gx, 0, none⟩) := by simpa using hg 5 (by decide)
        have d6 : t 6 = .int .i64 x := by simpa using hg 6 (by decide)
        have d7 : t 7 = .int .i64 (x % 2) := by simpa using hg 7 (by decide)
        have d8 : t 8 = .int .i64 (128 * (x % 2)) := by simpa using hg 8 (by decide)
        have d9 : t 9 = .int .u8 (128 * (x % 2)) := by simpa using hg 9 (by decide)
        have d10 : t 10 = .int .u8 (b + 128 * (x % 2)) := by simpa using hg 10 (by decide)
        have d11 : t 11 = .pointer (some ⟨g, 31, none⟩) := by simpa using hg 11 (by decide)
        clear hg
        have h9 := HP9 q
        clear HP9
        go_simp
        refine hK _ _ ?_
        clear hK
        generalize (wr.drewN q).setCell ⟨g, 31, none⟩ (.int .u8 (b + 128 * (x % 2))) = w9 at *
        go_wp2
        go_ret
        exact h9.out
end Go.Proofs.Ythghkfncpdnpoac
