/-
  Own work: the program's product of elements.
-/
import Derived.Test.YthghkfncpdnpoacIMul
import Derived.Test.YthghkfncpdnpoacTl
import Derived.Test.YthghkfncpdnpoacReg6
namespace Go.Proofs.Ythghkfncpdnpoac
open Go.ChangeShapes Go.WideShapes Go.ChangeAt Go.RowKit
set_option linter.unusedVariables false

def prodF (xs ys : List Int) (i : Nat) : Int := ((tl xs ys).getD i 0 + gcy B51 (tl xs ys) i) % B51
theorem prod_all (xs ys : List Int) : mixE (prodF xs ys) [0, 0, 0, 0, 0] 5 = sst (tl xs ys) 5 := by
  apply list5 (mixE_len _ _ _) (sst_len _ _)
  intro i hi
  rw [mixE_get _ _ _ _ hi, if_pos hi, sst_get _ _ _ hi]; unfold sdig prodF; rw [if_pos hi]

/-- While a sum is made: the answer's block, the product's block, the sum's block G. -/
structure TmS (w : World) (zs : List Int) (G : Nat) (S : Int) (wr : World) : Prop where
  pl : PlS w zs wr
  sum : wr.heap[G]? = some (.cells #[.int .u64 (S / 18446744073709551616), .int .u64 (S % 18446744073709551616)] 162 (0, 0))
  hG : w.heap.size + 1 < G
theorem TmS.drew {w : World} {zs : List Int} {G : Nat} {S : Int} {wr : World} (h : TmS w zs G S wr) : TmS w zs G S wr.drew :=
  ⟨⟨h.pl.res, h.pl.row, h.pl.below.drew⟩, h.sum, h.hG⟩
theorem TmS.add {w : World} {zs : List Int} {G : Nat} {S S' : Int} {wr w' : World} (h : TmS w zs G S wr) (hs : WdS wr G S' w') : TmS w zs G S' w' :=
  ⟨⟨hs.wr.rowW h.pl.res (by have := h.hG; omega), hs.wr.rowW h.pl.row (by have := h.hG; omega), h.pl.below.trans (hs.wr.below (by have := h.hG; omega))⟩, hs.row, h.hG⟩

set_option maxHeartbeats 2000000 in
set_option maxRecDepth 100000 in
theorem times_any (g1 o1 g2 o2 : Nat) (xs ys : List Int) (w : World) (h1 : EAt w g1 o1 xs) (h2 : EAt w g2 o2 ys) :
    Calls Try.prog 101 #[.pointer (some ⟨g1, o1, none⟩), .pointer (some ⟨g2, o2, none⟩)] w (EP w (ev xs * ev ys % fp)) := by
  obtain ⟨q1, q2, q3⟩ := times_ok h1.2.1 h2.2.1
  obtain ⟨t1, t2, t3, t4⟩ := tl_bd h1.2.1 h2.2.1
  have HQ : Hid (U62' (carryE (tl xs ys)) ∧ EOk (carryE (carryE (tl xs ys))) ∧ ev (carryE (carryE (tl xs ys))) = ev xs * ev ys % fp) := ⟨q1, q2, q3⟩
  have HT1 : Hid (∀ s n, n ≤ 5 → 0 ≤ cs xs ys s n ∧ cs xs ys s n ≤ 40564819207303340847894502572032) := t1
  have HT3 : Hid (∀ i, 0 ≤ gcy B51 (tl xs ys) i ∧ gcy B51 (tl xs ys) i ≤ 1152921504606846976) := t3
  have HT4 : Hid (gcy B51 (tl xs ys) 5 ≤ 36028797018963968) := t4
  have HS : Hid (PlS w (mixE (prodF xs ys) [0, 0, 0, 0, 0] 0) ((w.alloc (.cells #[.int .u64 0, .int .u64 0, .int .u64 0, .int .u64 0, .int .u64 0] 82)).alloc (.cells #[.int .u64 0, .int .u64 0, .int .u64 0, .int .u64 0, .int .u64 0] 82))) := by
    rw [mixE_zero _ _ rfl]
    exact ⟨heap_alloc2_old _ _ _, heap_alloc2_new _ _ _, ((Below.refl _ _).alloc (Nat.le_refl _) _).alloc (by simp) _⟩
  have HL : Hid (w.heap.size + 1 < ((w.alloc (.cells #[.int .u64 0, .int .u64 0, .int .u64 0, .int .u64 0, .int .u64 0] 82)).alloc (.cells #[.int .u64 0, .int .u64 0, .int .u64 0, .int .u64 0, .int .u64 0] 82)).heap.size) := by show _ < _; simp
  have H1 : Hid (EAt w g1 o1 xs) := h1
  have H2 : Hid (EAt w g2 o2 ys) := h2
  have hy5 := h2.2.1.1
  have HY5 : Hid (ys.length = 5) := hy5
  clear q1 q2 q3 t1 t2 t3 t4 h1 h2 hy5
  go_enter Try.func101, Try.ntmps101
  go_wp2
  go_loopw [6, 11] (fun v i wr => ∃ k : Nat, k ≤ 5 ∧ i = .int .i64 k ∧ v = .int .u64 (gcy B51 (tl xs ys) k) ∧ PlS w (mixE (prodF xs ys) [0, 0, 0, 0, 0] k) wr ∧ w.heap.size + 1 < wr.heap.size) (fun _ i _ => 5 - (intOf i).toNat)
  case atStart => exact ⟨0, by decide, rfl, rfl, HS.out, HL.out⟩
  case round =>
    clear HS HL
    obtain ⟨k, hk, rfl, rfl, hst, hlz⟩ := hrel
    by_cases hlt : k < 5
    · have hlt' : (k : Int) < 5 := by omega
      obtain ⟨hc0, hc1⟩ := HT3.out k
      have hst2 : TmS w (mixE (prodF xs ys) [0, 0, 0, 0, 0] k) wr.heap.size (gcy B51 (tl xs ys) k) (wr.alloc (.cells #[.int .u64 0, .int .u64 (gcy B51 (tl xs ys) k)] 162)) := by
        have b0 : Below wr.heap.size wr (wr.alloc (.cells #[.int .u64 0, .int .u64 (gcy B51 (tl xs ys) k)] 162)) := below_new2 _ _
        refine ⟨⟨hst.res.below b0 (by omega), hst.row.below b0 (by omega), hst.below.trans (b0.mono hst.below.size)⟩, ?_, hlz⟩
        rw [heap_alloc_new]
        have e1 : gcy B51 (tl xs ys) k / 18446744073709551616 = 0 := by omega
        have e2 : gcy B51 (tl xs ys) k % 18446744073709551616 = gcy B51 (tl xs ys) k := by omega
        rw [e1, e2]
      have HST : Hid (TmS w (mixE (prodF xs ys) [0, 0, 0, 0, 0] k) wr.heap.size (gcy B51 (tl xs ys) k + cs xs ys k 0) (wr.alloc (.cells #[.int .u64 0, .int .u64 (gcy B51 (tl xs ys) k)] 162))) := by
        rw [show cs xs ys k 0 = 0 from rfl, Int.add_zero]; exact hst2
      clear hst hst2
      generalize hgk : gcy B51 (tl xs ys) k = ov at *
      have HGK : Hid (gcy B51 (tl xs ys) k = ov) := hgk
      clear hgk
      go_wp2
      generalize hG : wr.heap.size = G at *
      clear hG
      generalize wr.alloc (.cells #[.int .u64 0, .int .u64 ov] 162) = w3 at *
      go_loopw [18] (fun i wq => ∃ n : Nat, n ≤ k + 1 ∧ i = .int .i64 n ∧ TmS w (mixE (prodF xs ys) [0, 0, 0, 0, 0] k) G (ov + cs xs ys k n) wq) (fun i _ => k + 1 - (intOf i).toNat)
      case atStart => exact ⟨0, Nat.zero_le _, rfl, HST.out⟩
      case round =>
        clear HST
        obtain ⟨n, hn, rfl, hts⟩ := hrel
        by_cases hnk : n < k + 1
        · have hnk' : (n : Int) < (k : Int) + 1 := by omega
          have HCX : Hid (∀ w', Below w.heap.size w w' → w'.cell? ⟨g1, o1 + n, none⟩ = some (.int .u64 (xs.getD n 0))) := fun w' hb => (H1.out.below hb).2.2 n (by omega)
          have HCY : Hid (∀ w', Below w.heap.size w w' → w'.cell? ⟨g2, o2 + (k - n), none⟩ = some (.int .u64 (ys.getD (k - n) 0))) := fun w' hb => (H2.out.below hb).2.2 (k - n) (by omega)
          have bx := H1.out.2.1.bd
          have by_ := H2.out.2.1.bd
          have hx0 := bx.2 n
          have hx1 := (bx.1 n).2
          have hy0 := by_.2 (k - n)
          have hy1 := (by_.1 (k - n)).2
          have hcs : cs xs ys k (n + 1) = cs xs ys k n + xs.getD n 0 * ys.getD (k - n) 0 := rfl
          have hsn := HT1.out k n (by omega)
          have hsn1 := HT1.out k (n + 1) (by omega)
          rw [hcs] at hsn1
          have HTS : Hid (TmS w (mixE (prodF xs ys) [0, 0, 0, 0, 0] k) G (ov + cs xs ys k n) wr.drew) := hts.drew
          have HCS : Hid (cs xs ys k (n + 1) = cs xs ys k n + xs.getD n 0 * ys.getD (k - n) 0) := hcs
          have hsub : ((k : Int) - (n : Int)) = ((k - n : Nat) : Int) := by omega
          have hwsub : IntKind.i64.wrap ((k : Int) - (n : Int)) = ((k - n : Nat) : Int) := by rw [IntKind.wrap_i64]; omega
          have hwsub2 : IntKind.i64.wrap ((k - n : Nat) : Int) = ((k - n : Nat) : Int) := by rw [IntKind.wrap_i64]; omega
          have hn5 : (n : Int) < 5 := by omega
          have hkn5 : ((k - n : Nat) : Int) < 5 := by omega
          clear hts hcs bx by_
          generalize xs.getD n 0 = x at *
          generalize ys.getD (k - n) 0 = y at *
          generalize cs xs ys k n = C at *
          obtain ⟨s0, s1⟩ := hsn
          obtain ⟨s2, s3⟩ := hsn1
          obtain ⟨C', hC'⟩ : ∃ C', C' = C + x * y := ⟨_, rfl⟩
          have HEQ : Hid (ov + C + x * y = ov + C') := by show _ = _; omega
          have HCE : Hid (cs xs ys k (n + 1) = C') := by show _ = _; rw [HCS.out, hC']
          have hSz : 0 ≤ ov + C := by omega
          have hTT : (ov + C) + x * y < 340282366920938463463374607431768211456 := by omega
          clear hC' s2 s3
          go_wp2_with fail
          refine wp_region_any (by kernel_rfl) ?_
          refine wpAny_slotsE (fun _ _ _ => True) (frame := (fun (c0 c1 c2 c3 c4 c5 c6 c7 c8 c9 c10 c11 c12 c13 c14 c15 c16 c17 c18 c19 c20 c34 c35 c36 c37 c38 c39 c40 c41 c42 c43 c44 c45 c46 c47 c48 c49 c50 c51 c52 c53 c54 c55 c56 c57 c58 c59 c60 c61 c62 c63 c64 c65 c66 c67 c68 c69 c70 c71 c72 c73 c74 c75 c76 : Value) => fun (t : Nat → Value) => ({ tmps := List.toArray (c0 :: c1 :: c2 :: c3 :: c4 :: c5 :: c6 :: c7 :: c8 :: c9 :: c10 :: c11 :: c12 :: c13 :: c14 :: c15 :: c16 :: c17 :: c18 :: c19 :: c20 :: t 0 :: t 1 :: t 2 :: t 3 :: t 4 :: t 5 :: t 6 :: t 7 :: t 8 :: t 9 :: t 10 :: t 11 :: t 12 :: c34 :: c35 :: c36 :: c37 :: c38 :: c39 :: c40 :: c41 :: c42 :: c43 :: c44 :: c45 :: c46 :: c47 :: c48 :: c49 :: c50 :: c51 :: c52 :: c53 :: c54 :: c55 :: c56 :: c57 :: c58 :: c59 :: c60 :: c61 :: c62 :: c63 :: c64 :: c65 :: c66 :: c67 :: c68 :: c69 :: c70 :: c71 :: c72 :: c73 :: c74 :: c75 :: c76 :: []), defers := [] } : Act)) _ _ _ _ _ _ _ _ _ _ _ _ _ _ _ _ _ _ _ _ _ _ _ _ _ _ _ _ _ _ _ _ _ _ _ _ _ _ _ _ _ _ _ _ _ _ _ _ _ _ _ _ _ _ _ _ _ _ _ _ _ _ _ _)
            (Ext := fun L w' => TmS w (mixE (prodF xs ys) [0, 0, 0, 0, 0] k) G (if L 12 = true then (ov + C') else (ov + C)) w') (Good := fun i L _ v => if i = 0 then v = (.pointer (some ⟨g1, o1, none⟩)) else if i = 1 then v = (.int .i64 (n : Int)) else if i = 2 then v = (.pointer (some ⟨g1, o1, none⟩)) else if i = 3 then v = (.pointer (some ⟨g1, o1 + n, none⟩)) else if i = 4 then v = (.int .u64 x) else if i = 5 then v = (.pointer (some ⟨g2, o2, none⟩)) else if i = 6 then v = (.int .i64 (k : Int)) else if i = 7 then v = (.int .i64 (n : Int)) else if i = 8 then v = (.int .i64 ((k - n : Nat) : Int)) else if i = 9 then v = (.pointer (some ⟨g2, o2, none⟩)) else if i = 10 then v = (.pointer (some ⟨g2, o2 + (k - n), none⟩)) else if i = 11 then v = (.int .u64 y) else (v = .tuple #[] ∧ L 12 = true)) ?hstab (by kernel_rfl) (by kernel_rfl) ?hop ?hdone _ _ ((fun (x0 x1 x2 x3 x4 x5 x6 x7 x8 x9 x10 x11 x12 : Value) => fun (i : Nat) => if i = 0 then x0 else if i = 1 then x1 else if i = 2 then x2 else if i = 3 then x3 else if i = 4 then x4 else if i = 5 then x5 else if i = 6 then x6 else if i = 7 then x7 else if i = 8 then x8 else if i = 9 then x9 else if i = 10 then x10 else if i = 11 then x11 else if i = 12 then x12 else undef) _ _ _ _ _ _ _ _ _ _ _ _ _) _ (by simp) ?ext ?start (by simp)
          case start => intro i hi h; exact absurd h (by rw [Array.getD_eq_getD_getElem?, Array.getElem?_replicate]; split <;> simp)
          case hstab =>
            intro j L w w' i v _ hij hL h
            by_cases hj : j < 12
            · obtain rfl | rfl | rfl | rfl | rfl | rfl | rfl | rfl | rfl | rfl | rfl | rfl : j = 0 ∨ j = 1 ∨ j = 2 ∨ j = 3 ∨ j = 4 ∨ j = 5 ∨ j = 6 ∨ j = 7 ∨ j = 8 ∨ j = 9 ∨ j = 10 ∨ j = 11 := by omega
              all_goals exact h
            · have hj' : ¬ j < 12 := hj
              have e : (updK L i 12) = true ∨ L 12 = false := by unfold updK; by_cases h9 : 12 = i <;> simp [h9]
              revert h
              simp only [if_neg (show ¬ j = 0 by omega), if_neg (show ¬ j = 1 by omega), if_neg (show ¬ j = 2 by omega), if_neg (show ¬ j = 3 by omega), if_neg (show ¬ j = 4 by omega), if_neg (show ¬ j = 5 by omega), if_neg (show ¬ j = 6 by omega), if_neg (show ¬ j = 7 by omega), if_neg (show ¬ j = 8 by omega), if_neg (show ¬ j = 9 by omega), if_neg (show ¬ j = 10 by omega), if_neg (show ¬ j = 11 by omega)]
              rintro ⟨h1, h2⟩
              exact ⟨h1, by rcases e with e | e; exact e; rw [h2] at e; cases e⟩
          case ext => exact HTS.out
          case hop =>
            intro i o L t w' ho hLi hx hdep K hK
            have hi : i < 13 := (Array.getElem?_eq_some_iff.1 ho).1
            have cA : w'.cell? ⟨g1, o1 + n, none⟩ = some (.int .u64 x) := HCX.out _ hx.pl.below
            have cB : w'.cell? ⟨g2, o2 + (k - n), none⟩ = some (.int .u64 y) := HCY.out _ hx.pl.below
            have REF : Hid (∀ j, j ≠ 12 → TmS w (mixE (prodF xs ys) [0, 0, 0, 0, 0] k) G (if updK L j 12 = true then (ov + C') else (ov + C)) w') := fun j hj => by
              have : updK L j 12 = L 12 := by unfold updK; rw [if_neg (Ne.symm hj)]
              rw [this]; exact hx
            have HX : Hid (TmS w (mixE (prodF xs ys) [0, 0, 0, 0, 0] k) G (if L 12 = true then (ov + C') else (ov + C)) w') := hx
            clear hx
            obtain rfl | rfl | rfl | rfl | rfl | rfl | rfl | rfl | rfl | rfl | rfl | rfl | rfl : i = 0 ∨ i = 1 ∨ i = 2 ∨ i = 3 ∨ i = 4 ∨ i = 5 ∨ i = 6 ∨ i = 7 ∨ i = 8 ∨ i = 9 ∨ i = 10 ∨ i = 11 ∨ i = 12 := by omega
            all_goals (simp at ho; subst ho)
            · clear hdep
              have hK' := hK w' (.pointer (some ⟨g1, o1, none⟩)) (by simp) (REF.out 0 (by decide)) trivial
              clear hK
              go_simp
              simpa [upd, hsub, hwsub, hwsub2] using hK'
            · clear hdep
              have hK' := hK w' (.int .i64 (n : Int)) (by simp) (REF.out 1 (by decide)) trivial
              clear hK
              go_simp
              simpa [upd, hsub, hwsub, hwsub2] using hK'
            · have d0 : t 0 = (.pointer (some ⟨g1, o1, none⟩)) := by simpa using hdep ⟨0, .data⟩ (by simp) rfl
              clear hdep
              have hK' := hK w' (.pointer (some ⟨g1, o1, none⟩)) (by simp) (REF.out 2 (by decide)) trivial
              clear hK
              go_simp
              simpa [upd, d0, hsub, hwsub, hwsub2] using hK'
            · have d2 : t 2 = (.pointer (some ⟨g1, o1, none⟩)) := by simpa using hdep ⟨2, .data⟩ (by simp) rfl
              have d1 : t 1 = (.int .i64 (n : Int)) := by simpa using hdep ⟨1, .data⟩ (by simp) rfl
              clear hdep
              have hK' := hK w' (.pointer (some ⟨g1, o1 + n, none⟩)) (by simp) (REF.out 3 (by decide)) trivial
              clear hK
              go_simp
              simpa [upd, d2, d1, hsub, hwsub, hwsub2] using hK'
            · have d3 : t 3 = (.pointer (some ⟨g1, o1 + n, none⟩)) := by simpa using hdep ⟨3, .data⟩ (by simp) rfl
              clear hdep
              have hK' := hK w' (.int .u64 x) (by simp) (REF.out 4 (by decide)) trivial
              clear hK
              go_simp
              simpa [upd, d3, hsub, hwsub, hwsub2] using hK'
            · clear hdep
              have hK' := hK w' (.pointer (some ⟨g2, o2, none⟩)) (by simp) (REF.out 5 (by decide)) trivial
              clear hK
              go_simp
              simpa [upd, hsub, hwsub, hwsub2] using hK'
            · clear hdep
              have hK' := hK w' (.int .i64 (k : Int)) (by simp) (REF.out 6 (by decide)) trivial
              clear hK
              go_simp
              simpa [upd, hsub, hwsub, hwsub2] using hK'
            · clear hdep
              have hK' := hK w' (.int .i64 (n : Int)) (by simp) (REF.out 7 (by decide)) trivial
              clear hK
              go_simp
              simpa [upd, hsub, hwsub, hwsub2] using hK'
            · have d6 : t 6 = (.int .i64 (k : Int)) := by simpa using hdep ⟨6, .data⟩ (by simp) rfl
              have d7 : t 7 = (.int .i64 (n : Int)) := by simpa using hdep ⟨7, .data⟩ (by simp) rfl
              clear hdep
              have hK' := hK w' (.int .i64 ((k - n : Nat) : Int)) (by simp) (REF.out 8 (by decide)) trivial
              clear hK
              go_simp
              simpa [upd, d6, d7, hsub, hwsub, hwsub2] using hK'
            · have d5 : t 5 = (.pointer (some ⟨g2, o2, none⟩)) := by simpa using hdep ⟨5, .data⟩ (by simp) rfl
              clear hdep
              have hK' := hK w' (.pointer (some ⟨g2, o2, none⟩)) (by simp) (REF.out 9 (by decide)) trivial
              clear hK
              go_simp
              simpa [upd, d5, hsub, hwsub, hwsub2] using hK'
            · have d9 : t 9 = (.pointer (some ⟨g2, o2, none⟩)) := by simpa using hdep ⟨9, .data⟩ (by simp) rfl
              have d8 : t 8 = (.int .i64 ((k - n : Nat) : Int)) := by simpa using hdep ⟨8, .data⟩ (by simp) rfl
              clear hdep
              have hK' := hK w' (.pointer (some ⟨g2, o2 + (k - n), none⟩)) (by simp) (REF.out 10 (by decide)) trivial
              clear hK
              go_simp
              simpa [upd, d9, d8, hsub, hwsub, hwsub2] using hK'
            · have d10 : t 10 = (.pointer (some ⟨g2, o2 + (k - n), none⟩)) := by simpa using hdep ⟨10, .data⟩ (by simp) rfl
              clear hdep
              have hK' := hK w' (.int .u64 y) (by simp) (REF.out 11 (by decide)) trivial
              clear hK
              go_simp
              simpa [upd, d10, hsub, hwsub, hwsub2] using hK'
            · have d4 : t 4 = (.int .u64 x) := by simpa using hdep ⟨4, .data⟩ (by simp) rfl
              have d11 : t 11 = (.int .u64 y) := by simpa using hdep ⟨11, .data⟩ (by simp) rfl
              clear hdep
              have hts := HX.out
              rw [if_neg (by rw [hLi]; decide)] at hts
              have A := addP_any G ((ov + C)) x y w' hSz hts.sum hx0 (by omega) (by omega) (by omega) hTT
              have hK' : ∀ ww, WdS w' G ((ov + C) + x * y) ww → K _ ww := fun ww hs => hK ww (.tuple #[]) (by simp [updK]) (by rw [if_pos (by simp [updK])]; have := hts.add hs; rw [HEQ.out] at this; exact this) trivial
              clear hK
              go_simp
              refine A.mono ?_
              rintro e w9 ⟨rfl, hs⟩
              have hK2 := hK' w9 hs
              clear hK' A hs
              go_simp
              simpa [upd, d4, d11] using hK2
          case hdone =>
            intro L t w' hx hg
            have d0 : t 0 = (.pointer (some ⟨g1, o1, none⟩)) := by simpa using hg 0 (by decide)
            have d1 : t 1 = (.int .i64 (n : Int)) := by simpa using hg 1 (by decide)
            have d2 : t 2 = (.pointer (some ⟨g1, o1, none⟩)) := by simpa using hg 2 (by decide)
            have d3 : t 3 = (.pointer (some ⟨g1, o1 + n, none⟩)) := by simpa using hg 3 (by decide)
            have d4 : t 4 = (.int .u64 x) := by simpa using hg 4 (by decide)
            have d5 : t 5 = (.pointer (some ⟨g2, o2, none⟩)) := by simpa using hg 5 (by decide)
            have d6 : t 6 = (.int .i64 (k : Int)) := by simpa using hg 6 (by decide)
            have d7 : t 7 = (.int .i64 (n : Int)) := by simpa using hg 7 (by decide)
            have d8 : t 8 = (.int .i64 ((k - n : Nat) : Int)) := by simpa using hg 8 (by decide)
            have d9 : t 9 = (.pointer (some ⟨g2, o2, none⟩)) := by simpa using hg 9 (by decide)
            have d10 : t 10 = (.pointer (some ⟨g2, o2 + (k - n), none⟩)) := by simpa using hg 10 (by decide)
            have d11 : t 11 = (.int .u64 y) := by simpa using hg 11 (by decide)
            have d12 : t 12 = .tuple #[] ∧ L 12 = true := by simpa using hg 12 (by decide)
            clear hg
            rw [if_pos d12.2] at hx
            have HP : Hid (TmS w (mixE (prodF xs ys) [0, 0, 0, 0, 0] k) G (ov + cs xs ys k (n + 1)) w') := by rw [HCE.out]; exact hx
            clear hx HTS HCX HCY HEQ HCE
            dsimp only
            rw [d0, d1, d2, d3, d4, d5, d6, d7, d8, d9, d10, d11, d12.1]
            clear d0 d1 d2 d3 d4 d5 d6 d7 d8 d9 d10 d11 d12
            go_wp2
            go_roundw
            case rel => exact ⟨n + 1, by omega, by go_num, HP.out⟩
            case measure => simp [intOf]; omega
        · obtain rfl : n = k + 1 := by omega
          have HLO : Hid (cs xs ys k (k + 1) = loE xs ys k) := rfl
          have hlo := HT1.out k (k + 1) (by omega)
          rw [HLO.out] at hts hlo
          have HTL : Hid ((tl xs ys).getD k 0 = loE xs ys k + 19 * hiE xs ys k) := tl_get _ _ _ hlt
          generalize loE xs ys k = lo at *
          have HTS0 : Hid (TmS w (mixE (prodF xs ys) [0, 0, 0, 0, 0] k) G (ov + lo + 19 * cs xs ys (5 + k) (k + 1)) wr) := by
            show TmS w _ G _ wr
            rw [cs_zero5 xs HY5.out k (k + 1) (Nat.le_refl _)]; simpa using hts
          obtain ⟨l0, l1⟩ := hlo
          obtain ⟨L0, hL0⟩ : ∃ L0, L0 = ov + lo := ⟨_, rfl⟩
          rw [← hL0] at HTS0
          have hLz : 0 ≤ L0 := by omega
          have hLm : L0 ≤ 40564819207304493769399109419008 := by omega
          have HL0 : Hid (L0 = ov + lo) := hL0
          clear hts hL0
          have hk1 : ((k + 1 : Nat) : Int) = (k : Int) + 1 := by omega
          rw [hk1]
          clear hk1
          go_wp2
          go_loopw [10] (fun i wq => ∃ n : Nat, k + 1 ≤ n ∧ n ≤ 5 ∧ i = .int .i64 n ∧ TmS w (mixE (prodF xs ys) [0, 0, 0, 0, 0] k) G (L0 + 19 * cs xs ys (5 + k) n) wq) (fun i _ => 5 - (intOf i).toNat)
          case atStart => exact ⟨k + 1, Nat.le_refl _, by omega, by go_num, HTS0.out⟩
          case round =>
            clear HTS0
            obtain ⟨n, hnl, hnh, rfl, hts⟩ := hrel
            by_cases hn5 : n < 5
            · have hn5' : (n : Int) < 5 := by omega
              have HCX : Hid (∀ w', Below w.heap.size w w' → w'.cell? ⟨g1, o1 + n, none⟩ = some (.int .u64 (xs.getD n 0))) := fun w' hb => (H1.out.below hb).2.2 n (by omega)
              have HCY : Hid (∀ w', Below w.heap.size w w' → w'.cell? ⟨g2, o2 + (k + 5 - n), none⟩ = some (.int .u64 (ys.getD (k + 5 - n) 0))) := fun w' hb => (H2.out.below hb).2.2 (k + 5 - n) (by omega)
              have bx := H1.out.2.1.bd
              have by_ := H2.out.2.1.bd
              have hx0 := bx.2 n
              have hx1 := (bx.1 n).2
              have hy0 := by_.2 (k + 5 - n)
              have hy1 := (by_.1 (k + 5 - n)).2
              have hcs : cs xs ys (5 + k) (n + 1) = cs xs ys (5 + k) n + xs.getD n 0 * ys.getD (k + 5 - n) 0 := by rw [cs, show 5 + k - n = k + 5 - n by omega]
              have hsn := HT1.out (5 + k) n (by omega)
              have hsn1 := HT1.out (5 + k) (n + 1) (by omega)
              rw [hcs] at hsn1
              have HTS : Hid (TmS w (mixE (prodF xs ys) [0, 0, 0, 0, 0] k) G (L0 + 19 * cs xs ys (5 + k) n) wr.drew) := hts.drew
              have HCS : Hid (cs xs ys (5 + k) (n + 1) = cs xs ys (5 + k) n + xs.getD n 0 * ys.getD (k + 5 - n) 0) := hcs
              have hsub : ((k : Int) + 5 - (n : Int)) = ((k + 5 - n : Nat) : Int) := by omega
              have hwsub : IntKind.i64.wrap ((k : Int) + 5 - (n : Int)) = ((k + 5 - n : Nat) : Int) := by rw [IntKind.wrap_i64]; omega
              have hwsub2 : IntKind.i64.wrap ((k + 5 - n : Nat) : Int) = ((k + 5 - n : Nat) : Int) := by rw [IntKind.wrap_i64]; omega
              have hw5 : IntKind.i64.wrap ((k : Int) + 5) = (k : Int) + 5 := by rw [IntKind.wrap_i64]; omega
              have hkn5 : ((k + 5 - n : Nat) : Int) < 5 := by omega
              clear hts hcs bx by_
              generalize xs.getD n 0 = x at *
              generalize ys.getD (k + 5 - n) 0 = y at *
              generalize cs xs ys (5 + k) n = C at *
              obtain ⟨s0, s1⟩ := hsn
              obtain ⟨s2, s3⟩ := hsn1
              have hm19 : IntKind.u64.wrap (19 * y) = 19 * y := by rw [IntKind.wrap_u64]; omega
              have e19 : x * (19 * y) = 19 * (x * y) := by grind
              obtain ⟨C', hC'⟩ : ∃ C', C' = C + x * y := ⟨_, rfl⟩
              have HEQ : Hid (L0 + 19 * C + x * (19 * y) = L0 + 19 * C') := by show _ = _; rw [e19]; omega
              have HCE : Hid (cs xs ys (5 + k) (n + 1) = C') := by show _ = _; rw [HCS.out, hC']
              have hSz : 0 ≤ L0 + 19 * C := by omega
              have hTT : (L0 + 19 * C) + x * (19 * y) < 340282366920938463463374607431768211456 := by rw [e19]; omega
              clear hC' s2 s3 e19
              go_wp2_with fail
              refine wp_region_any (by kernel_rfl) ?_
              refine wpAny_slotsE (fun _ _ _ => True) (frame := (fun (c0 c1 c2 c3 c4 c5 c6 c7 c8 c9 c10 c11 c12 c13 c14 c15 c16 c17 c18 c19 c20 c21 c22 c23 c24 c25 c26 c27 c28 c29 c30 c31 c32 c33 c34 c35 c36 c37 c38 c39 c40 c56 c57 c58 c59 c60 c61 c62 c63 c64 c65 c66 c67 c68 c69 c70 c71 c72 c73 c74 c75 c76 : Value) => fun (t : Nat → Value) => ({ tmps := List.toArray (c0 :: c1 :: c2 :: c3 :: c4 :: c5 :: c6 :: c7 :: c8 :: c9 :: c10 :: c11 :: c12 :: c13 :: c14 :: c15 :: c16 :: c17 :: c18 :: c19 :: c20 :: c21 :: c22 :: c23 :: c24 :: c25 :: c26 :: c27 :: c28 :: c29 :: c30 :: c31 :: c32 :: c33 :: c34 :: c35 :: c36 :: c37 :: c38 :: c39 :: c40 :: t 0 :: t 1 :: t 2 :: t 3 :: t 4 :: t 5 :: t 6 :: t 7 :: t 8 :: t 9 :: t 10 :: t 11 :: t 12 :: t 13 :: t 14 :: c56 :: c57 :: c58 :: c59 :: c60 :: c61 :: c62 :: c63 :: c64 :: c65 :: c66 :: c67 :: c68 :: c69 :: c70 :: c71 :: c72 :: c73 :: c74 :: c75 :: c76 :: []), defers := [] } : Act)) _ _ _ _ _ _ _ _ _ _ _ _ _ _ _ _ _ _ _ _ _ _ _ _ _ _ _ _ _ _ _ _ _ _ _ _ _ _ _ _ _ _ _ _ _ _ _ _ _ _ _ _ _ _ _ _ _ _ _ _ _ _)
                (Ext := fun L w' => TmS w (mixE (prodF xs ys) [0, 0, 0, 0, 0] k) G (if L 14 = true then (L0 + 19 * C') else (L0 + 19 * C)) w') (Good := fun i L _ v => if i = 0 then v = (.pointer (some ⟨g1, o1, none⟩)) else if i = 1 then v = (.int .i64 (n : Int)) else if i = 2 then v = (.pointer (some ⟨g1, o1, none⟩)) else if i = 3 then v = (.pointer (some ⟨g1, o1 + n, none⟩)) else if i = 4 then v = (.int .u64 x) else if i = 5 then v = (.pointer (some ⟨g2, o2, none⟩)) else if i = 6 then v = (.int .i64 (k : Int)) else if i = 7 then v = (.int .i64 ((k : Int) + 5)) else if i = 8 then v = (.int .i64 (n : Int)) else if i = 9 then v = (.int .i64 ((k + 5 - n : Nat) : Int)) else if i = 10 then v = (.pointer (some ⟨g2, o2, none⟩)) else if i = 11 then v = (.pointer (some ⟨g2, o2 + (k + 5 - n), none⟩)) else if i = 12 then v = (.int .u64 y) else if i = 13 then v = (.int .u64 (19 * y)) else (v = .tuple #[] ∧ L 14 = true)) ?hstab (by kernel_rfl) (by kernel_rfl) ?hop ?hdone _ _ ((fun (x0 x1 x2 x3 x4 x5 x6 x7 x8 x9 x10 x11 x12 x13 x14 : Value) => fun (i : Nat) => if i = 0 then x0 else if i = 1 then x1 else if i = 2 then x2 else if i = 3 then x3 else if i = 4 then x4 else if i = 5 then x5 else if i = 6 then x6 else if i = 7 then x7 else if i = 8 then x8 else if i = 9 then x9 else if i = 10 then x10 else if i = 11 then x11 else if i = 12 then x12 else if i = 13 then x13 else if i = 14 then x14 else undef) _ _ _ _ _ _ _ _ _ _ _ _ _ _ _) _ (by simp) ?ext ?start (by simp)
              case start => intro i hi h; exact absurd h (by rw [Array.getD_eq_getD_getElem?, Array.getElem?_replicate]; split <;> simp)
              case hstab =>
                intro j L w w' i v _ hij hL h
                by_cases hj : j < 14
                · obtain rfl | rfl | rfl | rfl | rfl | rfl | rfl | rfl | rfl | rfl | rfl | rfl | rfl | rfl : j = 0 ∨ j = 1 ∨ j = 2 ∨ j = 3 ∨ j = 4 ∨ j = 5 ∨ j = 6 ∨ j = 7 ∨ j = 8 ∨ j = 9 ∨ j = 10 ∨ j = 11 ∨ j = 12 ∨ j = 13 := by omega
                  all_goals exact h
                · have hj' : ¬ j < 14 := hj
                  have e : (updK L i 14) = true ∨ L 14 = false := by unfold updK; by_cases h9 : 14 = i <;> simp [h9]
                  revert h
                  simp only [if_neg (show ¬ j = 0 by omega), if_neg (show ¬ j = 1 by omega), if_neg (show ¬ j = 2 by omega), if_neg (show ¬ j = 3 by omega), if_neg (show ¬ j = 4 by omega), if_neg (show ¬ j = 5 by omega), if_neg (show ¬ j = 6 by omega), if_neg (show ¬ j = 7 by omega), if_neg (show ¬ j = 8 by omega), if_neg (show ¬ j = 9 by omega), if_neg (show ¬ j = 10 by omega), if_neg (show ¬ j = 11 by omega), if_neg (show ¬ j = 12 by omega), if_neg (show ¬ j = 13 by omega)]
                  rintro ⟨h1, h2⟩
                  exact ⟨h1, by rcases e with e | e; exact e; rw [h2] at e; cases e⟩
              case ext => exact HTS.out
              case hop =>
                intro i o L t w' ho hLi hx hdep K hK
                have hi : i < 15 := (Array.getElem?_eq_some_iff.1 ho).1
                have cA : w'.cell? ⟨g1, o1 + n, none⟩ = some (.int .u64 x) := HCX.out _ hx.pl.below
                have cB : w'.cell? ⟨g2, o2 + (k + 5 - n), none⟩ = some (.int .u64 y) := HCY.out _ hx.pl.below
                have REF : Hid (∀ j, j ≠ 14 → TmS w (mixE (prodF xs ys) [0, 0, 0, 0, 0] k) G (if updK L j 14 = true then (L0 + 19 * C') else (L0 + 19 * C)) w') := fun j hj => by
                  have : updK L j 14 = L 14 := by unfold updK; rw [if_neg (Ne.symm hj)]
                  rw [this]; exact hx
                have HX : Hid (TmS w (mixE (prodF xs ys) [0, 0, 0, 0, 0] k) G (if L 14 = true then (L0 + 19 * C') else (L0 + 19 * C)) w') := hx
                clear hx
                obtain rfl | rfl | rfl | rfl | rfl | rfl | rfl | rfl | rfl | rfl | rfl | rfl | rfl | rfl | rfl : i = 0 ∨ i = 1 ∨ i = 2 ∨ i = 3 ∨ i = 4 ∨ i = 5 ∨ i = 6 ∨ i = 7 ∨ i = 8 ∨ i = 9 ∨ i = 10 ∨ i = 11 ∨ i = 12 ∨ i = 13 ∨ i = 14 := by omega
                all_goals (simp at ho; subst ho)
                · clear hdep
                  have hK' := hK w' (.pointer (some ⟨g1, o1, none⟩)) (by simp) (REF.out 0 (by decide)) trivial
                  clear hK
                  go_simp
                  simpa [upd, hsub, hwsub, hwsub2, hm19, hw5] using hK'
                · clear hdep
                  have hK' := hK w' (.int .i64 (n : Int)) (by simp) (REF.out 1 (by decide)) trivial
                  clear hK
                  go_simp
                  simpa [upd, hsub, hwsub, hwsub2, hm19, hw5] using hK'
                · have d0 : t 0 = (.pointer (some ⟨g1, o1, none⟩)) := by simpa using hdep ⟨0, .data⟩ (by simp) rfl
                  clear hdep
                  have hK' := hK w' (.pointer (some ⟨g1, o1, none⟩)) (by simp) (REF.out 2 (by decide)) trivial
                  clear hK
                  go_simp
                  simpa [upd, d0, hsub, hwsub, hwsub2, hm19, hw5] using hK'
                · have d2 : t 2 = (.pointer (some ⟨g1, o1, none⟩)) := by simpa using hdep ⟨2, .data⟩ (by simp) rfl
                  have d1 : t 1 = (.int .i64 (n : Int)) := by simpa using hdep ⟨1, .data⟩ (by simp) rfl
                  clear hdep
                  have hK' := hK w' (.pointer (some ⟨g1, o1 + n, none⟩)) (by simp) (REF.out 3 (by decide)) trivial
                  clear hK
                  go_simp
                  simpa [upd, d2, d1, hsub, hwsub, hwsub2, hm19, hw5] using hK'
                · have d3 : t 3 = (.pointer (some ⟨g1, o1 + n, none⟩)) := by simpa using hdep ⟨3, .data⟩ (by simp) rfl
                  clear hdep
                  have hK' := hK w' (.int .u64 x) (by simp) (REF.out 4 (by decide)) trivial
                  clear hK
                  go_simp
                  simpa [upd, d3, hsub, hwsub, hwsub2, hm19, hw5] using hK'
                · clear hdep
                  have hK' := hK w' (.pointer (some ⟨g2, o2, none⟩)) (by simp) (REF.out 5 (by decide)) trivial
                  clear hK
                  go_simp
                  simpa [upd, hsub, hwsub, hwsub2, hm19, hw5] using hK'
                · clear hdep
                  have hK' := hK w' (.int .i64 (k : Int)) (by simp) (REF.out 6 (by decide)) trivial
                  clear hK
                  go_simp
                  simpa [upd, hsub, hwsub, hwsub2, hm19, hw5] using hK'
                · have d6 : t 6 = (.int .i64 (k : Int)) := by simpa using hdep ⟨6, .data⟩ (by simp) rfl
                  clear hdep
                  have hK' := hK w' (.int .i64 ((k : Int) + 5)) (by simp) (REF.out 7 (by decide)) trivial
                  clear hK
                  go_simp
                  simpa [upd, d6, hsub, hwsub, hwsub2, hm19, hw5] using hK'
                · clear hdep
                  have hK' := hK w' (.int .i64 (n : Int)) (by simp) (REF.out 8 (by decide)) trivial
                  clear hK
                  go_simp
                  simpa [upd, hsub, hwsub, hwsub2, hm19, hw5] using hK'
                · have d7 : t 7 = (.int .i64 ((k : Int) + 5)) := by simpa using hdep ⟨7, .data⟩ (by simp) rfl
                  have d8 : t 8 = (.int .i64 (n : Int)) := by simpa using hdep ⟨8, .data⟩ (by simp) rfl
                  clear hdep
                  have hK' := hK w' (.int .i64 ((k + 5 - n : Nat) : Int)) (by simp) (REF.out 9 (by decide)) trivial
                  clear hK
                  go_simp
                  simpa [upd, d7, d8, hsub, hwsub, hwsub2, hm19, hw5] using hK'
                · have d5 : t 5 = (.pointer (some ⟨g2, o2, none⟩)) := by simpa using hdep ⟨5, .data⟩ (by simp) rfl
                  clear hdep
                  have hK' := hK w' (.pointer (some ⟨g2, o2, none⟩)) (by simp) (REF.out 10 (by decide)) trivial
                  clear hK
                  go_simp
                  simpa [upd, d5, hsub, hwsub, hwsub2, hm19, hw5] using hK'
                · have d10 : t 10 = (.pointer (some ⟨g2, o2, none⟩)) := by simpa using hdep ⟨10, .data⟩ (by simp) rfl
                  have d9 : t 9 = (.int .i64 ((k + 5 - n : Nat) : Int)) := by simpa using hdep ⟨9, .data⟩ (by simp) rfl
                  clear hdep
                  have hK' := hK w' (.pointer (some ⟨g2, o2 + (k + 5 - n), none⟩)) (by simp) (REF.out 11 (by decide)) trivial
                  clear hK
                  go_simp
                  simpa [upd, d10, d9, hsub, hwsub, hwsub2, hm19, hw5] using hK'
                · have d11 : t 11 = (.pointer (some ⟨g2, o2 + (k + 5 - n), none⟩)) := by simpa using hdep ⟨11, .data⟩ (by simp) rfl
                  clear hdep
                  have hK' := hK w' (.int .u64 y) (by simp) (REF.out 12 (by decide)) trivial
                  clear hK
                  go_simp
                  simpa [upd, d11, hsub, hwsub, hwsub2, hm19, hw5] using hK'
                · have d12 : t 12 = (.int .u64 y) := by simpa using hdep ⟨12, .data⟩ (by simp) rfl
                  clear hdep
                  have hK' := hK w' (.int .u64 (19 * y)) (by simp) (REF.out 13 (by decide)) trivial
                  clear hK
                  go_simp
                  simpa [upd, d12, hsub, hwsub, hwsub2, hm19, hw5] using hK'
                · have d4 : t 4 = (.int .u64 x) := by simpa using hdep ⟨4, .data⟩ (by simp) rfl
                  have d13 : t 13 = (.int .u64 (19 * y)) := by simpa using hdep ⟨13, .data⟩ (by simp) rfl
                  clear hdep
                  have hts := HX.out
                  rw [if_neg (by rw [hLi]; decide)] at hts
                  have A := addP_any G ((L0 + 19 * C)) x (19 * y) w' hSz hts.sum hx0 (by omega) (by omega) (by omega) hTT
                  have hK' : ∀ ww, WdS w' G ((L0 + 19 * C) + x * (19 * y)) ww → K _ ww := fun ww hs => hK ww (.tuple #[]) (by simp [updK]) (by rw [if_pos (by simp [updK])]; have := hts.add hs; rw [HEQ.out] at this; exact this) trivial
                  clear hK
                  go_simp
                  refine A.mono ?_
                  rintro e w9 ⟨rfl, hs⟩
                  have hK2 := hK' w9 hs
                  clear hK' A hs
                  go_simp
                  simpa [upd, d4, d13] using hK2
              case hdone =>
                intro L t w' hx hg
                have d0 : t 0 = (.pointer (some ⟨g1, o1, none⟩)) := by simpa using hg 0 (by decide)
                have d1 : t 1 = (.int .i64 (n : Int)) := by simpa using hg 1 (by decide)
                have d2 : t 2 = (.pointer (some ⟨g1, o1, none⟩)) := by simpa using hg 2 (by decide)
                have d3 : t 3 = (.pointer (some ⟨g1, o1 + n, none⟩)) := by simpa using hg 3 (by decide)
                have d4 : t 4 = (.int .u64 x) := by simpa using hg 4 (by decide)
                have d5 : t 5 = (.pointer (some ⟨g2, o2, none⟩)) := by simpa using hg 5 (by decide)
                have d6 : t 6 = (.int .i64 (k : Int)) := by simpa using hg 6 (by decide)
                have d7 : t 7 = (.int .i64 ((k : Int) + 5)) := by simpa using hg 7 (by decide)
                have d8 : t 8 = (.int .i64 (n : Int)) := by simpa using hg 8 (by decide)
                have d9 : t 9 = (.int .i64 ((k + 5 - n : Nat) : Int)) := by simpa using hg 9 (by decide)
                have d10 : t 10 = (.pointer (some ⟨g2, o2, none⟩)) := by simpa using hg 10 (by decide)
                have d11 : t 11 = (.pointer (some ⟨g2, o2 + (k + 5 - n), none⟩)) := by simpa using hg 11 (by decide)
                have d12 : t 12 = (.int .u64 y) := by simpa using hg 12 (by decide)
                have d13 : t 13 = (.int .u64 (19 * y)) := by simpa using hg 13 (by decide)
                have d14 : t 14 = .tuple #[] ∧ L 14 = true := by simpa using hg 14 (by decide)
                clear hg
                rw [if_pos d14.2] at hx
                have HP : Hid (TmS w (mixE (prodF xs ys) [0, 0, 0, 0, 0] k) G (L0 + 19 * cs xs ys (5 + k) (n + 1)) w') := by rw [HCE.out]; exact hx
                clear hx HTS HCX HCY HEQ HCE
                dsimp only
                rw [d0, d1, d2, d3, d4, d5, d6, d7, d8, d9, d10, d11, d12, d13, d14.1]
                clear d0 d1 d2 d3 d4 d5 d6 d7 d8 d9 d10 d11 d12 d13 d14
                go_wp2
                go_roundw
                case rel => exact ⟨n + 1, by omega, by omega, by go_num, HP.out⟩
                case measure => simp [intOf]; omega
            · obtain rfl : n = 5 := by omega
              rw [show ((5 : Nat) : Int) = 5 from rfl]
              have hhi := HT1.out (5 + k) 5 (by omega)
              have HHI : Hid (cs xs ys (5 + k) 5 = hiE xs ys k) := rfl
              rw [HHI.out] at hts hhi
              obtain ⟨S, hS⟩ : ∃ S, S = L0 + 19 * hiE xs ys k := ⟨_, rfl⟩
              rw [← hS] at hts
              have hSt : S = (tl xs ys).getD k 0 + ov := by rw [hS, HL0.out, HTL.out]; omega
              have hS0 : 0 ≤ S := by omega
              have hS1 : S < 41538374868278621028243970633760768 := by omega
              have hov := HT3.out (k + 1)
              have hgk1 : gcy B51 (tl xs ys) (k + 1) = S / 2251799813685248 := by
                show ((tl xs ys).getD k 0 + gcy B51 (tl xs ys) k) / B51 = _
                rw [HGK.out, ← hSt]; rfl
              have hpr : prodF xs ys k = S % 2251799813685248 := by unfold prodF; rw [HGK.out, ← hSt]; rfl
              have c0 : wr.cell? ⟨G, 0, none⟩ = some (.int .u64 (S / 18446744073709551616)) := cell_of_row _ _ _ _ _ _ hts.sum
              have c1 : wr.cell? ⟨G, 1, none⟩ = some (.int .u64 (S % 18446744073709551616)) := cell_of_row _ _ _ _ _ _ hts.sum
              have c3 := hts.pl.row.cell k (by rw [mixE_len]; exact hlt)
              have f3 := hts.pl.row.frozen k
              have s1 : PlS w (mixE (prodF xs ys) [0, 0, 0, 0, 0] (k + 1)) (wr.setCell ⟨w.heap.size + 1, k, none⟩ (.int .u64 (S % 2251799813685248))) := by
                rw [← mixE_step _ _ _ hlt, hpr]
                exact ⟨((Wr.refl _ _).setCell k _).rowW hts.pl.res (by omega), hts.pl.row.set k _, hts.pl.below.setCell (by simp) _⟩
              have hGne : G ≠ w.heap.size + 1 := by have := hts.hG; omega
              have hsz : w.heap.size + 1 < (wr.setCell ⟨w.heap.size + 1, k, none⟩ (.int .u64 (S % 2251799813685248))).heap.size := by
                have := (Array.getElem?_eq_some_iff.1 hts.sum).1
                have := hts.hG
                simp [World.setCell]; omega
              have c0' : (wr.setCell ⟨w.heap.size + 1, k, none⟩ (.int .u64 (S % 2251799813685248))).cell? ⟨G, 0, none⟩ = some (.int .u64 (S / 18446744073709551616)) := by
                rw [World.cell?_setCell_other _ _ _ _ (by first | (simp; done) | (simp; omega))]; exact c0
              have c1' : (wr.setCell ⟨w.heap.size + 1, k, none⟩ (.int .u64 (S % 2251799813685248))).cell? ⟨G, 1, none⟩ = some (.int .u64 (S % 18446744073709551616)) := by
                rw [World.cell?_setCell_other _ _ _ _ (by first | (simp; done) | (simp; omega))]; exact c1
              have HS1 : Hid (PlS w (mixE (prodF xs ys) [0, 0, 0, 0, 0] (k + 1)) (wr.setCell ⟨w.heap.size + 1, k, none⟩ (.int .u64 (S % 2251799813685248))) ∧ w.heap.size + 1 < (wr.setCell ⟨w.heap.size + 1, k, none⟩ (.int .u64 (S % 2251799813685248))).heap.size) := ⟨s1, hsz⟩
              have hand : bits .and .u64 (S % 18446744073709551616) 2251799813685247 = S % 2251799813685248 := by
                rw [u64_and_mask _ 51 (by omega) (by omega) _ (by decide) (by decide)]
                show S % 18446744073709551616 % 2251799813685248 = _
                omega
              have hor : bits .or .u64 (S / 18446744073709551616 * 8192) (S % 18446744073709551616 / 2251799813685248) = S / 2251799813685248 := by
                rw [u64_or_add _ _ 13 (by omega) (by omega) (by omega) (by show _ < (8192 : Int); omega) (by omega) (S / 18446744073709551616) (by rfl)]
                omega
              have HAND : Hid (bits .and .u64 (S % 18446744073709551616) 2251799813685247 = S % 2251799813685248) := hand
              have HOR : Hid (bits .or .u64 (S / 18446744073709551616 * 8192) (S % 18446744073709551616 / 2251799813685248) = S / 2251799813685248) := hor
              have HGK1 : Hid (gcy B51 (tl xs ys) (k + 1) = S / 2251799813685248) := hgk1
              have b0 : 0 ≤ S / 18446744073709551616 := by omega
              have b1 : 0 ≤ S % 18446744073709551616 := by omega
              have b2 : S % 18446744073709551616 < 18446744073709551616 := by omega
              have b3 : S / 18446744073709551616 < 2251799813685248 := by omega
              clear hts hS hSt hgk1 hpr s1 hsz hand hor hhi hov HL0 HTL HGK
              generalize (mixE (prodF xs ys) [0, 0, 0, 0, 0] k).getD k 0 = z at *
              generalize S / 18446744073709551616 = sh at *
              generalize S % 18446744073709551616 = sl at *
              generalize S % 2251799813685248 = sr at *
              generalize S / 2251799813685248 = sq at *
              go_wp2
              rw [HOR.out, HAND.out]
              exact ⟨⟨k + 1, by omega, by go_num, by rw [HGK1.out], HS1.out.1, HS1.out.2⟩, by simp [intOf]; omega⟩
    · obtain rfl : k = 5 := by omega
      rw [prod_all] at hst
      rw [show ((5 : Nat) : Int) = 5 from rfl]
      have hc := HT3.out 5
      have hc4 := HT4.out
      have hb := sst_bd (tl xs ys) 0
      have c0 := hst.row.cell 0 (by rw [sst_len]; decide)
      have f0 := hst.row.frozen 0
      have s1 : PlS w (carryE (tl xs ys)) (wr.setCell ⟨w.heap.size + 1, 0, none⟩ (.int .u64 ((sst (tl xs ys) 5).getD 0 0 + 19 * gcy B51 (tl xs ys) 5))) :=
        ⟨((Wr.refl _ _).setCell 0 _).rowW hst.res (by omega), hst.row.set 0 _, hst.below.setCell (by simp) _⟩
      have HS1 : Hid (PlS w (carryE (tl xs ys)) (wr.setCell ⟨w.heap.size + 1, 0, none⟩ (.int .u64 ((sst (tl xs ys) 5).getD 0 0 + 19 * gcy B51 (tl xs ys) 5)))) := s1
      clear s1 hst HT3 HT4 HT1
      generalize (sst (tl xs ys) 5).getD 0 0 = y0 at *
      generalize gcy B51 (tl xs ys) 5 = cc at *
      obtain ⟨hc0, hc1⟩ := hc
      obtain ⟨hb0, hb1⟩ := hb
      go_wp2_with fail
      have hst := HS1.out
      clear HS1 c0 f0
      generalize wr.setCell ⟨w.heap.size + 1, 0, none⟩ (.int .u64 (y0 + 19 * cc)) = w4 at *
      refine (carryE_any _ (carryE (tl xs ys)) _ (carryE_len _) hst.row HQ.out.1).mono ?_
      rintro e w1 ⟨rfl, hs⟩
      have s1 := hst.carry hs
      have hl := HQ.out.2.1.1
      have HSZ : Hid ((Try.prog.info? 82).map (·.size) = some (((carryE (carryE (tl xs ys))).map (Value.int .u64)).toArray).size) := sizeEl hl
      have HZ4 : Hid (([0, 0, 0, 0, 0].map (Value.int .u64)).toArray.size = (((carryE (carryE (tl xs ys))).map (Value.int .u64)).toArray).size) := by show _ = _; simp [hl]
      have HRS : Hid (RowW w1 w.heap.size 82 [0, 0, 0, 0, 0]) := s1.res
      have HRO : Hid (RowW w1 (w.heap.size + 1) 82 (carryE (carryE (tl xs ys)))) := s1.row
      have HBE : Hid (Below w.heap.size w w1) := s1.below
      clear s1 hs hst hl
      generalize carryE (carryE (tl xs ys)) = es at *
      go_wp2_with (first
        | (refine wpList_load_row rfl 82 (.tmp 5) rfl (w.heap.size + 1) rfl 82 _ (0, 0) _ HRO.out Try.underlying82 rfl HSZ.out ?_)
        | (refine wpList_store_row rfl 82 (.tmp 4) (.tmp 76) rfl w.heap.size ((es.map (Value.int .u64)).toArray) rfl rfl 82 _ HRS.out HSZ.out HZ4.out (all_oneCell_toArray (ints_oneCell _ _)) ?_))
      refine bodyPost_ret (v := .agg (es.map (Value.int .u64)).toArray) (results_cell_row rfl _ _ w.heap.size 82 _ (0, 0) _ rfl (setRow_heap _ _ _ _ _ _ HRS.out) Try.underlying82 rfl HSZ.out) rfl ⟨es, HQ.out.2.1, HQ.out.2.2, rfl, ?_⟩
      exact HBE.out.trans ((Wr.setRow _ _ _).below (Nat.le_refl _))
end Go.Proofs.Ythghkfncpdnpoac
