/-
  Own work: the law on crashes of drawn devices (written by wip/mklcs.py).
-/
import Derived.Test.YtoiflbfnjebpeaaCsL
import Derived.Test.YtoiflbfnjebpeaaRegV
import Derived.WalkKit
import Derived.ProofKit
import Derived.OpenShut
import Derived.ShutString
import Derived.ChangeOld
import Derived.Below
namespace Go.Proofs.Ytoiflbfnjebpeaa.lcs
open Go.ChangeShapes Go.WideShapes Go.ChangeAt Go.RowKit
open Go.ChangeMaps (open_string shut_string)
set_option linter.unusedVariables false

theorem own : ownKnob Try.prog.godebug = none := by kernel_rfl
theorem laidOut : laidOutB Try.prog = true := by kernel_rfl

def IsRow (k : IntKind) (w : World) (a : Option Addr) (len cap : Nat) (zs : List Int) : Prop :=
  (a = none ∧ len = 0 ∧ cap = 0 ∧ zs = []) ∨
  ∃ x, a = some x ∧ len ≤ cap ∧ cap ≤ maxLen ∧ zs.length = cap ∧ (∀ i, i < zs.length → w.cell? (x.add i) = some (.int k (zs.getD i 0))) ∧ ∀ n ∈ zs, (Lit.int k n).wf = true

theorem IsRow.at_ {w : World} {a : Option Addr} {len cap : Nat} {z : List Int} (h : IsRow .u8 w a len cap z) : ∃ zs, zs.length = len ∧ Byte zs ∧ At .u8 w a zs := by
  rcases h with ⟨rfl, rfl, rfl, rfl⟩ | ⟨x, rfl, hl, hm, hz, hc, hw⟩
  · exact ⟨[], rfl, by simp [Byte], .inl rfl⟩
  · refine ⟨z.take len, by simp; omega, fun n hn => ?_, ?_⟩
    · have := hw n (List.mem_of_mem_take hn)
      simp [Lit.wf, IntKind.min, IntKind.max, IntKind.signed, IntKind.bits] at this
      omega
    · by_cases h0 : len = 0
      · left; simp [h0]
      · right
        obtain ⟨b, off, spot⟩ := x
        have hc0 := hc 0 (by omega)
        have hs : spot = none := by simpa [Addr.add] using World.cell?_spot hc0
        subst hs
        refine ⟨b, off, rfl, block_lt_of_cell (a := (⟨b, off, none⟩ : Addr).add 0) hc0, fun i hi => ?_⟩
        have hi' : i < len := by simp at hi; omega
        have := hc i (by omega)
        rw [Addr.add_lit] at this
        rw [this]
        simp [List.getD, hi']

theorem below_drewN {B : Nat} {a w : World} (h : Below B a w) (n : Nat) : Below B a (w.drewN n) := ⟨h.os, h.tape, h.output, h.size, h.block⟩


set_option maxRecDepth 100000 in
set_option maxHeartbeats 16000000 in
theorem walk (a0 : Option Addr) (len0 cap0 : Nat) (z0 : List Int) (w : World) (w0 : IsRow .u8 w a0 len0 cap0 z0) :
    Calls Try.prog 6 #[.slice a0 len0 cap0] w fun e w' => e = .returned (.bool true) ∧ Below w.heap.size w w' := by
  have HSD : Hid _ := Try.sizeDv
  have HSC : Hid _ := Try.sizeCr
  by_cases hl : (1048576 : Int) < (len0 : Int)
  · go_enter Try.func6, Try.ntmps6
    go_wp2
    go_ret
    exact ⟨rfl, Below.refl _ _⟩
  · obtain ⟨cs0, hn, hz, ha⟩ := IsRow.at_ w0
    have hl' : len0 ≤ 1048576 := by omega
    clear w0
    go_enter Try.func6, Try.ntmps6
    go_wp2_with fail
    refine (drawDC_any a0 len0 cap0 cs0 _ hn hl' hz ha).mono ?_
    rintro e w1 ⟨v, vc, zs, ps, f, d, bs, tt, uu, rfl, dx1, bd, ca1, hbs, hb1⟩
    obtain ⟨da, dc, ca, cc, E0, rfl, _⟩ := id dx1
    obtain ⟨xa, xc, rfl, _⟩ := id ca1
    obtain ⟨L, hL⟩ : ∃ L, L = zs.length := ⟨_, rfl⟩
    obtain ⟨M, hM⟩ : ∃ M, M = ps.length := ⟨_, rfl⟩
    obtain ⟨bl, hbl⟩ : ∃ b, b = bs.length := ⟨_, rfl⟩
    rw [← hL, ← hM] at dx1 ⊢
    rw [← hbl] at ca1 ⊢
    have HLM := hid_ofD (And.intro hL.symm (And.intro hM.symm hbl.symm))
    have HBD := hid_ofD bd
    have HBS := hid_ofD hbs
    have hbn : Below w1.heap.size w1 ((w1.alloc (.cells #[.slice none 0 0, .slice none 0 0, .int .i64 0, .bool false] 25)).alloc (.cells #[.slice none 0 0, .int .i64 0, .int .i64 0] 44)) := ((Below.refl _ _).alloc (Nat.le_refl _) _).alloc (by simp) _
    have HN1 : Hid (((w1.alloc (.cells #[.slice none 0 0, .slice none 0 0, .int .i64 0, .bool false] 25)).alloc (.cells #[.slice none 0 0, .int .i64 0, .int .i64 0] 44)).heap[w1.heap.size]? = some (.cells #[.slice none 0 0, .slice none 0 0, .int .i64 0, .bool false] 25 (0, 0))) := by show _ = _; rw [Below.heap_alloc _ _ w1.heap.size (by simp)]; exact heap_alloc_new w1 _
    have HN2 : Hid ((((w1.alloc (.cells #[.slice none 0 0, .slice none 0 0, .int .i64 0, .bool false] 25)).alloc (.cells #[.slice none 0 0, .int .i64 0, .int .i64 0] 44)).setRow w1.heap.size #[.slice da L dc, .slice ca M cc, .int .i64 f, .bool d]).heap[w1.heap.size + 1]? = some (.cells #[.slice none 0 0, .int .i64 0, .int .i64 0] 44 (0, 0))) := by
      show _ = _
      rw [setRow_other _ _ _ _ (by omega)]
      have := heap_alloc_new (w1.alloc (.cells #[.slice none 0 0, .slice none 0 0, .int .i64 0, .bool false] 25)) (.cells #[.slice none 0 0, .int .i64 0, .int .i64 0] 44)
      rw [World.size_alloc] at this
      exact this
    have hb2 : Below w1.heap.size w1 ((((w1.alloc (.cells #[.slice none 0 0, .slice none 0 0, .int .i64 0, .bool false] 25)).alloc (.cells #[.slice none 0 0, .int .i64 0, .int .i64 0] 44)).setRow w1.heap.size #[.slice da L dc, .slice ca M cc, .int .i64 f, .bool d]).setRow (w1.heap.size + 1) #[.slice xa bl xc, .int .i64 tt, .int .i64 uu]) := (hbn.trans ((Wr.setRow w1.heap.size ((w1.alloc (.cells #[.slice none 0 0, .slice none 0 0, .int .i64 0, .bool false] 25)).alloc (.cells #[.slice none 0 0, .int .i64 0, .int .i64 0] 44)) #[.slice da L dc, .slice ca M cc, .int .i64 f, .bool d]).below (Nat.le_refl _))).trans ((Wr.setRow (w1.heap.size + 1) (((w1.alloc (.cells #[.slice none 0 0, .slice none 0 0, .int .i64 0, .bool false] 25)).alloc (.cells #[.slice none 0 0, .int .i64 0, .int .i64 0] 44)).setRow w1.heap.size #[.slice da L dc, .slice ca M cc, .int .i64 f, .bool d]) #[.slice xa bl xc, .int .i64 tt, .int .i64 uu]).below (by omega))
    have HLC : Hid (LC w ((((w1.alloc (.cells #[.slice none 0 0, .slice none 0 0, .int .i64 0, .bool false] 25)).alloc (.cells #[.slice none 0 0, .int .i64 0, .int .i64 0] 44)).setRow w1.heap.size #[.slice da L dc, .slice ca M cc, .int .i64 f, .bool d]).setRow (w1.heap.size + 1) #[.slice xa bl xc, .int .i64 tt, .int .i64 uu]) w1.heap.size (w1.heap.size + 1) da L dc ca M cc zs ps f d xa bl xc bs tt uu) :=
      ⟨by rw [setRow_other _ _ _ _ (by omega)]; exact setRow_heap _ _ _ _ _ _ HN1.out, setRow_heap _ _ _ _ _ _ HN2.out, dx1.below hb2, ca1.below hb2, hb1.trans (hb2.mono hb1.size)⟩
    obtain ⟨⟨y0, y1, y2, y3⟩, _⟩ := HLC.out.cells
    clear dx1 ca1 bd hbs hb1 hbn hb2 hL hM hbl
    have HV : Hid (∀ ww : World, DAt ww (.agg #[.slice da L dc, .slice ca M cc, .int .i64 f, .bool d]) zs ps f d → Calls Try.prog 24 #[.agg #[.slice da L dc, .slice ca M cc, .int .i64 f, .bool d]] ww fun e w' => e = .returned (.bool (validB zs.length ps f)) ∧ Below ww.heap.size ww w') := fun ww h => sval_any _ zs ps f d ww h (by have := HBD.out.1; omega) (by have := HBD.out.2.1; omega) (fun i => by have := HBD.out.2.2.1 i; omega)
    go_wp2_with (first
      | (refine wpList_store_row rfl 25 (.tmp 3) (.tmp 16) rfl w1.heap.size #[.slice da L dc, .slice ca M cc, .int .i64 f, .bool d] rfl rfl 25 _ HN1.out HSD.out rfl (all4x _ _ _ _ _ _ _ _) ?_)
      | (refine wpList_store_row rfl 44 (.tmp 4) (.tmp 17) rfl (w1.heap.size + 1) #[.slice xa bl xc, .int .i64 tt, .int .i64 uu] rfl rfl 44 _ HN2.out HSC.out rfl (all3c _ _ _ _ _) ?_)
      | fail)
    clear y0 y1 y2 y3 HN1 HN2
    generalize (((w1.alloc (.cells #[.slice none 0 0, .slice none 0 0, .int .i64 0, .bool false] 25)).alloc (.cells #[.slice none 0 0, .int .i64 0, .int .i64 0] 44)).setRow w1.heap.size #[.slice da L dc, .slice ca M cc, .int .i64 f, .bool d]).setRow (w1.heap.size + 1) #[.slice xa bl xc, .int .i64 tt, .int .i64 uu] = w2 at *
    obtain ⟨D, hD⟩ : ∃ D, D = w1.heap.size := ⟨_, rfl⟩
    rw [← hD] at HLC ⊢
    obtain ⟨K, hK⟩ : ∃ K, K = D + 1 := ⟨_, rfl⟩
    rw [← hK] at HLC ⊢
    clear hD hK
    refine (HV.out w2 HLC.out.dx.at_).mono ?_
    rintro e w3 ⟨rfl, hb3⟩
    have HL3 := hid_ofD (HLC.out.next hb3)
    clear HLC hb3 HV
    obtain ⟨⟨y0, y1, y2, y3⟩, x0, x1, x2⟩ := HL3.out.cells
    cases hva : validB zs.length ps f with
    | false =>
      have CI := hid_ofD (icr_any (.agg #[.slice da L dc, .slice ca M cc, .int .i64 f, .bool d]) (.agg #[.slice xa bl xc, .int .i64 tt, .int .i64 uu]) zs ps f d bs tt uu w3 HL3.out.dx.at_ HL3.out.cr (by have := HBD.out.1; omega) (by have := HBD.out.2.1; omega) (fun i => by have := HBD.out.2.2.1 i; omega) (by have := HBS.out; omega))
      have hz : crZ zs ps f bs tt uu = [] := by unfold crZ; rw [hva]; rfl
      rw [hz] at CI
      have HVA := hid_ofD hva
      clear hva hz
      go_wp2_with fail
      clear y0 y1 y2 y3 x0 x1 x2
      refine CI.out.mono ?_
      rintro e w4 ⟨r, rfl, h4, hb4⟩
      obtain ⟨a4, c4, rfl, _⟩ := cd_new h4 hb4.size
      have HL4 := hid_ofD (HL3.out.next hb4)
      clear HL3 h4 hb4 CI
      generalize crF zs.length ps f = F4 at *
      obtain ⟨⟨y0, y1, y2, y3⟩, _⟩ := HL4.out.cells
      have CV := hid_ofD (ival_any (.agg #[.slice da L dc, .slice ca M cc, .int .i64 f, .bool d]) zs ps f d w4 HL4.out.dx.at_ (by have := HBD.out.1; omega) (by have := HBD.out.2.1; omega) (fun i => by have := HBD.out.2.2.1 i; omega))
      rw [HVA.out] at CV
      simp only [List.length_nil]
      have hfd := fun w => run_fd w a4 0 c4 none 0 0 F4 false
      go_wp2_with fail
      clear y0 y1 y2 y3 hfd
      refine CV.out.mono ?_
      rintro e w5 ⟨rfl, hb5⟩
      have HBF := hid_ofD ((HL4.out.next hb5).below)
      clear HL4 hb5 CV
      go_wp2
      go_ret
      exact ⟨rfl, HBF.out⟩
    | true =>
      have HVA := hid_ofD hva
      clear hva
      have CI := hid_ofD (icr_any (.agg #[.slice da L dc, .slice ca M cc, .int .i64 f, .bool d]) (.agg #[.slice xa bl xc, .int .i64 tt, .int .i64 uu]) zs ps f d bs tt uu w3 HL3.out.dx.at_ HL3.out.cr (by have := HBD.out.1; omega) (by have := HBD.out.2.1; omega) (fun i => by have := HBD.out.2.2.1 i; omega) (by have := HBS.out; omega))
      go_wp2_with fail
      clear y0 y1 y2 y3 x0 x1 x2
      refine CI.out.mono ?_
      rintro e w4 ⟨r, rfl, h4, hb4⟩
      obtain ⟨a5, c5, rfl, q5⟩ := cd_new h4 hb4.size
      obtain ⟨Z5, hZ5⟩ : ∃ Z, Z = crZ zs ps f bs tt uu := ⟨_, rfl⟩
      obtain ⟨F5, hF5⟩ : ∃ F, F = crF zs.length ps f := ⟨_, rfl⟩
      rw [← hZ5, ← hF5] at q5 ⊢
      have hz5l : Z5.length ≤ 704 := by have := crZ_le zs ps f bs tt uu; have := HBD.out.1; rw [hZ5]; omega
      have HZ5 : Hid (Z5.length ≤ 1048576) := by show _ ≤ _; omega
      obtain ⟨l5, hl5⟩ : ∃ l, l = Z5.length := ⟨_, rfl⟩
      rw [← hl5] at q5 ⊢
      have HE5 := hid_ofD (And.intro hZ5 (And.intro hF5 hl5))
      have HL4 := hid_ofD (HL3.out.next hb4)
      have hbn : Below w4.heap.size w4 ((w4.alloc (.cells #[.slice none 0 0, .slice none 0 0, .int .i64 0, .bool false] 25)).setRow w4.heap.size #[.slice a5 l5 c5, .slice none 0 0, .int .i64 F5, .bool false]) := ((Below.refl _ _).alloc (Nat.le_refl _) _).trans ((Wr.setRow w4.heap.size (w4.alloc (.cells #[.slice none 0 0, .slice none 0 0, .int .i64 0, .bool false] 25)) #[.slice a5 l5 c5, .slice none 0 0, .int .i64 F5, .bool false]).below (Nat.le_refl _))
      have HN4 : Hid ((w4.alloc (.cells #[.slice none 0 0, .slice none 0 0, .int .i64 0, .bool false] 25)).heap[w4.heap.size]? = some (.cells #[.slice none 0 0, .slice none 0 0, .int .i64 0, .bool false] 25 (0, 0))) := heap_alloc_new w4 _
      have HL5 := hid_ofD (HL4.out.next hbn)
      have HC5 : Hid (CD ((w4.alloc (.cells #[.slice none 0 0, .slice none 0 0, .int .i64 0, .bool false] 25)).setRow w4.heap.size #[.slice a5 l5 c5, .slice none 0 0, .int .i64 F5, .bool false]) w4.heap.size a5 l5 c5 Z5 F5) := ⟨setRow_heap _ _ _ _ _ _ HN4.out, q5.below hbn⟩
      obtain ⟨⟨y0, y1, y2, y3⟩, x0, x1, x2⟩ := HL5.out.cells
      clear h4 hb4 q5 CI HL3 HL4 hbn hZ5 hF5 hl5 hz5l
      go_wp2_with (first
        | (refine wpList_store_row rfl 25 (.tmp 5) (.tmp 34) rfl w4.heap.size #[.slice a5 l5 c5, .slice none 0 0, .int .i64 F5, .bool false] rfl rfl 25 _ HN4.out HSD.out rfl (all4x _ _ _ _ _ _ _ _) ?_)
        | fail)
      clear y0 y1 y2 y3 x0 x1 x2 HN4
      generalize (w4.alloc (.cells #[.slice none 0 0, .slice none 0 0, .int .i64 0, .bool false] 25)).setRow w4.heap.size #[.slice a5 l5 c5, .slice none 0 0, .int .i64 F5, .bool false] = w5 at *
      obtain ⟨G5, hG5⟩ : ∃ G, G = w4.heap.size := ⟨_, rfl⟩
      rw [← hG5] at HC5 ⊢
      clear hG5
      have CS := hid_ofD (scr_any (.agg #[.slice da L dc, .slice ca M cc, .int .i64 f, .bool d]) (.agg #[.slice xa bl xc, .int .i64 tt, .int .i64 uu]) zs ps f d bs tt uu w.heap.size w5.heap.size w5 HL5.out.dx.mine HL5.out.cr (by have := HBD.out.1; omega) (by have := HBD.out.2.1; omega) (fun i => by have := HBD.out.2.2.1 i; omega) (by have := HBS.out; omega))
      rw [← HE5.out.1, ← HE5.out.2.1] at CS
      refine CS.out.mono ?_
      rintro e w6 ⟨r, rfl, h6, hb6⟩
      obtain ⟨a6, c6, rfl, q6⟩ := cd_new h6 hb6.size
      obtain ⟨l6, hl6⟩ : ∃ l, l = Z5.length := ⟨_, rfl⟩
      rw [← hl6] at q6 ⊢
      have HL6 := hid_ofD (HL5.out.next hb6)
      have HC56 := hid_ofD (HC5.out.next hb6)
      have hbn : Below w6.heap.size w6 ((w6.alloc (.cells #[.slice none 0 0, .slice none 0 0, .int .i64 0, .bool false] 25)).setRow w6.heap.size #[.slice a6 l6 c6, .slice none 0 0, .int .i64 F5, .bool false]) := ((Below.refl _ _).alloc (Nat.le_refl _) _).trans ((Wr.setRow w6.heap.size (w6.alloc (.cells #[.slice none 0 0, .slice none 0 0, .int .i64 0, .bool false] 25)) #[.slice a6 l6 c6, .slice none 0 0, .int .i64 F5, .bool false]).below (Nat.le_refl _))
      have HN6 : Hid ((w6.alloc (.cells #[.slice none 0 0, .slice none 0 0, .int .i64 0, .bool false] 25)).heap[w6.heap.size]? = some (.cells #[.slice none 0 0, .slice none 0 0, .int .i64 0, .bool false] 25 (0, 0))) := heap_alloc_new w6 _
      have HL7 := hid_ofD (HL6.out.next hbn)
      have HC57 := hid_ofD (HC56.out.next hbn)
      have HC67 : Hid (CD ((w6.alloc (.cells #[.slice none 0 0, .slice none 0 0, .int .i64 0, .bool false] 25)).setRow w6.heap.size #[.slice a6 l6 c6, .slice none 0 0, .int .i64 F5, .bool false]) w6.heap.size a6 l6 c6 Z5 F5) := ⟨setRow_heap _ _ _ _ _ _ HN6.out, q6.below hbn⟩
      clear CS h6 hb6 q6 HL5 HC5 HL6 HC56 hbn hl6
      go_wp2_with (first
        | (refine wpList_store_row rfl 25 (.tmp 6) (.tmp 37) rfl w6.heap.size #[.slice a6 l6 c6, .slice none 0 0, .int .i64 F5, .bool false] rfl rfl 25 _ HN6.out HSD.out rfl (all4x _ _ _ _ _ _ _ _) ?_)
        | fail)
      clear HN6
      generalize (w6.alloc (.cells #[.slice none 0 0, .slice none 0 0, .int .i64 0, .bool false] 25)).setRow w6.heap.size #[.slice a6 l6 c6, .slice none 0 0, .int .i64 F5, .bool false] = w7 at *
      obtain ⟨G6, hG6⟩ : ∃ G, G = w6.heap.size := ⟨_, rfl⟩
      rw [← hG6] at HC67 ⊢
      clear hG6
      have hL7 : L ≤ 704 := by have := HBD.out.1; have := HLM.out.1; omega
      go_wp2
      go_loopw [7] (fun i y => ∃ q : Nat, i = .int .i64 q ∧ LC w y D K da L dc ca M cc zs ps f d xa bl xc bs tt uu ∧ CD y G5 a5 l5 c5 Z5 F5 ∧ CD y G6 a6 l6 c6 Z5 F5 ∧ q ≤ 12) (fun i _ => 13 - (intOf i).toNat)
      case atStart => exact ⟨0, rfl, HL7.out, HC57.out, HC67.out, by omega⟩
      case round =>
        clear HL7 HC57 HC67
        obtain ⟨q, rfl, h1, h2, h3, hq⟩ := hrel
        have HLC := hid_ofD h1
        have HC5 := hid_ofD h2
        have HC6 := hid_ofD h3
        clear h1 h2 h3
        obtain ⟨⟨y0, y1, y2, y3⟩, _⟩ := HLC.out.cells
        by_cases hlt : 64 * q < L
        · have hlt' : 64 * (q : Int) < L := by omega
          obtain ⟨W, rfl⟩ : ∃ y, y = wr := ⟨_, rfl⟩
          go_wp2_with fail
          clear y0 y1 y2 y3
          refine wp_region_any (by kernel_rfl) ?_
          refine wpAny_slotsV (fun _ a b => Below a.heap.size a b) (frame := (fun (c0 c1 c2 c3 c4 c5 c6 c7 c8 c9 c10 c11 c12 c13 c14 c15 c16 c17 c18 c19 c20 c21 c22 c23 c24 c25 c26 c27 c28 c29 c30 c31 c32 c33 c34 c35 c36 c37 c38 c39 c40 c41 c42 c43 c44 c45 c54 c55 c56 c57 c58 c59 c60 c61 c62 c63 c64 c65 c66 c67 c68 c69 c70 c71 c72 c73 c74 c75 c76 c77 c78 c79 c80 c81 c82 c83 c84 c85 c86 c87 c88 c89 c90 c91 : Value) => fun (t : Nat → Value) => ({ tmps := List.toArray (c0 :: c1 :: c2 :: c3 :: c4 :: c5 :: c6 :: c7 :: c8 :: c9 :: c10 :: c11 :: c12 :: c13 :: c14 :: c15 :: c16 :: c17 :: c18 :: c19 :: c20 :: c21 :: c22 :: c23 :: c24 :: c25 :: c26 :: c27 :: c28 :: c29 :: c30 :: c31 :: c32 :: c33 :: c34 :: c35 :: c36 :: c37 :: c38 :: c39 :: c40 :: c41 :: c42 :: c43 :: c44 :: c45 :: t 0 :: t 1 :: t 2 :: t 3 :: t 4 :: t 5 :: t 6 :: t 7 :: c54 :: c55 :: c56 :: c57 :: c58 :: c59 :: c60 :: c61 :: c62 :: c63 :: c64 :: c65 :: c66 :: c67 :: c68 :: c69 :: c70 :: c71 :: c72 :: c73 :: c74 :: c75 :: c76 :: c77 :: c78 :: c79 :: c80 :: c81 :: c82 :: c83 :: c84 :: c85 :: c86 :: c87 :: c88 :: c89 :: c90 :: c91 :: []), defers := [] } : Act)) _ _ _ _ _ _ _ _ _ _ _ _ _ _ _ _ _ _ _ _ _ _ _ _ _ _ _ _ _ _ _ _ _ _ _ _ _ _ _ _ _ _ _ _ _ _ _ _ _ _ _ _ _ _ _ _ _ _ _ _ _ _ _ _ _ _ _ _ _ _ _ _ _ _ _ _ _ _ _ _ _ _ _ _)
            (Ext := fun Ls u w' => ApX W [] Ls u w') (Good := fun i Ls w' v => if i = 0 then v = .agg #[.slice a5 l5 c5, .slice none 0 0, .int .i64 F5, .bool false] else if i = 1 then v = .int .i64 (q : Int) else if i = 2 then Rd2 w' v (rdZ Z5 [] F5 (q : Int)) else if i = 3 then v = .agg #[.slice a6 l6 c6, .slice none 0 0, .int .i64 F5, .bool false] else if i = 4 then v = .int .i64 (q : Int) else if i = 5 then Rd2 w' v (rdZ Z5 [] F5 (q : Int)) else if i = 6 then v = .bool true else if i = 7 then v = .bool false else True) ?hstab (by kernel_rfl) ?hop ?hdone _ _ ((fun (x0 x1 x2 x3 x4 x5 x6 x7 : Value) => fun (i : Nat) => if i = 0 then x0 else if i = 1 then x1 else if i = 2 then x2 else if i = 3 then x3 else if i = 4 then x4 else if i = 5 then x5 else if i = 6 then x6 else if i = 7 then x7 else undef) _ _ _ _ _ _ _ _) _ (by simp) ?ext ?start (by simp)
          case start => intro i hi h; exact absurd h (by rw [Array.getD_eq_getD_getElem?, Array.getElem?_replicate]; split <;> simp)
          case ext => exact (ApX.start W [] _ _ (fun i => by rw [Array.getD_eq_getD_getElem?, Array.getElem?_replicate]; split <;> rfl)).drew
          case hstab =>
            intro j Ls w9 w' i v hM _ _ h
            by_cases h2 : j = 2
            · subst h2
              simp at h ⊢
              exact h.below hM
            by_cases h5 : j = 5
            · subst h5
              simp at h ⊢
              exact h.below hM
            simp only [if_neg h2, if_neg h5] at h ⊢
            exact h
          case hop =>
            intro i o Ls t w' ho hLi hx hdep K hK
            have hi : i < 8 := (Array.getElem?_eq_some_iff.1 ho).1
            obtain rfl | rfl | rfl | rfl | rfl | rfl | rfl | rfl : i = 0 ∨ i = 1 ∨ i = 2 ∨ i = 3 ∨ i = 4 ∨ i = 5 ∨ i = 6 ∨ i = 7 := by omega
            all_goals (simp at ho; subst ho)
            · clear hdep
              obtain ⟨y0, y1, y2, y3⟩ := (HC5.out.next hx.below).cells
              have hK' := hK w' (.agg #[.slice a5 l5 c5, .slice none 0 0, .int .i64 F5, .bool false]) (by simp) (hx.step 0 _ (Below.refl _ _) (fun h => absurd h (by decide))) (Below.refl _ _)
              clear hK
              rw [if_pos (by rfl)]
              go_simp
              simpa [upd] using hK'
            · clear hdep
              have hK' := hK w' (.int .i64 (q : Int)) (by simp) (hx.step 1 _ (Below.refl _ _) (fun h => absurd h (by decide))) (Below.refl _ _)
              clear hK
              rw [if_pos (by rfl)]
              go_simp
              simpa [upd] using hK'
            · have d0 : t 0 = .agg #[.slice a5 l5 c5, .slice none 0 0, .int .i64 F5, .bool false] := by simpa using (hdep ⟨0, .data⟩ (by simp) rfl).2
              have d1 : t 1 = .int .i64 (q : Int) := by simpa using (hdep ⟨1, .data⟩ (by simp) rfl).2
              clear hdep
              have A := ird_any (.agg #[.slice a5 l5 c5, .slice none 0 0, .int .i64 F5, .bool false]) Z5 [] F5 (q : Int) false w' (HC5.out.next hx.below).at_ HZ5.out (by simp) (by simp)
              have hK' : ∀ ww v, Rd2 ww v (rdZ Z5 [] F5 (q : Int)) → Below w'.heap.size w' ww → K _ ww := fun ww v hv hb => hK ww v (by simpa using hv) (hx.step 2 v hb (fun h => absurd h (by decide))) hb
              clear hK
              rw [if_pos (by rfl)]
              go_simp
              try simp only [d0, d1]
              refine A.mono ?_
              rintro e w9 ⟨v9, rfl, ⟨a9, c9, rfl, h9, _, _⟩, hb9⟩
              have hK2 := hK' w9 _ ⟨a9, c9, rfl, h9⟩ hb9
              clear hK' A h9 hb9
              go_simp
              simpa [upd, d0, d1] using hK2
            · clear hdep
              obtain ⟨y0, y1, y2, y3⟩ := (HC6.out.next hx.below).cells
              have hK' := hK w' (.agg #[.slice a6 l6 c6, .slice none 0 0, .int .i64 F5, .bool false]) (by simp) (hx.step 3 _ (Below.refl _ _) (fun h => absurd h (by decide))) (Below.refl _ _)
              clear hK
              rw [if_pos (by rfl)]
              go_simp
              simpa [upd] using hK'
            · clear hdep
              have hK' := hK w' (.int .i64 (q : Int)) (by simp) (hx.step 4 _ (Below.refl _ _) (fun h => absurd h (by decide))) (Below.refl _ _)
              clear hK
              rw [if_pos (by rfl)]
              go_simp
              simpa [upd] using hK'
            · have d3 : t 3 = .agg #[.slice a6 l6 c6, .slice none 0 0, .int .i64 F5, .bool false] := by simpa using (hdep ⟨3, .data⟩ (by simp) rfl).2
              have d4 : t 4 = .int .i64 (q : Int) := by simpa using (hdep ⟨4, .data⟩ (by simp) rfl).2
              clear hdep
              have A := srd_any (.agg #[.slice a6 l6 c6, .slice none 0 0, .int .i64 F5, .bool false]) Z5 [] F5 (q : Int) false w' (HC6.out.next hx.below).at_ HZ5.out (by simp) (by simp)
              have hK' : ∀ ww v, Rd2 ww v (rdZ Z5 [] F5 (q : Int)) → Below w'.heap.size w' ww → K _ ww := fun ww v hv hb => hK ww v (by simpa using hv) (hx.step 5 v hb (fun h => absurd h (by decide))) hb
              clear hK
              rw [if_pos (by rfl)]
              go_simp
              try simp only [d3, d4]
              refine A.mono ?_
              rintro e w9 ⟨v9, rfl, ⟨a9, c9, rfl, h9, _, _⟩, hb9⟩
              have hK2 := hK' w9 _ ⟨a9, c9, rfl, h9⟩ hb9
              clear hK' A h9 hb9
              go_simp
              simpa [upd, d3, d4] using hK2
            · have f2 : Rd2 w' (t 2) (rdZ Z5 [] F5 (q : Int)) := by simpa using (hdep ⟨2, .data⟩ (by simp) rfl).2
              have f5 : Rd2 w' (t 5) (rdZ Z5 [] F5 (q : Int)) := by simpa using (hdep ⟨5, .data⟩ (by simp) rfl).2
              clear hdep
              refine Exists.elim f2 fun aa h => ?_
              obtain ⟨cc1, d2, ha⟩ := h
              refine Exists.elim f5 fun ab h => ?_
              obtain ⟨cc2, d5, hb'⟩ := h
              have A := lwE_any aa ab _ cc1 cc2 (rdZ Z5 [] F5 (q : Int)) w' rfl ha hb'
              have hK' := hK w' (.bool true) (by simp) (hx.step 6 _ (Below.refl _ _) (fun h => absurd h (by decide))) (Below.refl _ _)
              clear hK
              rw [if_pos (by rfl)]
              go_simp
              try simp only [d2, d5]
              refine A.mono ?_
              rintro e w9 ⟨rfl, h9⟩
              subst h9
              clear A
              go_simp
              simpa [upd, d2, d5] using hK'
            · have d6 : t 6 = .bool true := by simpa using (hdep ⟨6, .data⟩ (by simp) rfl).2
              clear hdep
              have hK' := hK w' (.bool false) (by simp) (hx.step 7 _ (Below.refl _ _) (fun h => absurd h (by decide))) (Below.refl _ _)
              clear hK
              rw [if_pos (by rfl)]
              go_simp
              simpa [upd, d6] using hK'
          case hdone =>
            intro Ls t w9 hx hg
            have e7 : t 7 = .bool false := by simpa using hg 7 (by decide)
            have HL9 := hid_ofD (HLC.out.next hx.below)
            have H59 := hid_ofD (HC5.out.next hx.below)
            have H69 := hid_ofD (HC6.out.next hx.below)
            clear hg hx HLC HC5 HC6
            simp only [e7]
            clear e7
            go_wp2
            go_roundw
            case rel => exact ⟨q + 1, by go_num, HL9.out, H59.out, H69.out, by omega⟩
            case measure => simp [intOf]; omega
        · have hlt' : ¬ (64 * (q : Int) < L) := by omega
          obtain ⟨W, rfl⟩ : ∃ y, y = wr := ⟨_, rfl⟩
          clear HC5 HC6
          go_wp2_with fail
          clear y0 y1 y2 y3
          refine wp_region_any (by kernel_rfl) ?_
          refine wpAny_slotsV (fun _ a b => Below a.heap.size a b) (frame := (fun (c0 c1 c2 c3 c4 c5 c6 c7 c8 c9 c10 c11 c12 c13 c14 c15 c16 c17 c18 c19 c20 c21 c22 c23 c24 c25 c26 c27 c28 c29 c30 c31 c32 c33 c34 c35 c36 c37 c38 c39 c40 c41 c42 c43 c44 c45 c46 c47 c48 c49 c50 c51 c52 c53 c62 c63 c64 c65 c66 c67 c68 c69 c70 c71 c72 c73 c74 c75 c76 c77 c78 c79 c80 c81 c82 c83 c84 c85 c86 c87 c88 c89 c90 c91 : Value) => fun (t : Nat → Value) => ({ tmps := List.toArray (c0 :: c1 :: c2 :: c3 :: c4 :: c5 :: c6 :: c7 :: c8 :: c9 :: c10 :: c11 :: c12 :: c13 :: c14 :: c15 :: c16 :: c17 :: c18 :: c19 :: c20 :: c21 :: c22 :: c23 :: c24 :: c25 :: c26 :: c27 :: c28 :: c29 :: c30 :: c31 :: c32 :: c33 :: c34 :: c35 :: c36 :: c37 :: c38 :: c39 :: c40 :: c41 :: c42 :: c43 :: c44 :: c45 :: c46 :: c47 :: c48 :: c49 :: c50 :: c51 :: c52 :: c53 :: t 0 :: t 1 :: t 2 :: t 3 :: t 4 :: t 5 :: t 6 :: t 7 :: c62 :: c63 :: c64 :: c65 :: c66 :: c67 :: c68 :: c69 :: c70 :: c71 :: c72 :: c73 :: c74 :: c75 :: c76 :: c77 :: c78 :: c79 :: c80 :: c81 :: c82 :: c83 :: c84 :: c85 :: c86 :: c87 :: c88 :: c89 :: c90 :: c91 :: []), defers := [] } : Act)) _ _ _ _ _ _ _ _ _ _ _ _ _ _ _ _ _ _ _ _ _ _ _ _ _ _ _ _ _ _ _ _ _ _ _ _ _ _ _ _ _ _ _ _ _ _ _ _ _ _ _ _ _ _ _ _ _ _ _ _ _ _ _ _ _ _ _ _ _ _ _ _ _ _ _ _ _ _ _ _ _ _ _ _)
            (Ext := fun Ls u w' => ApX W [] Ls u w') (Good := fun i Ls w' v => if i = 0 then v = .agg #[.slice da L dc, .slice ca M cc, .int .i64 f, .bool d] else if i = 1 then v = .agg #[.slice none 0 0, .int .i64 (-1), .int .i64 0] else if i = 2 then Dk2 w' v zs else if i = 3 then Rd2 w' v zs else if i = 4 then v = .pointer (some ⟨D, 0, none⟩) else if i = 5 then v = .slice da L dc else if i = 6 then v = .bool true else if i = 7 then v = .bool false else True) ?hstab (by kernel_rfl) ?hop ?hdone _ _ ((fun (x0 x1 x2 x3 x4 x5 x6 x7 : Value) => fun (i : Nat) => if i = 0 then x0 else if i = 1 then x1 else if i = 2 then x2 else if i = 3 then x3 else if i = 4 then x4 else if i = 5 then x5 else if i = 6 then x6 else if i = 7 then x7 else undef) _ _ _ _ _ _ _ _) _ (by simp) ?ext ?start (by simp)
          case start => intro i hi h; exact absurd h (by rw [Array.getD_eq_getD_getElem?, Array.getElem?_replicate]; split <;> simp)
          case ext => exact (ApX.start W [] _ _ (fun i => by rw [Array.getD_eq_getD_getElem?, Array.getElem?_replicate]; split <;> rfl)).drew
          case hstab =>
            intro j Ls w9 w' i v hM _ _ h
            by_cases h2 : j = 2
            · subst h2
              simp at h ⊢
              exact h.below hM
            by_cases h3 : j = 3
            · subst h3
              simp at h ⊢
              exact h.below hM
            simp only [if_neg h2, if_neg h3] at h ⊢
            exact h
          case hop =>
            intro i o Ls t w' ho hLi hx hdep K hK
            have hi : i < 8 := (Array.getElem?_eq_some_iff.1 ho).1
            obtain rfl | rfl | rfl | rfl | rfl | rfl | rfl | rfl : i = 0 ∨ i = 1 ∨ i = 2 ∨ i = 3 ∨ i = 4 ∨ i = 5 ∨ i = 6 ∨ i = 7 := by omega
            all_goals (simp at ho; subst ho)
            · clear hdep
              obtain ⟨⟨y0, y1, y2, y3⟩, _⟩ := (HLC.out.next hx.below).cells
              have hK' := hK w' (.agg #[.slice da L dc, .slice ca M cc, .int .i64 f, .bool d]) (by simp) (hx.step 0 _ (Below.refl _ _) (fun h => absurd h (by decide))) (Below.refl _ _)
              clear hK
              rw [if_pos (by rfl)]
              go_simp
              simpa [upd] using hK'
            · clear hdep
              have hK' := hK w' (.agg #[.slice none 0 0, .int .i64 (-1), .int .i64 0]) (by simp) (hx.step 1 _ (Below.refl _ _) (fun h => absurd h (by decide))) (Below.refl _ _)
              clear hK
              rw [if_pos (by rfl)]
              go_simp
              simpa [upd] using hK'
            · have d0 : t 0 = .agg #[.slice da L dc, .slice ca M cc, .int .i64 f, .bool d] := by simpa using (hdep ⟨0, .data⟩ (by simp) rfl).2
              have d1 : t 1 = .agg #[.slice none 0 0, .int .i64 (-1), .int .i64 0] := by simpa using (hdep ⟨1, .data⟩ (by simp) rfl).2
              clear hdep
              have A := hid_ofD (icr_any (.agg #[.slice da L dc, .slice ca M cc, .int .i64 f, .bool d]) (.agg #[.slice none 0 0, .int .i64 (-1), .int .i64 0]) zs ps f d [] (-1) 0 w' (HLC.out.next hx.below).dx.at_ ⟨none, 0, rfl, .inl rfl⟩ (by have := HBD.out.1; omega) (by have := HBD.out.2.1; omega) (fun i => by have := HBD.out.2.2.1 i; omega) (by simp))
              rw [crZ_none HVA.out] at A
              have A := A.out
              have hK' : ∀ ww v, Dk2 ww v zs → Below w'.heap.size w' ww → K _ ww := fun ww v hv hb => hK ww v (by simpa using hv) (hx.step 2 v hb (fun h => absurd h (by decide))) hb
              clear hK
              rw [if_pos (by rfl)]
              go_simp
              try simp only [d0, d1]
              refine A.mono ?_
              rintro e w9 ⟨v9, rfl, h9, hb9⟩
              have hK2 := hK' w9 _ (dk_pl h9 hb9.size) hb9
              clear hK' A h9 hb9
              go_simp
              simpa [upd, d0, d1] using hK2
            · have f2 : Dk2 w' (t 2) zs := by simpa using (hdep ⟨2, .data⟩ (by simp) rfl).2
              clear hdep
              refine Exists.elim f2 fun aa h => ?_
              obtain ⟨cc1, bx, bm, bk, ff, dd, d2, ha⟩ := h
              have hfd := fun w => run_fd w aa zs.length cc1 bx bm bk ff dd
              have hK' := hK w' (.slice aa zs.length cc1) (by simpa using ⟨aa, cc1, rfl, ha⟩) (hx.step 3 _ (Below.refl _ _) (fun h => absurd h (by decide))) (Below.refl _ _)
              clear hK
              rw [if_pos (by rfl)]
              go_simp
              simpa [upd, d2, hfd] using hK'
            · clear hdep
              have hK' := hK w' (.pointer (some ⟨D, 0, none⟩)) (by simp) (hx.step 4 _ (Below.refl _ _) (fun h => absurd h (by decide))) (Below.refl _ _)
              clear hK
              rw [if_pos (by rfl)]
              go_simp
              simpa [upd] using hK'
            · have d4 : t 4 = .pointer (some ⟨D, 0, none⟩) := by simpa using (hdep ⟨4, .data⟩ (by simp) rfl).2
              clear hdep
              obtain ⟨⟨y0, y1, y2, y3⟩, _⟩ := (HLC.out.next hx.below).cells
              have hK' := hK w' (.slice da L dc) (by simp) (hx.step 5 _ (Below.refl _ _) (fun h => absurd h (by decide))) (Below.refl _ _)
              clear hK
              rw [if_pos (by rfl)]
              go_simp
              simpa [upd, d4] using hK'
            · have f3 : Rd2 w' (t 3) zs := by simpa using (hdep ⟨3, .data⟩ (by simp) rfl).2
              have d5 : t 5 = .slice da L dc := by simpa using (hdep ⟨5, .data⟩ (by simp) rfl).2
              clear hdep
              refine Exists.elim f3 fun aa h => ?_
              obtain ⟨cc1, d3, ha⟩ := h
              rw [HLM.out.1] at d3
              have hd' : At .u8 w' da zs := by
                obtain ⟨da', dc', ca', cc', E, e, h1, _⟩ := (HLC.out.next hx.below).dx
                simp at e
                obtain ⟨⟨rfl, _⟩, _⟩ := e
                exact h1
              have A := lwE_any aa da L cc1 dc zs w' HLM.out.1 ha hd'
              have hK' := hK w' (.bool true) (by simp) (hx.step 6 _ (Below.refl _ _) (fun h => absurd h (by decide))) (Below.refl _ _)
              clear hK
              rw [if_pos (by rfl)]
              go_simp
              try simp only [d5, d3]
              refine A.mono ?_
              rintro e w9 ⟨rfl, h9⟩
              subst h9
              clear A
              go_simp
              simpa [upd, d5, d3] using hK'
            · have d6 : t 6 = .bool true := by simpa using (hdep ⟨6, .data⟩ (by simp) rfl).2
              clear hdep
              have hK' := hK w' (.bool false) (by simp) (hx.step 7 _ (Below.refl _ _) (fun h => absurd h (by decide))) (Below.refl _ _)
              clear hK
              rw [if_pos (by rfl)]
              go_simp
              simpa [upd, d6] using hK'
          case hdone =>
            intro Ls t w9 hx hg
            have e7 : t 7 = .bool false := by simpa using hg 7 (by decide)
            have HL9 := hid_ofD (HLC.out.next hx.below)
            clear hg hx HLC
            simp only [e7]
            clear e7
            obtain ⟨⟨y0, y1, y2, y3⟩, _⟩ := HL9.out.cells
            have hbn : Below w9.heap.size w9 ((w9.alloc (.cells #[.slice none 0 0, .int .i64 0, .int .i64 0] 44)).setRow w9.heap.size #[.slice none 0 0, .int .i64 (-1), .int .i64 0]) := ((Below.refl _ _).alloc (Nat.le_refl _) _).trans ((Wr.setRow w9.heap.size (w9.alloc (.cells #[.slice none 0 0, .int .i64 0, .int .i64 0] 44)) #[.slice none 0 0, .int .i64 (-1), .int .i64 0]).below (Nat.le_refl _))
            have HN9 : Hid ((w9.alloc (.cells #[.slice none 0 0, .int .i64 0, .int .i64 0] 44)).heap[w9.heap.size]? = some (.cells #[.slice none 0 0, .int .i64 0, .int .i64 0] 44 (0, 0))) := heap_alloc_new w9 _
            have HB10 := hid_ofD hbn
            have HK10 : Hid (((w9.alloc (.cells #[.slice none 0 0, .int .i64 0, .int .i64 0] 44)).setRow w9.heap.size #[.slice none 0 0, .int .i64 (-1), .int .i64 0]).heap[w9.heap.size]? = some (.cells #[.slice none 0 0, .int .i64 (-1), .int .i64 0] 44 (0, 0))) := setRow_heap _ _ _ _ _ _ HN9.out
            clear hbn y0 y1 y2 y3
            go_wp2_with (first
              | (refine wpList_store_row rfl 44 (.tmp 8) (.tmp 62) rfl w9.heap.size #[.slice none 0 0, .int .i64 (-1), .int .i64 0] rfl rfl 44 _ HN9.out HSC.out rfl (all3c _ _ _ _ _) ?_)
              | fail)
            clear HN9
            generalize (w9.alloc (.cells #[.slice none 0 0, .int .i64 0, .int .i64 0] 44)).setRow w9.heap.size #[.slice none 0 0, .int .i64 (-1), .int .i64 0] = w10 at *
            obtain ⟨K8, hK8⟩ : ∃ K8, K8 = w9.heap.size := ⟨_, rfl⟩
            rw [← hK8] at HK10 ⊢
            have HKE := hid_ofD hK8
            clear hK8
            have hM7 : M ≤ 7 := by have := HBD.out.2.1; have := HLM.out.2.1; omega
            have hlt10 : K8 < w10.heap.size := (Array.getElem?_eq_some_iff.1 HK10.out).1
            go_wp2
            go_loopw [9] (fun i y => ∃ (q : Nat) (xv : Value), q ≤ M ∧ i = .int .i64 q ∧ Below w9.heap.size w9 y ∧ y.heap[K8]? = some (.cells #[xv, .int .i64 (-1), .int .i64 0] 44 (0, 0)) ∧ BO y w10.heap.size xv (List.replicate q true) ∧ w10.heap.size ≤ y.heap.size) (fun i _ => M - (intOf i).toNat)
            case atStart => exact ⟨0, _, Nat.zero_le _, rfl, HB10.out, HK10.out, ⟨rfl, .inl ⟨rfl, rfl⟩⟩, Nat.le_refl _⟩
            case round =>
              clear HB10 HK10
              obtain ⟨q, xv, hqM, rfl, h1, h2, h3, h4⟩ := hrel
              obtain ⟨xg, xh, rfl, hba⟩ := h3.sl
              rw [List.length_replicate] at h2 h3
              obtain ⟨W, rfl⟩ : ∃ y, y = wr := ⟨_, rfl⟩
              have HLC := hid_ofD (HL9.out.next h1)
              have HB9 := hid_ofD h1
              have HK8 : Hid (K8 < W.heap.size ∧ W.heap[K8]? = some (.cells #[.slice xg q xh, .int .i64 (-1), .int .i64 0] 44 (0, 0))) := ⟨(Array.getElem?_eq_some_iff.1 h2).1, h2⟩
              have HBO := hid_ofD h3
              have HBA := hid_ofD hba
              obtain ⟨⟨y0, y1, y2, y3⟩, _⟩ := HLC.out.cells
              have z0 : W.cell? ⟨K8, 0, none⟩ = some (.slice xg q xh) := cell_of_row _ _ _ _ _ _ h2
              clear h1 h2 h3 hba
              by_cases hlt : q < M
              · have hlt' : (q : Int) < M := by omega
                have hbn : Below W.heap.size W (W.alloc (.cells #[.bool true] 4)) := (Below.refl _ _).alloc (Nat.le_refl _) _
                have HBN := hid_ofD hbn
                have HBO2 : Hid (BO (W.alloc (.cells #[.bool true] 4)) w10.heap.size (.slice xg q xh) (List.replicate q true)) := HBO.out.keep (fun k e => hbn.block k (HBO.out.lt k e).2.1)
                have HNA : Hid ((W.alloc (.cells #[.bool true] 4)).heap[W.heap.size]? = some (.cells #[.bool true] 4 (0, 0))) := heap_alloc_new W _
                have HSZ : Hid (w10.heap.size ≤ (W.alloc (.cells #[.bool true] 4)).heap.size) := by show _ ≤ _; have := hbn.size; omega
                have HRL : Hid ((List.replicate q true).length ≤ 1048576) := by show _ ≤ _; rw [List.length_replicate]; omega
                clear hbn
                go_wp2_with (at_builtin; refine wpList_appBo _ rfl (.tmp 71) (.tmp 72) rfl w10.heap.size (.slice xg q xh) (List.replicate q true) true rfl HBO2.out W.heap.size rfl HNA.out HSZ.out HRL.out ?_)
                intro v' w' hP' hg'
                obtain ⟨ng, nh, e', hba'⟩ := hP'.sl
                have hnl : (List.replicate q true ++ [true]).length = q + 1 := by simp
                have hrep : List.replicate q true ++ [true] = List.replicate (q + 1) true := by rw [List.replicate_succ']
                rw [hnl] at e'
                subst e'
                rw [hrep] at hP'
                have hkr : w'.heap[K8]? = some (.cells #[.slice xg q xh, .int .i64 (-1), .int .i64 0] 44 (0, 0)) := by
                  rw [hg'.block K8 (by have := HBN.out.size; have := HK8.out.1; omega) (fun e => by obtain ⟨_, _, cur, hh⟩ := HBO2.out.lt K8 e.symm; rw [HBN.out.block K8 HK8.out.1, HK8.out.2] at hh; simp at hh), HBN.out.block K8 HK8.out.1]; exact HK8.out.2
                have z0' : w'.cell? ⟨K8, 0, none⟩ = some (.slice xg q xh) := cell_of_row _ _ _ _ _ _ hkr
                have zf' := frozen_of_row w' K8 0 _ _ hkr
                have HKR : Hid ((w'.setCell ⟨K8, 0, none⟩ (.slice ng (q + 1) nh)).heap[K8]? = some (.cells #[.slice ng (q + 1) nh, .int .i64 (-1), .int .i64 0] 44 (0, 0))) := heap_setCell_same w' K8 0 _ _ _ hkr
                have HPO : Hid (BO (w'.setCell ⟨K8, 0, none⟩ (.slice ng (q + 1) nh)) w10.heap.size (.slice ng (q + 1) nh) (List.replicate (q + 1) true)) := hP'.keep (fun k e => heap_setCell_other w' ⟨K8, 0, none⟩ k _ (fun ek => by obtain ⟨h0, _, cur, hh⟩ := hP'.lt k e; rw [ek] at h0; simp only at h0; omega))
                have HBW : Hid (Below w9.heap.size w9 (w'.setCell ⟨K8, 0, none⟩ (.slice ng (q + 1) nh)) ∧ w10.heap.size ≤ (w'.setCell ⟨K8, 0, none⟩ (.slice ng (q + 1) nh)).heap.size) := by
                  have hke := HKE.out
                  have hs9 := HB9.out.size
                  have hbs := HBN.out.size
                  have hgs := hg'.size
                  have hs : (w'.setCell ⟨K8, 0, none⟩ (.slice ng (q + 1) nh)).heap.size = w'.heap.size := by simp [World.setCell]
                  have hb2 : Below w9.heap.size (W.alloc (.cells #[.bool true] 4)) (w'.setCell ⟨K8, 0, none⟩ (.slice ng (q + 1) nh)) := by
                    refine ⟨hg'.os, hg'.tape, hg'.output, by rw [hs]; exact hgs, fun k hk => ?_⟩
                    rw [heap_setCell_other w' ⟨K8, 0, none⟩ k _ (by show k ≠ K8; omega)]
                    exact hg'.block k (by omega) (fun e => by have := (HBO2.out.lt k e.symm).1; omega)
                  exact ⟨(HB9.out.trans (HBN.out.mono hs9)).trans hb2, by rw [hs]; omega⟩
                clear hP' hg' hba' hnl hrep hkr HBO HBO2 HNA HBN HBA HLC HB9
                go_wp2
                go_roundw
                case rel => exact ⟨q + 1, _, by omega, by go_num, HBW.out.1, HKR.out, HPO.out, HBW.out.2⟩
                case measure => simp [intOf]; omega
              · obtain rfl : q = M := by omega
                have hlt' : ¬ ((q : Int) < q) := by omega
                have HCA : Hid (CAt W (.agg #[.slice xg q xh, .int .i64 (-1), .int .i64 0]) (List.replicate ps.length true) (-1) 0) := ⟨xg, xh, by rw [List.length_replicate, HLM.out.2.1], by rw [HLM.out.2.1]; exact HBA.out⟩
                clear z0 HBO HBA HB9 hqM hlt hlt10 h4 HKE HL9
                cases d with
                | true =>
                  go_wp2_with fail
                  clear y0 y1 y2 y3
                  refine wp_region_any (by kernel_rfl) ?_
                  refine wpAny_slotsV (fun _ a b => Below a.heap.size a b) (frame := (fun (c0 c1 c3 c4 c5 c6 c7 c8 c9 c10 c11 c12 c13 c14 c15 c16 c17 c18 c19 c20 c21 c22 c23 c24 c25 c26 c27 c28 c29 c30 c31 c32 c33 c34 c35 c36 c37 c38 c39 c40 c41 c42 c43 c44 c45 c46 c47 c48 c49 c50 c51 c52 c53 c54 c55 c56 c57 c58 c59 c60 c61 c62 c63 c64 c65 c66 c67 c68 c69 c70 c71 c72 c73 c74 : Value) => fun (t : Nat → Value) => ({ tmps := List.toArray (c0 :: c1 :: t 17 :: c3 :: c4 :: c5 :: c6 :: c7 :: c8 :: c9 :: c10 :: c11 :: c12 :: c13 :: c14 :: c15 :: c16 :: c17 :: c18 :: c19 :: c20 :: c21 :: c22 :: c23 :: c24 :: c25 :: c26 :: c27 :: c28 :: c29 :: c30 :: c31 :: c32 :: c33 :: c34 :: c35 :: c36 :: c37 :: c38 :: c39 :: c40 :: c41 :: c42 :: c43 :: c44 :: c45 :: c46 :: c47 :: c48 :: c49 :: c50 :: c51 :: c52 :: c53 :: c54 :: c55 :: c56 :: c57 :: c58 :: c59 :: c60 :: c61 :: c62 :: c63 :: c64 :: c65 :: c66 :: c67 :: c68 :: c69 :: c70 :: c71 :: c72 :: c73 :: c74 :: t 0 :: t 1 :: t 2 :: t 3 :: t 4 :: t 5 :: t 6 :: t 7 :: t 8 :: t 9 :: t 10 :: t 11 :: t 12 :: t 13 :: t 14 :: t 15 :: t 16 :: []), defers := [] } : Act)) _ _ _ _ _ _ _ _ _ _ _ _ _ _ _ _ _ _ _ _ _ _ _ _ _ _ _ _ _ _ _ _ _ _ _ _ _ _ _ _ _ _ _ _ _ _ _ _ _ _ _ _ _ _ _ _ _ _ _ _ _ _ _ _ _ _ _ _ _ _ _ _ _ _)
                    (Ext := fun Ls u w' => ApX W [] Ls u w') (Good := fun i Ls w' v => if i = 0 then v = .pointer (some ⟨D, 3, none⟩) else if i = 1 then v = .bool true else if i = 2 then v = .bool true else if i = 3 then True else if i = 4 then True else if i = 5 then True else if i = 6 then v = .bool true else if i = 7 then v = .bool true else if i = 8 then True else if i = 9 then True else if i = 10 then True else if i = 11 then True else if i = 12 then True else if i = 13 then True else if i = 14 then True else if i = 15 then True else if i = 16 then v = .bool true else if i = 17 then v = .bool true else True) ?hstab (by kernel_rfl) ?hop ?hdone _ _ ((fun (x0 x1 x2 x3 x4 x5 x6 x7 x8 x9 x10 x11 x12 x13 x14 x15 x16 x17 : Value) => fun (i : Nat) => if i = 0 then x0 else if i = 1 then x1 else if i = 2 then x2 else if i = 3 then x3 else if i = 4 then x4 else if i = 5 then x5 else if i = 6 then x6 else if i = 7 then x7 else if i = 8 then x8 else if i = 9 then x9 else if i = 10 then x10 else if i = 11 then x11 else if i = 12 then x12 else if i = 13 then x13 else if i = 14 then x14 else if i = 15 then x15 else if i = 16 then x16 else if i = 17 then x17 else undef) _ _ _ _ _ _ _ _ _ _ _ _ _ _ _ _ _ _) _ (by simp) ?ext ?start (by simp)
                  case start => intro i hi h; exact absurd h (by rw [Array.getD_eq_getD_getElem?, Array.getElem?_replicate]; split <;> simp)
                  case ext => exact (ApX.start W [] _ _ (fun i => by rw [Array.getD_eq_getD_getElem?, Array.getElem?_replicate]; split <;> rfl)).drew
                  case hstab =>
                    intro j Ls w9 w' i v hM _ _ h
                    exact h
                  case hop =>
                    intro i o Ls t w' ho hLi hx hdep K hK
                    have hi : i < 18 := (Array.getElem?_eq_some_iff.1 ho).1
                    obtain rfl | rfl | rfl | rfl | rfl | rfl | rfl | rfl | rfl | rfl | rfl | rfl | rfl | rfl | rfl | rfl | rfl | rfl : i = 0 ∨ i = 1 ∨ i = 2 ∨ i = 3 ∨ i = 4 ∨ i = 5 ∨ i = 6 ∨ i = 7 ∨ i = 8 ∨ i = 9 ∨ i = 10 ∨ i = 11 ∨ i = 12 ∨ i = 13 ∨ i = 14 ∨ i = 15 ∨ i = 16 ∨ i = 17 := by omega
                    all_goals (simp at ho; subst ho)
                    · clear hdep
                      have hK' := hK w' (.pointer (some ⟨D, 3, none⟩)) (by simp) (hx.step 0 _ (Below.refl _ _) (fun h => absurd h (by decide))) (Below.refl _ _)
                      clear hK
                      rw [if_pos (by rfl)]
                      go_simp
                      simpa [upd] using hK'
                    · have d0 : t 0 = .pointer (some ⟨D, 3, none⟩) := by simpa using (hdep ⟨0, .data⟩ (by simp) rfl).2
                      clear hdep
                      obtain ⟨⟨y0, y1, y2, y3⟩, _⟩ := (HLC.out.next hx.below).cells
                      have hK' := hK w' (.bool true) (by simp) (hx.step 1 _ (Below.refl _ _) (fun h => absurd h (by decide))) (Below.refl _ _)
                      clear hK
                      rw [if_pos (by rfl)]
                      go_simp
                      simpa [upd, d0] using hK'
                    · have d1 : t 1 = .bool true := by simpa using (hdep ⟨1, .data⟩ (by simp) rfl).2
                      clear hdep
                      have hK' := hK w' (.bool true) (by simp) (hx.step 2 _ (Below.refl _ _) (fun h => absurd h (by decide))) (Below.refl _ _)
                      clear hK
                      rw [if_pos (by rfl)]
                      go_simp
                      simpa [upd, d1] using hK'
                    · have d2 : t 2 = .bool true := by simpa using (hdep ⟨2, .guard⟩ (by simp) rfl).2
                      clear hdep
                      have hK' := hK w' undef (by simp) (hx.step 3 _ (Below.refl _ _) (fun h => absurd h (by decide))) (Below.refl _ _)
                      clear hK
                      rw [if_neg (by simp [Region.wanted, yielded, d2])]
                      simpa [upd, Act.put] using hK'
                    · have d2 : t 2 = .bool true := by simpa using (hdep ⟨2, .guard⟩ (by simp) rfl).2
                      clear hdep
                      have hK' := hK w' undef (by simp) (hx.step 4 _ (Below.refl _ _) (fun h => absurd h (by decide))) (Below.refl _ _)
                      clear hK
                      rw [if_neg (by simp [Region.wanted, yielded, d2])]
                      simpa [upd, Act.put] using hK'
                    · have d2 : t 2 = .bool true := by simpa using (hdep ⟨2, .guard⟩ (by simp) rfl).2
                      clear hdep
                      have hK' := hK w' undef (by simp) (hx.step 5 _ (Below.refl _ _) (fun h => absurd h (by decide))) (Below.refl _ _)
                      clear hK
                      rw [if_neg (by simp [Region.wanted, yielded, d2])]
                      simpa [upd, Act.put] using hK'
                    · have d2 : t 2 = .bool true := by simpa using (hdep ⟨2, .data⟩ (by simp) rfl).2
                      clear hdep
                      have hK' := hK w' (.bool true) (by simp) (hx.step 6 _ (Below.refl _ _) (fun h => absurd h (by decide))) (Below.refl _ _)
                      clear hK
                      rw [if_pos (by rfl)]
                      go_simp
                      simpa [upd, d2] using hK'
                    · have d6 : t 6 = .bool true := by simpa using (hdep ⟨6, .data⟩ (by simp) rfl).2
                      clear hdep
                      have hK' := hK w' (.bool true) (by simp) (hx.step 7 _ (Below.refl _ _) (fun h => absurd h (by decide))) (Below.refl _ _)
                      clear hK
                      rw [if_pos (by rfl)]
                      go_simp
                      simpa [upd, d6] using hK'
                    · have d7 : t 7 = .bool true := by simpa using (hdep ⟨7, .guard⟩ (by simp) rfl).2
                      clear hdep
                      have hK' := hK w' undef (by simp) (hx.step 8 _ (Below.refl _ _) (fun h => absurd h (by decide))) (Below.refl _ _)
                      clear hK
                      rw [if_neg (by simp [Region.wanted, yielded, d7])]
                      simpa [upd, Act.put] using hK'
                    · have d7 : t 7 = .bool true := by simpa using (hdep ⟨7, .guard⟩ (by simp) rfl).2
                      clear hdep
                      have hK' := hK w' undef (by simp) (hx.step 9 _ (Below.refl _ _) (fun h => absurd h (by decide))) (Below.refl _ _)
                      clear hK
                      rw [if_neg (by simp [Region.wanted, yielded, d7])]
                      simpa [upd, Act.put] using hK'
                    · have d7 : t 7 = .bool true := by simpa using (hdep ⟨7, .guard⟩ (by simp) rfl).2
                      clear hdep
                      have hK' := hK w' undef (by simp) (hx.step 10 _ (Below.refl _ _) (fun h => absurd h (by decide))) (Below.refl _ _)
                      clear hK
                      rw [if_neg (by simp [Region.wanted, yielded, d7])]
                      simpa [upd, Act.put] using hK'
                    · have d7 : t 7 = .bool true := by simpa using (hdep ⟨7, .guard⟩ (by simp) rfl).2
                      clear hdep
                      have hK' := hK w' undef (by simp) (hx.step 11 _ (Below.refl _ _) (fun h => absurd h (by decide))) (Below.refl _ _)
                      clear hK
                      rw [if_neg (by simp [Region.wanted, yielded, d7])]
                      simpa [upd, Act.put] using hK'
                    · have d7 : t 7 = .bool true := by simpa using (hdep ⟨7, .guard⟩ (by simp) rfl).2
                      clear hdep
                      have hK' := hK w' undef (by simp) (hx.step 12 _ (Below.refl _ _) (fun h => absurd h (by decide))) (Below.refl _ _)
                      clear hK
                      rw [if_neg (by simp [Region.wanted, yielded, d7])]
                      simpa [upd, Act.put] using hK'
                    · have d7 : t 7 = .bool true := by simpa using (hdep ⟨7, .guard⟩ (by simp) rfl).2
                      clear hdep
                      have hK' := hK w' undef (by simp) (hx.step 13 _ (Below.refl _ _) (fun h => absurd h (by decide))) (Below.refl _ _)
                      clear hK
                      rw [if_neg (by simp [Region.wanted, yielded, d7])]
                      simpa [upd, Act.put] using hK'
                    · have d7 : t 7 = .bool true := by simpa using (hdep ⟨7, .guard⟩ (by simp) rfl).2
                      clear hdep
                      have hK' := hK w' undef (by simp) (hx.step 14 _ (Below.refl _ _) (fun h => absurd h (by decide))) (Below.refl _ _)
                      clear hK
                      rw [if_neg (by simp [Region.wanted, yielded, d7])]
                      simpa [upd, Act.put] using hK'
                    · have d7 : t 7 = .bool true := by simpa using (hdep ⟨7, .guard⟩ (by simp) rfl).2
                      clear hdep
                      have hK' := hK w' undef (by simp) (hx.step 15 _ (Below.refl _ _) (fun h => absurd h (by decide))) (Below.refl _ _)
                      clear hK
                      rw [if_neg (by simp [Region.wanted, yielded, d7])]
                      simpa [upd, Act.put] using hK'
                    · have d7 : t 7 = .bool true := by simpa using (hdep ⟨7, .data⟩ (by simp) rfl).2
                      clear hdep
                      have hK' := hK w' (.bool true) (by simp) (hx.step 16 _ (Below.refl _ _) (fun h => absurd h (by decide))) (Below.refl _ _)
                      clear hK
                      rw [if_pos (by rfl)]
                      go_simp
                      simpa [upd, d7] using hK'
                    · have d16 : t 16 = .bool true := by simpa using (hdep ⟨16, .data⟩ (by simp) rfl).2
                      clear hdep
                      have hK' := hK w' (.bool true) (by simp) (hx.step 17 _ (Below.refl _ _) (fun h => absurd h (by decide))) (Below.refl _ _)
                      clear hK
                      rw [if_pos (by rfl)]
                      go_simp
                      simpa [upd, d16] using hK'
                  case hdone =>
                    intro Ls t w9 hx hg
                    have e17 : t 17 = .bool true := by simpa using hg 17 (by decide)
                    have HBF := hid_ofD ((HLC.out.next hx.below).below)
                    clear hg hx HLC
                    simp only [e17]
                    clear e17
                    go_wp2
                    go_ret
                    exact ⟨rfl, HBF.out⟩
                | false =>
                  by_cases hf : f = 0
                  · subst hf
                    have hf0 : ((0 : Int) == 0) = true := rfl
                    have hf1 : decide ((0 : Int) = 0) = true := rfl
                    go_wp2_with fail
                    clear y0 y1 y2 y3
                    refine wp_region_any (by kernel_rfl) ?_
                    refine wpAny_slotsV (fun _ a b => Below a.heap.size a b) (frame := (fun (c0 c1 c3 c4 c5 c6 c7 c8 c9 c10 c11 c12 c13 c14 c15 c16 c17 c18 c19 c20 c21 c22 c23 c24 c25 c26 c27 c28 c29 c30 c31 c32 c33 c34 c35 c36 c37 c38 c39 c40 c41 c42 c43 c44 c45 c46 c47 c48 c49 c50 c51 c52 c53 c54 c55 c56 c57 c58 c59 c60 c61 c62 c63 c64 c65 c66 c67 c68 c69 c70 c71 c72 c73 c74 : Value) => fun (t : Nat → Value) => ({ tmps := List.toArray (c0 :: c1 :: t 17 :: c3 :: c4 :: c5 :: c6 :: c7 :: c8 :: c9 :: c10 :: c11 :: c12 :: c13 :: c14 :: c15 :: c16 :: c17 :: c18 :: c19 :: c20 :: c21 :: c22 :: c23 :: c24 :: c25 :: c26 :: c27 :: c28 :: c29 :: c30 :: c31 :: c32 :: c33 :: c34 :: c35 :: c36 :: c37 :: c38 :: c39 :: c40 :: c41 :: c42 :: c43 :: c44 :: c45 :: c46 :: c47 :: c48 :: c49 :: c50 :: c51 :: c52 :: c53 :: c54 :: c55 :: c56 :: c57 :: c58 :: c59 :: c60 :: c61 :: c62 :: c63 :: c64 :: c65 :: c66 :: c67 :: c68 :: c69 :: c70 :: c71 :: c72 :: c73 :: c74 :: t 0 :: t 1 :: t 2 :: t 3 :: t 4 :: t 5 :: t 6 :: t 7 :: t 8 :: t 9 :: t 10 :: t 11 :: t 12 :: t 13 :: t 14 :: t 15 :: t 16 :: []), defers := [] } : Act)) _ _ _ _ _ _ _ _ _ _ _ _ _ _ _ _ _ _ _ _ _ _ _ _ _ _ _ _ _ _ _ _ _ _ _ _ _ _ _ _ _ _ _ _ _ _ _ _ _ _ _ _ _ _ _ _ _ _ _ _ _ _ _ _ _ _ _ _ _ _ _ _ _ _)
                      (Ext := fun Ls u w' => ApX W [] Ls u w') (Good := fun i Ls w' v => if i = 0 then v = .pointer (some ⟨D, 3, none⟩) else if i = 1 then v = .bool false else if i = 2 then v = .bool false else if i = 3 then v = .pointer (some ⟨D, 2, none⟩) else if i = 4 then v = .int .i64 0 else if i = 5 then v = .bool true else if i = 6 then v = .bool true else if i = 7 then v = .bool true else if i = 8 then True else if i = 9 then True else if i = 10 then True else if i = 11 then True else if i = 12 then True else if i = 13 then True else if i = 14 then True else if i = 15 then True else if i = 16 then v = .bool true else if i = 17 then v = .bool true else True) ?hstab (by kernel_rfl) ?hop ?hdone _ _ ((fun (x0 x1 x2 x3 x4 x5 x6 x7 x8 x9 x10 x11 x12 x13 x14 x15 x16 x17 : Value) => fun (i : Nat) => if i = 0 then x0 else if i = 1 then x1 else if i = 2 then x2 else if i = 3 then x3 else if i = 4 then x4 else if i = 5 then x5 else if i = 6 then x6 else if i = 7 then x7 else if i = 8 then x8 else if i = 9 then x9 else if i = 10 then x10 else if i = 11 then x11 else if i = 12 then x12 else if i = 13 then x13 else if i = 14 then x14 else if i = 15 then x15 else if i = 16 then x16 else if i = 17 then x17 else undef) _ _ _ _ _ _ _ _ _ _ _ _ _ _ _ _ _ _) _ (by simp) ?ext ?start (by simp)
                    case start => intro i hi h; exact absurd h (by rw [Array.getD_eq_getD_getElem?, Array.getElem?_replicate]; split <;> simp)
                    case ext => exact (ApX.start W [] _ _ (fun i => by rw [Array.getD_eq_getD_getElem?, Array.getElem?_replicate]; split <;> rfl)).drew
                    case hstab =>
                      intro j Ls w9 w' i v hM _ _ h
                      exact h
                    case hop =>
                      intro i o Ls t w' ho hLi hx hdep K hK
                      have hi : i < 18 := (Array.getElem?_eq_some_iff.1 ho).1
                      obtain rfl | rfl | rfl | rfl | rfl | rfl | rfl | rfl | rfl | rfl | rfl | rfl | rfl | rfl | rfl | rfl | rfl | rfl : i = 0 ∨ i = 1 ∨ i = 2 ∨ i = 3 ∨ i = 4 ∨ i = 5 ∨ i = 6 ∨ i = 7 ∨ i = 8 ∨ i = 9 ∨ i = 10 ∨ i = 11 ∨ i = 12 ∨ i = 13 ∨ i = 14 ∨ i = 15 ∨ i = 16 ∨ i = 17 := by omega
                      all_goals (simp at ho; subst ho)
                      · clear hdep
                        have hK' := hK w' (.pointer (some ⟨D, 3, none⟩)) (by simp) (hx.step 0 _ (Below.refl _ _) (fun h => absurd h (by decide))) (Below.refl _ _)
                        clear hK
                        rw [if_pos (by rfl)]
                        go_simp
                        simpa [upd] using hK'
                      · have d0 : t 0 = .pointer (some ⟨D, 3, none⟩) := by simpa using (hdep ⟨0, .data⟩ (by simp) rfl).2
                        clear hdep
                        obtain ⟨⟨y0, y1, y2, y3⟩, _⟩ := (HLC.out.next hx.below).cells
                        have hK' := hK w' (.bool false) (by simp) (hx.step 1 _ (Below.refl _ _) (fun h => absurd h (by decide))) (Below.refl _ _)
                        clear hK
                        rw [if_pos (by rfl)]
                        go_simp
                        simpa [upd, d0] using hK'
                      · have d1 : t 1 = .bool false := by simpa using (hdep ⟨1, .data⟩ (by simp) rfl).2
                        clear hdep
                        have hK' := hK w' (.bool false) (by simp) (hx.step 2 _ (Below.refl _ _) (fun h => absurd h (by decide))) (Below.refl _ _)
                        clear hK
                        rw [if_pos (by rfl)]
                        go_simp
                        simpa [upd, d1] using hK'
                      · have d2 : t 2 = .bool false := by simpa using (hdep ⟨2, .guard⟩ (by simp) rfl).2
                        clear hdep
                        have hK' := hK w' (.pointer (some ⟨D, 2, none⟩)) (by simp) (hx.step 3 _ (Below.refl _ _) (fun h => absurd h (by decide))) (Below.refl _ _)
                        clear hK
                        rw [if_pos (by simp [Region.wanted, yielded, d2])]
                        go_simp
                        simpa [upd, d2] using hK'
                      · have d3 : t 3 = .pointer (some ⟨D, 2, none⟩) := by simpa using (hdep ⟨3, .data⟩ (by simp) rfl).2
                        have d2 : t 2 = .bool false := by simpa using (hdep ⟨2, .guard⟩ (by simp) rfl).2
                        clear hdep
                        obtain ⟨⟨y0, y1, y2, y3⟩, _⟩ := (HLC.out.next hx.below).cells
                        have hK' := hK w' (.int .i64 0) (by simp) (hx.step 4 _ (Below.refl _ _) (fun h => absurd h (by decide))) (Below.refl _ _)
                        clear hK
                        rw [if_pos (by simp [Region.wanted, yielded, d2])]
                        go_simp
                        simpa [upd, d3, d2] using hK'
                      · have d4 : t 4 = .int .i64 0 := by simpa using (hdep ⟨4, .data⟩ (by simp) rfl).2
                        have d2 : t 2 = .bool false := by simpa using (hdep ⟨2, .guard⟩ (by simp) rfl).2
                        clear hdep
                        have hK' := hK w' (.bool true) (by simp) (hx.step 5 _ (Below.refl _ _) (fun h => absurd h (by decide))) (Below.refl _ _)
                        clear hK
                        rw [if_pos (by simp [Region.wanted, yielded, d2])]
                        go_simp
                        simpa [upd, d4, d2, hf0, hf1] using hK'
                      · have d2 : t 2 = .bool false := by simpa using (hdep ⟨2, .data⟩ (by simp) rfl).2
                        have d5 : t 5 = .bool true := by simpa using (hdep ⟨5, .data⟩ (by simp) rfl).2
                        clear hdep
                        have hK' := hK w' (.bool true) (by simp) (hx.step 6 _ (Below.refl _ _) (fun h => absurd h (by decide))) (Below.refl _ _)
                        clear hK
                        rw [if_pos (by rfl)]
                        go_simp
                        simpa [upd, d2, d5] using hK'
                      · have d6 : t 6 = .bool true := by simpa using (hdep ⟨6, .data⟩ (by simp) rfl).2
                        clear hdep
                        have hK' := hK w' (.bool true) (by simp) (hx.step 7 _ (Below.refl _ _) (fun h => absurd h (by decide))) (Below.refl _ _)
                        clear hK
                        rw [if_pos (by rfl)]
                        go_simp
                        simpa [upd, d6] using hK'
                      · have d7 : t 7 = .bool true := by simpa using (hdep ⟨7, .guard⟩ (by simp) rfl).2
                        clear hdep
                        have hK' := hK w' undef (by simp) (hx.step 8 _ (Below.refl _ _) (fun h => absurd h (by decide))) (Below.refl _ _)
                        clear hK
                        rw [if_neg (by simp [Region.wanted, yielded, d7])]
                        simpa [upd, Act.put] using hK'
                      · have d7 : t 7 = .bool true := by simpa using (hdep ⟨7, .guard⟩ (by simp) rfl).2
                        clear hdep
                        have hK' := hK w' undef (by simp) (hx.step 9 _ (Below.refl _ _) (fun h => absurd h (by decide))) (Below.refl _ _)
                        clear hK
                        rw [if_neg (by simp [Region.wanted, yielded, d7])]
                        simpa [upd, Act.put] using hK'
                      · have d7 : t 7 = .bool true := by simpa using (hdep ⟨7, .guard⟩ (by simp) rfl).2
                        clear hdep
                        have hK' := hK w' undef (by simp) (hx.step 10 _ (Below.refl _ _) (fun h => absurd h (by decide))) (Below.refl _ _)
                        clear hK
                        rw [if_neg (by simp [Region.wanted, yielded, d7])]
                        simpa [upd, Act.put] using hK'
                      · have d7 : t 7 = .bool true := by simpa using (hdep ⟨7, .guard⟩ (by simp) rfl).2
                        clear hdep
                        have hK' := hK w' undef (by simp) (hx.step 11 _ (Below.refl _ _) (fun h => absurd h (by decide))) (Below.refl _ _)
                        clear hK
                        rw [if_neg (by simp [Region.wanted, yielded, d7])]
                        simpa [upd, Act.put] using hK'
                      · have d7 : t 7 = .bool true := by simpa using (hdep ⟨7, .guard⟩ (by simp) rfl).2
                        clear hdep
                        have hK' := hK w' undef (by simp) (hx.step 12 _ (Below.refl _ _) (fun h => absurd h (by decide))) (Below.refl _ _)
                        clear hK
                        rw [if_neg (by simp [Region.wanted, yielded, d7])]
                        simpa [upd, Act.put] using hK'
                      · have d7 : t 7 = .bool true := by simpa using (hdep ⟨7, .guard⟩ (by simp) rfl).2
                        clear hdep
                        have hK' := hK w' undef (by simp) (hx.step 13 _ (Below.refl _ _) (fun h => absurd h (by decide))) (Below.refl _ _)
                        clear hK
                        rw [if_neg (by simp [Region.wanted, yielded, d7])]
                        simpa [upd, Act.put] using hK'
                      · have d7 : t 7 = .bool true := by simpa using (hdep ⟨7, .guard⟩ (by simp) rfl).2
                        clear hdep
                        have hK' := hK w' undef (by simp) (hx.step 14 _ (Below.refl _ _) (fun h => absurd h (by decide))) (Below.refl _ _)
                        clear hK
                        rw [if_neg (by simp [Region.wanted, yielded, d7])]
                        simpa [upd, Act.put] using hK'
                      · have d7 : t 7 = .bool true := by simpa using (hdep ⟨7, .guard⟩ (by simp) rfl).2
                        clear hdep
                        have hK' := hK w' undef (by simp) (hx.step 15 _ (Below.refl _ _) (fun h => absurd h (by decide))) (Below.refl _ _)
                        clear hK
                        rw [if_neg (by simp [Region.wanted, yielded, d7])]
                        simpa [upd, Act.put] using hK'
                      · have d7 : t 7 = .bool true := by simpa using (hdep ⟨7, .data⟩ (by simp) rfl).2
                        clear hdep
                        have hK' := hK w' (.bool true) (by simp) (hx.step 16 _ (Below.refl _ _) (fun h => absurd h (by decide))) (Below.refl _ _)
                        clear hK
                        rw [if_pos (by rfl)]
                        go_simp
                        simpa [upd, d7] using hK'
                      · have d16 : t 16 = .bool true := by simpa using (hdep ⟨16, .data⟩ (by simp) rfl).2
                        clear hdep
                        have hK' := hK w' (.bool true) (by simp) (hx.step 17 _ (Below.refl _ _) (fun h => absurd h (by decide))) (Below.refl _ _)
                        clear hK
                        rw [if_pos (by rfl)]
                        go_simp
                        simpa [upd, d16] using hK'
                    case hdone =>
                      intro Ls t w9 hx hg
                      have e17 : t 17 = .bool true := by simpa using hg 17 (by decide)
                      have HBF := hid_ofD ((HLC.out.next hx.below).below)
                      clear hg hx HLC
                      simp only [e17]
                      clear e17
                      go_wp2
                      go_ret
                      exact ⟨rfl, HBF.out⟩
                  · have hf0 : (f == 0) = false := by simpa using hf
                    have hf1 : decide (f = 0) = false := by simpa using hf
                    have HFN := hid_ofD hf
                    go_wp2_with fail
                    clear y0 y1 y2 y3
                    refine wp_region_any (by kernel_rfl) ?_
                    refine wpAny_slotsV (fun _ a b => Below a.heap.size a b) (frame := (fun (c0 c1 c3 c4 c5 c6 c7 c8 c9 c10 c11 c12 c13 c14 c15 c16 c17 c18 c19 c20 c21 c22 c23 c24 c25 c26 c27 c28 c29 c30 c31 c32 c33 c34 c35 c36 c37 c38 c39 c40 c41 c42 c43 c44 c45 c46 c47 c48 c49 c50 c51 c52 c53 c54 c55 c56 c57 c58 c59 c60 c61 c62 c63 c64 c65 c66 c67 c68 c69 c70 c71 c72 c73 c74 : Value) => fun (t : Nat → Value) => ({ tmps := List.toArray (c0 :: c1 :: t 17 :: c3 :: c4 :: c5 :: c6 :: c7 :: c8 :: c9 :: c10 :: c11 :: c12 :: c13 :: c14 :: c15 :: c16 :: c17 :: c18 :: c19 :: c20 :: c21 :: c22 :: c23 :: c24 :: c25 :: c26 :: c27 :: c28 :: c29 :: c30 :: c31 :: c32 :: c33 :: c34 :: c35 :: c36 :: c37 :: c38 :: c39 :: c40 :: c41 :: c42 :: c43 :: c44 :: c45 :: c46 :: c47 :: c48 :: c49 :: c50 :: c51 :: c52 :: c53 :: c54 :: c55 :: c56 :: c57 :: c58 :: c59 :: c60 :: c61 :: c62 :: c63 :: c64 :: c65 :: c66 :: c67 :: c68 :: c69 :: c70 :: c71 :: c72 :: c73 :: c74 :: t 0 :: t 1 :: t 2 :: t 3 :: t 4 :: t 5 :: t 6 :: t 7 :: t 8 :: t 9 :: t 10 :: t 11 :: t 12 :: t 13 :: t 14 :: t 15 :: t 16 :: []), defers := [] } : Act)) _ _ _ _ _ _ _ _ _ _ _ _ _ _ _ _ _ _ _ _ _ _ _ _ _ _ _ _ _ _ _ _ _ _ _ _ _ _ _ _ _ _ _ _ _ _ _ _ _ _ _ _ _ _ _ _ _ _ _ _ _ _ _ _ _ _ _ _ _ _ _ _ _ _)
                      (Ext := fun Ls u w' => ApX W [] Ls u w') (Good := fun i Ls w' v => if i = 0 then v = .pointer (some ⟨D, 3, none⟩) else if i = 1 then v = .bool false else if i = 2 then v = .bool false else if i = 3 then v = .pointer (some ⟨D, 2, none⟩) else if i = 4 then v = .int .i64 f else if i = 5 then v = .bool false else if i = 6 then v = .bool false else if i = 7 then v = .bool false else if i = 8 then v = .agg #[.slice da L dc, .slice ca q cc, .int .i64 f, .bool false] else if i = 9 then v = .agg #[.slice xg q xh, .int .i64 (-1), .int .i64 0] else if i = 10 then Dk2 w' v (syZ zs ps f false) else if i = 11 then Rd2 w' v (syZ zs ps f false) else if i = 12 then v = .agg #[.slice da L dc, .slice ca q cc, .int .i64 f, .bool false] else if i = 13 then Dk2 w' v (syZ zs ps f false) else if i = 14 then Rd2 w' v (syZ zs ps f false) else if i = 15 then v = .bool true else if i = 16 then v = .bool true else if i = 17 then v = .bool true else True) ?hstab (by kernel_rfl) ?hop ?hdone _ _ ((fun (x0 x1 x2 x3 x4 x5 x6 x7 x8 x9 x10 x11 x12 x13 x14 x15 x16 x17 : Value) => fun (i : Nat) => if i = 0 then x0 else if i = 1 then x1 else if i = 2 then x2 else if i = 3 then x3 else if i = 4 then x4 else if i = 5 then x5 else if i = 6 then x6 else if i = 7 then x7 else if i = 8 then x8 else if i = 9 then x9 else if i = 10 then x10 else if i = 11 then x11 else if i = 12 then x12 else if i = 13 then x13 else if i = 14 then x14 else if i = 15 then x15 else if i = 16 then x16 else if i = 17 then x17 else undef) _ _ _ _ _ _ _ _ _ _ _ _ _ _ _ _ _ _) _ (by simp) ?ext ?start (by simp)
                    case start => intro i hi h; exact absurd h (by rw [Array.getD_eq_getD_getElem?, Array.getElem?_replicate]; split <;> simp)
                    case ext => exact (ApX.start W [] _ _ (fun i => by rw [Array.getD_eq_getD_getElem?, Array.getElem?_replicate]; split <;> rfl)).drew
                    case hstab =>
                      intro j Ls w9 w' i v hM _ _ h
                      by_cases h10 : j = 10
                      · subst h10
                        simp at h ⊢
                        exact h.below hM
                      by_cases h11 : j = 11
                      · subst h11
                        simp at h ⊢
                        exact h.below hM
                      by_cases h13 : j = 13
                      · subst h13
                        simp at h ⊢
                        exact h.below hM
                      by_cases h14 : j = 14
                      · subst h14
                        simp at h ⊢
                        exact h.below hM
                      simp only [if_neg h10, if_neg h11, if_neg h13, if_neg h14] at h ⊢
                      exact h
                    case hop =>
                      intro i o Ls t w' ho hLi hx hdep K hK
                      have hi : i < 18 := (Array.getElem?_eq_some_iff.1 ho).1
                      obtain rfl | rfl | rfl | rfl | rfl | rfl | rfl | rfl | rfl | rfl | rfl | rfl | rfl | rfl | rfl | rfl | rfl | rfl : i = 0 ∨ i = 1 ∨ i = 2 ∨ i = 3 ∨ i = 4 ∨ i = 5 ∨ i = 6 ∨ i = 7 ∨ i = 8 ∨ i = 9 ∨ i = 10 ∨ i = 11 ∨ i = 12 ∨ i = 13 ∨ i = 14 ∨ i = 15 ∨ i = 16 ∨ i = 17 := by omega
                      all_goals (simp at ho; subst ho)
                      · clear hdep
                        have hK' := hK w' (.pointer (some ⟨D, 3, none⟩)) (by simp) (hx.step 0 _ (Below.refl _ _) (fun h => absurd h (by decide))) (Below.refl _ _)
                        clear hK
                        rw [if_pos (by rfl)]
                        go_simp
                        simpa [upd] using hK'
                      · have d0 : t 0 = .pointer (some ⟨D, 3, none⟩) := by simpa using (hdep ⟨0, .data⟩ (by simp) rfl).2
                        clear hdep
                        obtain ⟨⟨y0, y1, y2, y3⟩, _⟩ := (HLC.out.next hx.below).cells
                        have hK' := hK w' (.bool false) (by simp) (hx.step 1 _ (Below.refl _ _) (fun h => absurd h (by decide))) (Below.refl _ _)
                        clear hK
                        rw [if_pos (by rfl)]
                        go_simp
                        simpa [upd, d0] using hK'
                      · have d1 : t 1 = .bool false := by simpa using (hdep ⟨1, .data⟩ (by simp) rfl).2
                        clear hdep
                        have hK' := hK w' (.bool false) (by simp) (hx.step 2 _ (Below.refl _ _) (fun h => absurd h (by decide))) (Below.refl _ _)
                        clear hK
                        rw [if_pos (by rfl)]
                        go_simp
                        simpa [upd, d1] using hK'
                      · have d2 : t 2 = .bool false := by simpa using (hdep ⟨2, .guard⟩ (by simp) rfl).2
                        clear hdep
                        have hK' := hK w' (.pointer (some ⟨D, 2, none⟩)) (by simp) (hx.step 3 _ (Below.refl _ _) (fun h => absurd h (by decide))) (Below.refl _ _)
                        clear hK
                        rw [if_pos (by simp [Region.wanted, yielded, d2])]
                        go_simp
                        simpa [upd, d2] using hK'
                      · have d3 : t 3 = .pointer (some ⟨D, 2, none⟩) := by simpa using (hdep ⟨3, .data⟩ (by simp) rfl).2
                        have d2 : t 2 = .bool false := by simpa using (hdep ⟨2, .guard⟩ (by simp) rfl).2
                        clear hdep
                        obtain ⟨⟨y0, y1, y2, y3⟩, _⟩ := (HLC.out.next hx.below).cells
                        have hK' := hK w' (.int .i64 f) (by simp) (hx.step 4 _ (Below.refl _ _) (fun h => absurd h (by decide))) (Below.refl _ _)
                        clear hK
                        rw [if_pos (by simp [Region.wanted, yielded, d2])]
                        go_simp
                        simpa [upd, d3, d2] using hK'
                      · have d4 : t 4 = .int .i64 f := by simpa using (hdep ⟨4, .data⟩ (by simp) rfl).2
                        have d2 : t 2 = .bool false := by simpa using (hdep ⟨2, .guard⟩ (by simp) rfl).2
                        clear hdep
                        have hK' := hK w' (.bool false) (by simp) (hx.step 5 _ (Below.refl _ _) (fun h => absurd h (by decide))) (Below.refl _ _)
                        clear hK
                        rw [if_pos (by simp [Region.wanted, yielded, d2])]
                        go_simp
                        simpa [upd, d4, d2, hf0, hf1] using hK'
                      · have d2 : t 2 = .bool false := by simpa using (hdep ⟨2, .data⟩ (by simp) rfl).2
                        have d5 : t 5 = .bool false := by simpa using (hdep ⟨5, .data⟩ (by simp) rfl).2
                        clear hdep
                        have hK' := hK w' (.bool false) (by simp) (hx.step 6 _ (Below.refl _ _) (fun h => absurd h (by decide))) (Below.refl _ _)
                        clear hK
                        rw [if_pos (by rfl)]
                        go_simp
                        simpa [upd, d2, d5] using hK'
                      · have d6 : t 6 = .bool false := by simpa using (hdep ⟨6, .data⟩ (by simp) rfl).2
                        clear hdep
                        have hK' := hK w' (.bool false) (by simp) (hx.step 7 _ (Below.refl _ _) (fun h => absurd h (by decide))) (Below.refl _ _)
                        clear hK
                        rw [if_pos (by rfl)]
                        go_simp
                        simpa [upd, d6] using hK'
                      · have d7 : t 7 = .bool false := by simpa using (hdep ⟨7, .guard⟩ (by simp) rfl).2
                        clear hdep
                        obtain ⟨⟨y0, y1, y2, y3⟩, _⟩ := (HLC.out.next hx.below).cells
                        have hK' := hK w' (.agg #[.slice da L dc, .slice ca q cc, .int .i64 f, .bool false]) (by simp) (hx.step 8 _ (Below.refl _ _) (fun h => absurd h (by decide))) (Below.refl _ _)
                        clear hK
                        rw [if_pos (by simp [Region.wanted, yielded, d7])]
                        go_simp
                        simpa [upd, d7] using hK'
                      · have d7 : t 7 = .bool false := by simpa using (hdep ⟨7, .guard⟩ (by simp) rfl).2
                        clear hdep
                        have z0 : w'.cell? ⟨K8, 0, none⟩ = some (.slice xg q xh) := by rw [World.cell?_of_block (a := ⟨K8, 0, none⟩) (hx.below.block K8 HK8.out.1)]; exact cell_of_row _ _ _ _ _ _ HK8.out.2
                        have z1 : w'.cell? ⟨K8, 1, none⟩ = some (.int .i64 (-1)) := by rw [World.cell?_of_block (a := ⟨K8, 1, none⟩) (hx.below.block K8 HK8.out.1)]; exact cell_of_row _ _ _ _ _ _ HK8.out.2
                        have z2 : w'.cell? ⟨K8, 2, none⟩ = some (.int .i64 0) := by rw [World.cell?_of_block (a := ⟨K8, 2, none⟩) (hx.below.block K8 HK8.out.1)]; exact cell_of_row _ _ _ _ _ _ HK8.out.2
                        have hK' := hK w' (.agg #[.slice xg q xh, .int .i64 (-1), .int .i64 0]) (by simp) (hx.step 9 _ (Below.refl _ _) (fun h => absurd h (by decide))) (Below.refl _ _)
                        clear hK
                        rw [if_pos (by simp [Region.wanted, yielded, d7])]
                        go_simp
                        simpa [upd, d7] using hK'
                      · have d8 : t 8 = .agg #[.slice da L dc, .slice ca q cc, .int .i64 f, .bool false] := by simpa using (hdep ⟨8, .data⟩ (by simp) rfl).2
                        have d9 : t 9 = .agg #[.slice xg q xh, .int .i64 (-1), .int .i64 0] := by simpa using (hdep ⟨9, .data⟩ (by simp) rfl).2
                        have d7 : t 7 = .bool false := by simpa using (hdep ⟨7, .guard⟩ (by simp) rfl).2
                        clear hdep
                        have A := hid_ofD (icr_any (.agg #[.slice da L dc, .slice ca q cc, .int .i64 f, .bool false]) (.agg #[.slice xg q xh, .int .i64 (-1), .int .i64 0]) zs ps f false (List.replicate ps.length true) (-1) 0 w' (HLC.out.next hx.below).dx.at_ (HCA.out.below hx.below) (by have := HBD.out.1; omega) (by have := HBD.out.2.1; omega) (fun i => by have := HBD.out.2.2.1 i; omega) (by rw [List.length_replicate]; have := HBD.out.2.1; omega))
                        rw [crZ_all HVA.out HFN.out] at A
                        have A := A.out
                        have hK' : ∀ ww v, Dk2 ww v (syZ zs ps f false) → Below w'.heap.size w' ww → K _ ww := fun ww v hv hb => hK ww v (by simpa using hv) (hx.step 10 v hb (fun h => absurd h (by decide))) hb
                        clear hK
                        rw [if_pos (by simp [Region.wanted, yielded, d7])]
                        go_simp
                        try simp only [d8, d9, d7]
                        refine A.mono ?_
                        rintro e w9 ⟨v9, rfl, h9, hb9⟩
                        have hK2 := hK' w9 _ (dk_pl h9 hb9.size) hb9
                        clear hK' A h9 hb9
                        go_simp
                        simpa [upd, d8, d9, d7] using hK2
                      · have f10 : Dk2 w' (t 10) (syZ zs ps f false) := by simpa using (hdep ⟨10, .data⟩ (by simp) rfl).2
                        have d7 : t 7 = .bool false := by simpa using (hdep ⟨7, .guard⟩ (by simp) rfl).2
                        clear hdep
                        refine Exists.elim f10 fun aa h => ?_
                        obtain ⟨cc1, bx, bm, bk, ff, dd, d10, ha⟩ := h
                        have hfd := fun w => run_fd w aa (syZ zs ps f false).length cc1 bx bm bk ff dd
                        have hK' := hK w' (.slice aa (syZ zs ps f false).length cc1) (by simpa using ⟨aa, cc1, rfl, ha⟩) (hx.step 11 _ (Below.refl _ _) (fun h => absurd h (by decide))) (Below.refl _ _)
                        clear hK
                        rw [if_pos (by simp [Region.wanted, yielded, d7])]
                        go_simp
                        simpa [upd, d7, d10, hfd] using hK'
                      · have d7 : t 7 = .bool false := by simpa using (hdep ⟨7, .guard⟩ (by simp) rfl).2
                        clear hdep
                        obtain ⟨⟨y0, y1, y2, y3⟩, _⟩ := (HLC.out.next hx.below).cells
                        have hK' := hK w' (.agg #[.slice da L dc, .slice ca q cc, .int .i64 f, .bool false]) (by simp) (hx.step 12 _ (Below.refl _ _) (fun h => absurd h (by decide))) (Below.refl _ _)
                        clear hK
                        rw [if_pos (by simp [Region.wanted, yielded, d7])]
                        go_simp
                        simpa [upd, d7] using hK'
                      · have d12 : t 12 = .agg #[.slice da L dc, .slice ca q cc, .int .i64 f, .bool false] := by simpa using (hdep ⟨12, .data⟩ (by simp) rfl).2
                        have d7 : t 7 = .bool false := by simpa using (hdep ⟨7, .guard⟩ (by simp) rfl).2
                        clear hdep
                        have A := isy_any (.agg #[.slice da L dc, .slice ca q cc, .int .i64 f, .bool false]) zs ps f false w' (HLC.out.next hx.below).dx.at_ (by have := HBD.out.1; omega) (by have := HBD.out.2.1; omega) (fun i => by have := HBD.out.2.2.1 i; omega)
                        have hK' : ∀ ww v, Dk2 ww v (syZ zs ps f false) → Below w'.heap.size w' ww → K _ ww := fun ww v hv hb => hK ww v (by simpa using hv) (hx.step 13 v hb (fun h => absurd h (by decide))) hb
                        clear hK
                        rw [if_pos (by simp [Region.wanted, yielded, d7])]
                        go_simp
                        try simp only [d12, d7]
                        refine A.mono ?_
                        rintro e w9 ⟨v9, rfl, h9, hb9⟩
                        have hK2 := hK' w9 _ (by obtain ⟨a9, c9, x9, k9, e9, q9, _⟩ := h9.at_; exact ⟨a9, c9, _, _, _, _, _, e9, q9⟩) hb9
                        clear hK' A h9 hb9
                        go_simp
                        simpa [upd, d12, d7] using hK2
                      · have f13 : Dk2 w' (t 13) (syZ zs ps f false) := by simpa using (hdep ⟨13, .data⟩ (by simp) rfl).2
                        have d7 : t 7 = .bool false := by simpa using (hdep ⟨7, .guard⟩ (by simp) rfl).2
                        clear hdep
                        refine Exists.elim f13 fun aa h => ?_
                        obtain ⟨cc1, bx, bm, bk, ff, dd, d13, ha⟩ := h
                        have hfd := fun w => run_fd w aa (syZ zs ps f false).length cc1 bx bm bk ff dd
                        have hK' := hK w' (.slice aa (syZ zs ps f false).length cc1) (by simpa using ⟨aa, cc1, rfl, ha⟩) (hx.step 14 _ (Below.refl _ _) (fun h => absurd h (by decide))) (Below.refl _ _)
                        clear hK
                        rw [if_pos (by simp [Region.wanted, yielded, d7])]
                        go_simp
                        simpa [upd, d7, d13, hfd] using hK'
                      · have f11 : Rd2 w' (t 11) (syZ zs ps f false) := by simpa using (hdep ⟨11, .data⟩ (by simp) rfl).2
                        have f14 : Rd2 w' (t 14) (syZ zs ps f false) := by simpa using (hdep ⟨14, .data⟩ (by simp) rfl).2
                        have d7 : t 7 = .bool false := by simpa using (hdep ⟨7, .guard⟩ (by simp) rfl).2
                        clear hdep
                        refine Exists.elim f11 fun aa h => ?_
                        obtain ⟨cc1, d11, ha⟩ := h
                        refine Exists.elim f14 fun ab h => ?_
                        obtain ⟨cc2, d14, hb'⟩ := h
                        have A := lwE_any aa ab _ cc1 cc2 (syZ zs ps f false) w' rfl ha hb'
                        have hK' := hK w' (.bool true) (by simp) (hx.step 15 _ (Below.refl _ _) (fun h => absurd h (by decide))) (Below.refl _ _)
                        clear hK
                        rw [if_pos (by simp [Region.wanted, yielded, d7])]
                        go_simp
                        try simp only [d7, d11, d14]
                        refine A.mono ?_
                        rintro e w9 ⟨rfl, h9⟩
                        subst h9
                        clear A
                        go_simp
                        simpa [upd, d7, d11, d14] using hK'
                      · have d7 : t 7 = .bool false := by simpa using (hdep ⟨7, .data⟩ (by simp) rfl).2
                        have d15 : t 15 = .bool true := by simpa using (hdep ⟨15, .data⟩ (by simp) rfl).2
                        clear hdep
                        have hK' := hK w' (.bool true) (by simp) (hx.step 16 _ (Below.refl _ _) (fun h => absurd h (by decide))) (Below.refl _ _)
                        clear hK
                        rw [if_pos (by rfl)]
                        go_simp
                        simpa [upd, d7, d15] using hK'
                      · have d16 : t 16 = .bool true := by simpa using (hdep ⟨16, .data⟩ (by simp) rfl).2
                        clear hdep
                        have hK' := hK w' (.bool true) (by simp) (hx.step 17 _ (Below.refl _ _) (fun h => absurd h (by decide))) (Below.refl _ _)
                        clear hK
                        rw [if_pos (by rfl)]
                        go_simp
                        simpa [upd, d16] using hK'
                    case hdone =>
                      intro Ls t w9 hx hg
                      have e17 : t 17 = .bool true := by simpa using hg 17 (by decide)
                      have HBF := hid_ofD ((HLC.out.next hx.below).below)
                      clear hg hx HLC
                      simp only [e17]
                      clear e17
                      go_wp2
                      go_ret
                      exact ⟨rfl, HBF.out⟩
set_option maxRecDepth 100000 in
theorem lifted (os : Os) (started : os.Started) (H : Type) (enc : TypeId × Value → H) :
    ReturnsInHanded {} Try.checked os 6 .any (Rows.fnCrashSpec.pre6 enc Try.prog Try.f6 Rows.fnCrashRow.domain false) (Rows.fnCrashSpec.post enc Try.prog Try.f6 false true false false) := by
  refine returnsInHanded_of_change (C := Try.checked) own started (by kernel_rfl) Try.func6
    (ChangeSpec.witness6 (enc := enc) (C := Try.checked) false ⟨#[], #[.slice none 0 0], []⟩ 8 (by kernel_rfl) (by kernel_rfl) (by kernel_rfl) (by kernel_rfl)) ?_
  intro W base args ds gs before hval0 hW hcnd _
  have hval : ∀ (j : Nat) t v, Try.f6.params[j]? = some t → args[j]? = some v → Value.okWide Try.prog W .any base t v := hval0
  have hW' := hW
  obtain ⟨p, q, hA0, hV, rfl, hfz, hnd⟩ := hW
  have hA : DataW.TrodAll enc Try.prog W 0 (fun _ => true) true Try.f6.params.toList args.toList ds p := hA0
  rw [Try.params6] at hA hval
  obtain ⟨v0, vs0, d0, ds0, p0, q0, hargs, rfl, rfl, h0, r0⟩ := trodAll_cons hA
  obtain ⟨rfl, rfl, rfl⟩ := trodAll_nil r0
  obtain rfl : args = #[v0] := by cases args; simp_all
  obtain ⟨rfl, rfl⟩ := trodVars_none hV
  obtain ⟨a0, len0, cap0, rfl⟩ := okWide_slice Try.underlying22 (hval 0 22 v0 rfl rfl)
  have k0 := h0
  have lt0 : ∀ x ∈ p0, x.block < W.heap.size := by obtain ⟨m, hm⟩ := k0; exact DataW.trod_lt m _ _ _ hm
  obtain ⟨z0, w0⟩ : ∃ zs, IsRow .u8 W a0 len0 cap0 zs := by
    obtain ⟨fuel, hf⟩ := h0
    rcases open_ints Try.underlying22 Try.underlying5 (by kernel_rfl) hf with ⟨hcs, _⟩ | ⟨x, l, c, zs, hcs, _, hl, hm, hz, _, hcell, hwz⟩
    · simp [Value.cells] at hcs
      obtain ⟨rfl, rfl, rfl⟩ := hcs
      exact ⟨[], .inl ⟨rfl, rfl, rfl, rfl⟩⟩
    · simp [Value.cells] at hcs
      obtain ⟨rfl, rfl, rfl⟩ := hcs
      exact ⟨zs, .inr ⟨_, rfl, hl, hm, by simpa using hz, hcell, hwz⟩⟩
  clear hA0 hval0
  refine (walk a0 len0 cap0 z0 W w0).mono fun e W' ⟨he, bel⟩ => ?_
  subst he
  exact ⟨_, rfl, _, _, _, [], _, [], hW', trodAll_mk1 (shut_bool Try.underlying4 _), (trodAll_cons_mk (Below.trod laidOut (by kernel_rfl) (of_decide_eq_true (by kernel_rfl)) k0 bel lt0) trodAll_mk0), rfl, bel.frame _, fun h => by cases h⟩

theorem over : Rows.fnCrashRow.holds Try.pinned (OpenSpec.ofChange Rows.fnCrashSpec) :=
  OpenClaim.holds_of_wide 6 Try.f6 rfl rfl rfl rfl rfl rfl rfl ⟨rfl, rfl, rfl, rfl, rfl⟩ rfl rfl rfl rfl rfl (by kernel_rfl) Try.func6 (by kernel_rfl)
    (of_decide_eq_true (by kernel_rfl)) (by unfold Func.isWrapper; first | (rw [if_pos (by decide +kernel)]; kernel_rfl) | (rw [if_neg (by decide +kernel)]; exact ⟨rfl, rfl⟩))
    (fun os started H enc _ => lifted os started H enc)

end Go.Proofs.Ytoiflbfnjebpeaa.lcs
namespace Go.Proofs.Ytoiflbfnjebpeaa
theorem crash_holds : Rows.FnCrashSaid := lcs.over
#print axioms crash_holds
end Go.Proofs.Ytoiflbfnjebpeaa
