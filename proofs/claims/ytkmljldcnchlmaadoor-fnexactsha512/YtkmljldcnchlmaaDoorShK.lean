/-
  Own work: the hash, by the program.
-/
import Derived.Test.YtkmljldcnchlmaaDoorShJ
import Derived.Test.YtkmljldcnchlmaaDoorShL
namespace Go.Proofs.YtkmljldcnchlmaaDoor
open Go.ChangeShapes Go.WideShapes Go.ChangeAt Go.RowKit
set_option linter.unusedVariables false

/-- The words behind k blocks. -/
def blks (zs : List Int) : Nat → List Int
  | 0 => ivL
  | k + 1 => mixL (blks zs k) (blkOf (zs.drop (128 * k)))
theorem blks_w8 (zs : List Int) (k : Nat) : W8 (blks zs k) := by
  cases k with
  | zero => exact ivL_w8
  | succ k => exact mixL_w8 _ _
def shaL (zs : List Int) : List Int := txtW (finL (blks zs (zs.length / 128)) (zs.drop (128 * (zs.length / 128))) zs.length)
theorem finL_w8 (hs zs : List Int) (n : Int) : W8 (finL hs zs n) := by
  unfold finL
  split
  · exact mixL_w8 _ _
  · exact mixL_w8 _ _
structure KS (w : World) (G : Nat) (hs : List Int) (y : World) : Prop where
  wds : RowW y G 33 hs
  tab : TabIn y
  below : Below w.heap.size w y
  hi : w.heap.size ≤ G
theorem KS.frg {w : World} {G : Nat} {hs hs' : List Int} {y y' : World} (h : KS w G hs y) (hz : 0 < w.heap.size) (hf : FrG G y y') (hr : RowW y' G 33 hs') : KS w G hs' y' := by
  have := h.hi
  exact ⟨hr, h.tab.frg (fun k hk e => hf.block k hk (by omega)), h.below.trans (hf.below h.hi h.below.size), h.hi⟩
theorem KS.new {w : World} {G : Nat} {hs : List Int} {y y' : World} (h : KS w G hs y) (hz : 0 < w.heap.size) (hb : Below y.heap.size y y') : KS w G hs y' :=
  ⟨h.wds.below hb h.wds.lt, h.tab.frg (fun k hk _ => hb.block k hk), h.below.trans (hb.mono h.below.size), h.hi⟩
theorem Own.lower {w : World} {B B' : Nat} {v : Value} {zs : List Int} (h : Own w B' v zs) (hB : B ≤ B') : Own w B v zs := by
  obtain ⟨⟨h1, h2⟩, h3⟩ := h
  refine ⟨⟨h1, ?_⟩, h3⟩
  rcases h2 with h | ⟨g, cap, cur, e, hg, r⟩
  · exact .inl h
  · exact .inr ⟨g, cap, cur, e, Nat.le_trans hB hg, r⟩

set_option maxRecDepth 100000 in
set_option maxHeartbeats 2000000 in
theorem shaI_any (a : Option Addr) (n cap : Nat) (zs : List Int) (w : World) (hn : zs.length = n) (ha : At .u8 w a zs) (hz : Byte zs) (hm : n ≤ 2097152) (hcap : n ≤ cap) (hT : TabIn w) (h0 : 0 < w.heap.size) :
    Calls Tryd.prog 6 #[.slice a n cap] w fun e w' => ∃ v, e = .returned v ∧ Own w' w.heap.size v (shaL zs) ∧ Below w.heap.size w w' := by
  have z1 := zvBlk
  have z2 := zsBlk
  have z3 := znBlk
  have A := hid_ofS (first_any w hT h0)
  have HT := hid_ofS hT
  have HA := hid_ofS ha
  have HZ := hid_ofS hz
  have HN := hid_ofS hn
  clear hn ha hz hT
  go_enter Tryd.func6, Tryd.ntmps6
  go_wp2_with fail
  refine A.out.mono ?_
  rintro e w1 ⟨rfl, b1⟩
  have HB1 := hid_ofS b1
  clear A b1
  have HZN : Hid (RowW (w1.alloc (.cells #[.int .u64 0, .int .u64 0, .int .u64 0, .int .u64 0, .int .u64 0, .int .u64 0, .int .u64 0, .int .u64 0] 33)) w1.heap.size 33 [0, 0, 0, 0, 0, 0, 0, 0]) := heap_alloc_new w1 _
  have HAL : Hid (Below w1.heap.size w1 (w1.alloc (.cells #[.int .u64 0, .int .u64 0, .int .u64 0, .int .u64 0, .int .u64 0, .int .u64 0, .int .u64 0, .int .u64 0] 33))) := (Below.refl _ _).alloc (Nat.le_refl _) _
  have HL := hid_ofS ivL_w8.1
  go_wp2_with (first
    | (refine wpList_storeW rfl (.tmp 3) (.tmp 6) rfl Tryd.sizeWds w1.heap.size ivL [0, 0, 0, 0, 0, 0, 0, 0] rfl rfl HL.out rfl HZN.out ?_)
    | fail)
  intro w2 hr2 hw2
  have hs1 := HB1.out.size
  have HK : Hid (KS w w1.heap.size (blks zs 0) w2) := ⟨hr2, ((HT.out.frg (fun k hk _ => HB1.out.block k hk)).frg (fun k hk _ => HAL.out.block k hk)).frg (fun k _ e => hw2.block k (by omega)), (HB1.out.trans (HAL.out.mono hs1)).trans (hw2.below hs1), hs1⟩
  clear hr2 hw2 HB1 HAL HZN HL HT
  go_wp2
  go_loopw [4] (fun v wr => ∃ (k : Nat) (a' : Option Addr) (c' : Nat), 128 * k ≤ n ∧ v = .slice a' (n - 128 * k) c' ∧ n - 128 * k ≤ c' ∧ At .u8 w a' (zs.drop (128 * k)) ∧ KS w w1.heap.size (blks zs k) wr) (fun v _ => lenOf v)
  case atStart => exact ⟨0, a, cap, by omega, rfl, by omega, HA.out, HK.out⟩
  case round =>
    clear HK
    obtain ⟨k, a', c', hk, rfl, hc', ha', hst⟩ := hrel
    have HK := hid_ofS hst
    have HA' := hid_ofS ha'
    have hlen : (zs.drop (128 * k)).length = n - 128 * k := by rw [List.length_drop, HN.out]
    have HBY : Hid (Byte (zs.drop (128 * k))) := fun z h => HZ.out z (List.mem_of_mem_drop h)
    have HDL := hid_ofS hlen
    clear hst ha' hlen
    by_cases hge : 128 ≤ n - 128 * k
    · have hge' : (128 : Int) ≤ ((n - 128 * k : Nat) : Int) := by omega
      have HBL : Hid (blks zs (k + 1) = mixL (blks zs k) (blkOf (zs.drop (128 * k)))) := rfl
      obtain ⟨b, off, rfl, hb0, hcc⟩ := HA'.out.get (by rw [HDL.out]; omega)
      have HN2 : Hid (n - 128 * (k + 1) = n - 128 * k - 128) := by show _ = _; omega
      have HD2 : Hid (zs.drop (128 * (k + 1)) = (zs.drop (128 * k)).drop 128) := by show _ = _; rw [List.drop_drop]; congr 1
      have HK1 : Hid (128 * (k + 1) ≤ n) := by show _ ≤ _; omega
      have HCC := hid_ofS hcc
      clear hcc
      obtain ⟨m, hm'⟩ : ∃ m, m = n - 128 * k := ⟨_, rfl⟩
      rw [← hm'] at HN2 HDL hge hge' hc' ⊢
      have hmm : m ≤ 2097152 := by omega
      clear hm'
      have B := hid_ofS (blk_any (some ⟨b, off, none⟩) m c' (zs.drop (128 * k)) wr HDL.out (HA'.out.below HK.out.below) hmm)
      go_wp2_with fail
      refine B.out.mono ?_
      rintro e w3 ⟨rfl, b3⟩
      have HK3 := hid_ofS (HK.out.new h0 b3)
      clear b3 B HK
      have HZN : Hid (Row (w3.alloc (.cells zBlk 36)) w3.heap.size 36 (List.replicate 128 0)) := by show _ = _; rw [heap_alloc_new, zcBlk]
      have HAL : Hid (Below w3.heap.size w3 (w3.alloc (.cells zBlk 36))) := (Below.refl _ _).alloc (Nat.le_refl _) _
      have HLB := hid_ofS (blkOf_len (zs.drop (128 * k)))
      go_wp2_with (first
        | (refine wpList_storeB rfl (.tmp 5) (.tmp 12) rfl Tryd.sizeBlk w3.heap.size (blkOf (zs.drop (128 * k))) (List.replicate 128 0) rfl rfl HLB.out (by simp) HZN.out ?_)
        | fail)
      intro w4 hr4 hw4
      have hlt3 := HK3.out.wds.lt
      have hsz3 := HK3.out.below.size
      have hz3 := HK3.out.hi
      have b34 : Below w3.heap.size w3 w4 := HAL.out.trans (hw4.below (Nat.le_refl _))
      have HK4 := hid_ofS (HK3.out.new h0 b34)
      have HG0 : Hid (w1.heap.size ≠ 0) := by show ¬ _; omega
      have C := hid_ofS (mix_any w1.heap.size w3.heap.size (blks zs k) (blkOf (zs.drop (128 * k))) w4 HK4.out.wds (blks_w8 _ _) hr4 HLB.out (blkOf_byte HBY.out) HK4.out.tab HG0.out)
      clear hr4 hw4 b34 HK3 HZN HAL
      go_wp2_with fail
      refine C.out.mono ?_
      rintro e w5 ⟨rfl, r5, b5⟩
      have HK5 : Hid (KS w w1.heap.size (blks zs (k + 1)) w5) := by rw [HBL.out]; exact HK4.out.frg h0 b5 r5
      clear r5 b5 C HK4
      go_wp2
      refine ⟨⟨k + 1, _, c' - 128, HK1.out, by rw [HN2.out], by rw [HN2.out]; omega, ?_, HK5.out⟩, by show m - 128 < m; omega⟩
      rw [HD2.out]
      by_cases hcc : c' = 128
      · exact .inl (List.eq_nil_of_length_eq_zero (by rw [List.length_drop, HDL.out]; omega))
      · rw [if_neg hcc]
        refine .inr ⟨b, off + 128, rfl, hb0, fun i hi => ?_⟩
        rw [List.length_drop] at hi
        rw [Nat.add_assoc, HCC.out (128 + i) (by omega), List.getD_eq_getElem?_getD, List.getD_eq_getElem?_getD, List.getElem?_drop, List.getElem?_drop, List.getElem?_drop]
    · have hge' : ¬ ((128 : Int) ≤ ((n - 128 * k : Nat) : Int)) := by omega
      have HQ : Hid (shaL zs = txtW (finL (blks zs k) (zs.drop (128 * k)) (n : Int))) := by
        show _ = _
        unfold shaL
        rw [HN.out, show n / 128 = k by omega]
      have HUN : Hid (U64 (n : Int)) := ⟨by omega, by omega⟩
      have HG0 : Hid (w1.heap.size ≠ 0) := by show ¬ _; omega
      obtain ⟨m, hm'⟩ : ∃ m, m = n - 128 * k := ⟨_, rfl⟩
      rw [← hm'] at HDL hge hge' hc' ⊢
      have hmm : m < 128 := by omega
      clear hm'
      have B := hid_ofS (fin_any w1.heap.size (blks zs k) a' m c' (zs.drop (128 * k)) (n : Int) wr HK.out.wds (blks_w8 _ _) HDL.out (HA'.out.below HK.out.below) HBY.out hmm HK.out.tab HG0.out HUN.out)
      go_wp2_with fail
      refine B.out.mono ?_
      rintro e w3 ⟨rfl, r3, b3⟩
      have HK3 : Hid (KS w w1.heap.size (finL (blks zs k) (zs.drop (128 * k)) n) w3) := HK.out.frg h0 b3 r3
      clear r3 b3 B HK
      have C := hid_ofS (textI_any w1.heap.size _ w3 HK3.out.wds (finL_w8 _ _ _))
      go_wp2_with fail
      refine C.out.mono ?_
      rintro e w4 ⟨v, rfl, o4, b4⟩
      have HO : Hid (Own w4 w.heap.size v (shaL zs)) := by rw [HQ.out]; exact o4.lower HK3.out.below.size
      have HB : Hid (Below w.heap.size w w4) := HK3.out.below.trans (b4.mono HK3.out.below.size)
      clear o4 b4 C HK3
      go_wp2
      go_ret
      exact ⟨_, rfl, HO.out, HB.out⟩
end Go.Proofs.YtkmljldcnchlmaaDoor
