/-
  Own work: the hash, by the program.
-/
import Derived.Test.YtclmhdhblghfnaaDoorMShJ
import Derived.Test.YtclmhdhblghfnaaDoorMRConS
import Derived.Test.YtclmhdhblghfnaaDoorMOwnK
import Derived.Test.YtclmhdhblghfnaaDoorMReg8
import Derived.Maps.AppendAt
namespace Go.Proofs.YtclmhdhblghfnaaDoor
open Go.ChangeShapes Go.WideShapes Go.ChangeAt Go.RowKit
set_option linter.unusedVariables false

/-- The words behind k blocks. -/
def blks (zs : List Int) : Nat → List Int
  | 0 => ivL
  | k + 1 => mixL (blks zs k) (blkOf (zs.drop (128 * k)))
theorem blks_w8 (zs : List Int) (k : Nat) : W8 (blks zs k) := by
  cases k with
  | zero => exact ivL_w8
  | succ k => exact mixL_w8 _ _
def shaL (zs : List Int) : List Int := txtW (finL (blks zs (zs.length / 128)) (zs.drop (128 * (zs.length / 128))) zs.length)
theorem finL_w8 (hs zs : List Int) (n : Int) : W8 (finL hs zs n) := by
  unfold finL
  split
  · exact mixL_w8 _ _
  · exact mixL_w8 _ _
structure KS (w : World) (G : Nat) (hs : List Int) (y : World) : Prop where
  wds : RowW y G 76 hs
  tab : TabIn y
  below : Below w.heap.size w y
  hi : w.heap.size ≤ G
theorem KS.frg {w : World} {G : Nat} {hs hs' : List Int} {y y' : World} (h : KS w G hs y) (hz : 0 < w.heap.size) (hf : FrG G y y') (hr : RowW y' G 76 hs') : KS w G hs' y' := by
  have := h.hi
  exact ⟨hr, h.tab.frg (fun k hk e => hf.block k hk (by omega)), h.below.trans (hf.below h.hi h.below.size), h.hi⟩
theorem KS.new {w : World} {G : Nat} {hs : List Int} {y y' : World} (h : KS w G hs y) (hz : 0 < w.heap.size) (hb : Below y.heap.size y y') : KS w G hs y' :=
  ⟨h.wds.below hb h.wds.lt, h.tab.frg (fun k hk _ => hb.block k hk), h.below.trans (hb.mono h.below.size), h.hi⟩
theorem Own.lower {w : World} {B B' : Nat} {v : Value} {zs : List Int} (h : Own w B' v zs) (hB : B ≤ B') : Own w B v zs := by
  obtain ⟨⟨h1, h2⟩, h3⟩ := h
  refine ⟨⟨h1, ?_⟩, h3⟩
  rcases h2 with h | ⟨g, cap, cur, e, hg, r⟩
  · exact .inl h
  · exact .inr ⟨g, cap, cur, e, Nat.le_trans hB hg, r⟩

set_option maxRecDepth 100000 in
set_option maxHeartbeats 2000000 in
theorem shaI_any (a : Option Addr) (n cap : Nat) (zs : List Int) (w : World) (hn : zs.length = n) (ha : At .u8 w a zs) (hz : Byte zs) (hm : n ≤ 2097152) (hcap : n ≤ cap) (hT : TabIn w) (h0 : 0 < w.heap.size) :
    Calls Tryd.prog 24 #[.slice a n cap] w fun e w' => ∃ v, e = .returned v ∧ Own w' w.heap.size v (shaL zs) ∧ Below w.heap.size w w' := by
  have z1 := zvBlk
  have z2 := zsBlk
  have z3 := znBlk
  have A := hid_ofS (first_any w hT h0)
  have HT := hid_ofS hT
  have HA := hid_ofS ha
  have HZ := hid_ofS hz
  have HN := hid_ofS hn
  clear hn ha hz hT
  go_enter Tryd.func24, Tryd.ntmps24
  go_wp2_with fail
  refine A.out.mono ?_
  rintro e w1 ⟨rfl, b1⟩
  have HB1 := hid_ofS b1
  clear A b1
  have HZN : Hid (RowW (w1.alloc (.cells #[.int .u64 0, .int .u64 0, .int .u64 0, .int .u64 0, .int .u64 0, .int .u64 0, .int .u64 0, .int .u64 0] 76)) w1.heap.size 76 [0, 0, 0, 0, 0, 0, 0, 0]) := heap_alloc_new w1 _
  have HAL : Hid (Below w1.heap.size w1 (w1.alloc (.cells #[.int .u64 0, .int .u64 0, .int .u64 0, .int .u64 0, .int .u64 0, .int .u64 0, .int .u64 0, .int .u64 0] 76))) := (Below.refl _ _).alloc (Nat.le_refl _) _
  have HL := hid_ofS ivL_w8.1
  go_wp2_with (first
    | (refine wpList_storeW rfl (.tmp 3) (.tmp 6) rfl Tryd.sizeWds w1.heap.size ivL [0, 0, 0, 0, 0, 0, 0, 0] rfl rfl HL.out rfl HZN.out ?_)
    | fail)
  intro w2 hr2 hw2
  have hs1 := HB1.out.size
  have HK : Hid (KS w w1.heap.size (blks zs 0) w2) := ⟨hr2, ((HT.out.frg (fun k hk _ => HB1.out.block k hk)).frg (fun k hk _ => HAL.out.block k hk)).frg (fun k _ e => hw2.block k (by omega)), (HB1.out.trans (HAL.out.mono hs1)).trans (hw2.below hs1), hs1⟩
  clear hr2 hw2 HB1 HAL HZN HL HT
  go_wp2
  go_loopw [4] (fun v wr => ∃ (k : Nat) (a' : Option Addr) (c' : Nat), 128 * k ≤ n ∧ v = .slice a' (n - 128 * k) c' ∧ n - 128 * k ≤ c' ∧ At .u8 w a' (zs.drop (128 * k)) ∧ KS w w1.heap.size (blks zs k) wr) (fun v _ => lenOf v)
  case atStart => exact ⟨0, a, cap, by omega, rfl, by omega, HA.out, HK.out⟩
  case round =>
    clear HK
    obtain ⟨k, a', c', hk, rfl, hc', ha', hst⟩ := hrel
    have HK := hid_ofS hst
    have HA' := hid_ofS ha'
    have hlen : (zs.drop (128 * k)).length = n - 128 * k := by rw [List.length_drop, HN.out]
    have HBY : Hid (Byte (zs.drop (128 * k))) := fun z h => HZ.out z (List.mem_of_mem_drop h)
    have HDL := hid_ofS hlen
    clear hst ha' hlen
    by_cases hge : 128 ≤ n - 128 * k
    · have hge' : (128 : Int) ≤ ((n - 128 * k : Nat) : Int) := by omega
      have HBL : Hid (blks zs (k + 1) = mixL (blks zs k) (blkOf (zs.drop (128 * k)))) := rfl
      obtain ⟨b, off, rfl, hb0, hcc⟩ := HA'.out.get (by rw [HDL.out]; omega)
      have HN2 : Hid (n - 128 * (k + 1) = n - 128 * k - 128) := by show _ = _; omega
      have HD2 : Hid (zs.drop (128 * (k + 1)) = (zs.drop (128 * k)).drop 128) := by show _ = _; rw [List.drop_drop]; congr 1
      have HK1 : Hid (128 * (k + 1) ≤ n) := by show _ ≤ _; omega
      have HCC := hid_ofS hcc
      clear hcc
      obtain ⟨m, hm'⟩ : ∃ m, m = n - 128 * k := ⟨_, rfl⟩
      rw [← hm'] at HN2 HDL hge hge' hc' ⊢
      have hmm : m ≤ 2097152 := by omega
      clear hm'
      have B := hid_ofS (blk_any (some ⟨b, off, none⟩) m c' (zs.drop (128 * k)) wr HDL.out (HA'.out.below HK.out.below) hmm)
      go_wp2_with fail
      refine B.out.mono ?_
      rintro e w3 ⟨rfl, b3⟩
      have HK3 := hid_ofS (HK.out.new h0 b3)
      clear b3 B HK
      have HZN : Hid (Row (w3.alloc (.cells zBlk 79)) w3.heap.size 79 (List.replicate 128 0)) := by show _ = _; rw [heap_alloc_new, zcBlk]
      have HAL : Hid (Below w3.heap.size w3 (w3.alloc (.cells zBlk 79))) := (Below.refl _ _).alloc (Nat.le_refl _) _
      have HLB := hid_ofS (blkOf_len (zs.drop (128 * k)))
      go_wp2_with (first
        | (refine wpList_storeB rfl (.tmp 5) (.tmp 12) rfl Tryd.sizeBlk w3.heap.size (blkOf (zs.drop (128 * k))) (List.replicate 128 0) rfl rfl HLB.out (by simp) HZN.out ?_)
        | fail)
      intro w4 hr4 hw4
      have hlt3 := HK3.out.wds.lt
      have hsz3 := HK3.out.below.size
      have hz3 := HK3.out.hi
      have b34 : Below w3.heap.size w3 w4 := HAL.out.trans (hw4.below (Nat.le_refl _))
      have HK4 := hid_ofS (HK3.out.new h0 b34)
      have HG0 : Hid (w1.heap.size ≠ 0) := by show ¬ _; omega
      have C := hid_ofS (mix_any w1.heap.size w3.heap.size (blks zs k) (blkOf (zs.drop (128 * k))) w4 HK4.out.wds (blks_w8 _ _) hr4 HLB.out (blkOf_byte HBY.out) HK4.out.tab HG0.out)
      clear hr4 hw4 b34 HK3 HZN HAL
      go_wp2_with fail
      refine C.out.mono ?_
      rintro e w5 ⟨rfl, r5, b5⟩
      have HK5 : Hid (KS w w1.heap.size (blks zs (k + 1)) w5) := by rw [HBL.out]; exact HK4.out.frg h0 b5 r5
      clear r5 b5 C HK4
      go_wp2
      refine ⟨⟨k + 1, _, c' - 128, HK1.out, by rw [HN2.out], by rw [HN2.out]; omega, ?_, HK5.out⟩, by show m - 128 < m; omega⟩
      rw [HD2.out]
      by_cases hcc : c' = 128
      · exact .inl (List.eq_nil_of_length_eq_zero (by rw [List.length_drop, HDL.out]; omega))
      · rw [if_neg hcc]
        refine .inr ⟨b, off + 128, rfl, hb0, fun i hi => ?_⟩
        rw [List.length_drop] at hi
        rw [Nat.add_assoc, HCC.out (128 + i) (by omega), List.getD_eq_getElem?_getD, List.getD_eq_getElem?_getD, List.getElem?_drop, List.getElem?_drop, List.getElem?_drop]
    · have hge' : ¬ ((128 : Int) ≤ ((n - 128 * k : Nat) : Int)) := by omega
      have HQ : Hid (shaL zs = txtW (finL (blks zs k) (zs.drop (128 * k)) (n : Int))) := by
        show _ = _
        unfold shaL
        rw [HN.out, show n / 128 = k by omega]
      have HUN : Hid (U64 (n : Int)) := ⟨by omega, by omega⟩
      have HG0 : Hid (w1.heap.size ≠ 0) := by show ¬ _; omega
      obtain ⟨m, hm'⟩ : ∃ m, m = n - 128 * k := ⟨_, rfl⟩
      rw [← hm'] at HDL hge hge' hc' ⊢
      have hmm : m < 128 := by omega
      clear hm'
      have B := hid_ofS (fin_any w1.heap.size (blks zs k) a' m c' (zs.drop (128 * k)) (n : Int) wr HK.out.wds (blks_w8 _ _) HDL.out (HA'.out.below HK.out.below) HBY.out hmm HK.out.tab HG0.out HUN.out)
      go_wp2_with fail
      refine B.out.mono ?_
      rintro e w3 ⟨rfl, r3, b3⟩
      have HK3 : Hid (KS w w1.heap.size (finL (blks zs k) (zs.drop (128 * k)) n) w3) := HK.out.frg h0 b3 r3
      clear r3 b3 B HK
      have C := hid_ofS (textI_any w1.heap.size _ w3 HK3.out.wds (finL_w8 _ _ _))
      go_wp2_with fail
      refine C.out.mono ?_
      rintro e w4 ⟨v, rfl, o4, b4⟩
      have HO : Hid (Own w4 w.heap.size v (shaL zs)) := by rw [HQ.out]; exact o4.lower HK3.out.below.size
      have HB : Hid (Below w.heap.size w w4) := HK3.out.below.trans (b4.mono HK3.out.below.size)
      clear o4 b4 C HK3
      go_wp2
      go_ret
      exact ⟨_, rfl, HO.out, HB.out⟩
end Go.Proofs.YtclmhdhblghfnaaDoor
namespace Go.Proofs.YtclmhdhblghfnaaDoor
open Go.ChangeShapes Go.WideShapes Go.ChangeAt Go.RowKit
set_option linter.unusedVariables false

theorem run_sliceB (w : World) (b o c t : Nat) (ht : t < 16) (hc : 128 ≤ c) : (Instr.sliceAt 22 (.slice (some ⟨b, o, none⟩) 128 c) (some (.int .i64 (8 * (t : Int)))) (some (.int .i64 (8 * (t : Int) + 8))) none).run Tryd.prog w = .ok (.slice (some ⟨b, o + 8 * t, none⟩) 8 (c - 8 * t)) w := by
  have h2 : (8 * (t : Int) + 8) ≤ (c : Int) := by omega
  have h3 : (8 * (t : Int) + 8).toNat = 8 * t + 8 := by omega
  have h4 : ¬ (c = 8 * t) := by omega
  have h5 : (8 * (t : Int)).toNat = 8 * t := by omega
  have h6 : (0 : Int) ≤ 8 * (t : Int) := by omega
  have h7 : (0 : Int) ≤ 8 * (t : Int) + 8 := by omega
  unfold Instr.sliceAt
  simp [run_underlying Tryd.underlying22, go_sem, Instr.sliceBounds, h2, h3, h4, h5, h6, h7, Addr.add]
  rw [if_pos (by omega)]
  by_cases h0 : t = 0
  · subst h0; simp
  · rw [if_neg (by omega)]

/-- What l3Block is handed. -/
structure BK (w : World) (bh oh bb ob bk : Nat) (hs bs : List Int) : Prop where
  h : bh < w.heap.size ∧ ∀ i, i < 8 → w.cell? ⟨bh, oh + i, none⟩ = some (.int .u64 (hs.getD i 0))
  b : bb < w.heap.size ∧ ∀ i, i < 128 → w.cell? ⟨bb, ob + i, none⟩ = some (.int .u8 (bs.getD i 0))
  k : bk < w.heap.size ∧ ∀ i, i < 88 → w.cell? ⟨bk, i, none⟩ = some (.int .u64 (kt i))
theorem BK.below {w w' : World} {bh oh bb ob bk : Nat} {hs bs : List Int} (h : BK w bh oh bb ob bk hs bs) (hb : Below w.heap.size w w') : BK w' bh oh bb ob bk hs bs := by
  have := hb.size
  exact ⟨⟨by have := h.h.1; omega, fun i hi => by rw [World.cell?_of_block (w := w) (hb.block bh h.h.1)]; exact h.h.2 i hi⟩, ⟨by have := h.b.1; omega, fun i hi => by rw [World.cell?_of_block (w := w) (hb.block bb h.b.1)]; exact h.b.2 i hi⟩, ⟨by have := h.k.1; omega, fun i hi => by rw [World.cell?_of_block (w := w) (hb.block bk h.k.1)]; exact h.k.2 i hi⟩⟩

theorem rs1 (x : Int) (w : World) (hx : U64 x) : Calls Tryd.prog 70 #[.int .u64 x, .int .u64 1] w fun e w' => e = .returned (.int .u64 (rtr 1 x)) ∧ w' = w := rotS_any x 1 w (by decide) hx
theorem rs8 (x : Int) (w : World) (hx : U64 x) : Calls Tryd.prog 70 #[.int .u64 x, .int .u64 8] w fun e w' => e = .returned (.int .u64 (rtr 8 x)) ∧ w' = w := rotS_any x 8 w (by decide) hx
theorem rs19 (x : Int) (w : World) (hx : U64 x) : Calls Tryd.prog 70 #[.int .u64 x, .int .u64 19] w fun e w' => e = .returned (.int .u64 (rtr 19 x)) ∧ w' = w := rotS_any x 19 w (by decide) hx
theorem rs61 (x : Int) (w : World) (hx : U64 x) : Calls Tryd.prog 70 #[.int .u64 x, .int .u64 61] w fun e w' => e = .returned (.int .u64 (rtr 61 x)) ∧ w' = w := rotS_any x 61 w (by decide) hx
theorem rs28 (x : Int) (w : World) (hx : U64 x) : Calls Tryd.prog 70 #[.int .u64 x, .int .u64 28] w fun e w' => e = .returned (.int .u64 (rtr 28 x)) ∧ w' = w := rotS_any x 28 w (by decide) hx
theorem rs34 (x : Int) (w : World) (hx : U64 x) : Calls Tryd.prog 70 #[.int .u64 x, .int .u64 34] w fun e w' => e = .returned (.int .u64 (rtr 34 x)) ∧ w' = w := rotS_any x 34 w (by decide) hx
theorem rs39 (x : Int) (w : World) (hx : U64 x) : Calls Tryd.prog 70 #[.int .u64 x, .int .u64 39] w fun e w' => e = .returned (.int .u64 (rtr 39 x)) ∧ w' = w := rotS_any x 39 w (by decide) hx
theorem rs14 (x : Int) (w : World) (hx : U64 x) : Calls Tryd.prog 70 #[.int .u64 x, .int .u64 14] w fun e w' => e = .returned (.int .u64 (rtr 14 x)) ∧ w' = w := rotS_any x 14 w (by decide) hx
theorem rs18 (x : Int) (w : World) (hx : U64 x) : Calls Tryd.prog 70 #[.int .u64 x, .int .u64 18] w fun e w' => e = .returned (.int .u64 (rtr 18 x)) ∧ w' = w := rotS_any x 18 w (by decide) hx
theorem rs41 (x : Int) (w : World) (hx : U64 x) : Calls Tryd.prog 70 #[.int .u64 x, .int .u64 41] w fun e w' => e = .returned (.int .u64 (rtr 41 x)) ∧ w' = w := rotS_any x 41 w (by decide) hx
end Go.Proofs.YtclmhdhblghfnaaDoor
namespace Go.Proofs.YtclmhdhblghfnaaDoor
open Go.ChangeShapes Go.WideShapes Go.ChangeAt Go.RowKit
set_option linter.unusedVariables false

/-- What is through keeps its order. -/
def ClG (tb : List (Nat × Nat)) (L : Nat → Bool) : Prop := ∀ p, p ∈ tb → L p.1 = true → L p.2 = true
theorem updK_neO (L : Nat → Bool) {i j : Nat} (h : j ≠ i) : updK L i j = L j := by unfold updK; rw [if_neg h]
theorem updK_self (L : Nat → Bool) (i : Nat) : updK L i i = true := by unfold updK; rw [if_pos rfl]
theorem upd_ne (u : Nat → Value) {i j : Nat} (v : Value) (h : j ≠ i) : upd u i v j = u j := by unfold upd; rw [if_neg h]
theorem upd_self (u : Nat → Value) (i : Nat) (v : Value) : upd u i v i = v := by unfold upd; rw [if_pos rfl]
theorem ClG.step {tb : List (Nat × Nat)} {L : Nat → Bool} (h : ClG tb L) (i : Nat) (hd : ∀ p, p ∈ tb → p.1 = i → L p.2 = true) : ClG tb (updK L i) := by
  intro p hp h1
  have hu : ∀ k, L k = true → updK L i k = true := fun k hk => by unfold updK; split <;> simp [hk]
  by_cases e : p.1 = i
  · exact hu _ (hd p hp e)
  · rw [updK_neO L e] at h1
    exact hu _ (h p hp h1)
theorem ClG.back {tb : List (Nat × Nat)} {L : Nat → Bool} (h : ClG tb L) {a b : Nat} (hp : (a, b) ∈ tb) (hb : L b = false) : L a = false := by
  cases ha : L a with
  | false => rfl
  | true => have := h _ hp ha; rw [hb] at this; cases this
theorem ClG.none {tb : List (Nat × Nat)} {L : Nat → Bool} (h : ∀ i, L i = false) : ClG tb L := fun p _ h1 => by rw [h] at h1; cases h1
/-- Operation b builds, a appends, s assigns. -/
structure AC (tb : List (Nat × Nat)) (b a s : Nat) (V0 : Value) (W0 W1 : World) (Fin : World → Value → Prop) (L : Nat → Bool) (u : Nat → Value) (w' : World) : Prop where
  cl : ClG tb L
  old : L s = false → u s = V0
  new : L s = true → u s = u a
  ph : (L a = true ∧ Fin w' (u a)) ∨ (L a = false ∧ L b = true ∧ w' = W1) ∨ (L a = false ∧ L b = false ∧ w' = W0)
section
variable {tb : List (Nat × Nat)} {b a s : Nat} {V0 : Value} {W0 W1 : World} {Fin : World → Value → Prop} {L : Nat → Bool} {u : Nat → Value} {w' : World}
theorem AC.start (h : ∀ i, L i = false) (hu : u s = V0) : AC tb b a s V0 W0 W1 Fin L u W0 :=
  ⟨ClG.none h, fun _ => hu, fun h' => (by rw [h] at h'; cases h'), .inr (.inr ⟨h _, h _, rfl⟩)⟩
theorem AC.pure (h : AC tb b a s V0 W0 W1 Fin L u w') (i : Nat) (v : Value) (hb : b ≠ i) (ha : a ≠ i) (hs : s ≠ i) (hd : ∀ p, p ∈ tb → p.1 = i → L p.2 = true) : AC tb b a s V0 W0 W1 Fin (updK L i) (upd u i v) w' :=
  ⟨h.cl.step i hd, by rw [updK_neO L hs, upd_ne u v hs]; exact h.old, by rw [updK_neO L hs, upd_ne u v hs, upd_ne u v ha]; exact h.new, by rw [updK_neO L ha, updK_neO L hb, upd_ne u v ha]; exact h.ph⟩
theorem AC.world (h : AC tb b a s V0 W0 W1 Fin L u w') (hb : L b = false) (hp : (a, b) ∈ tb) : w' = W0 := by
  have ha := h.cl.back hp hb
  rcases h.ph with ⟨h1, _⟩ | ⟨_, h1, _⟩ | ⟨_, _, h1⟩
  · rw [ha] at h1; cases h1
  · rw [hb] at h1; cases h1
  · exact h1
theorem AC.build (h : AC tb b a s V0 W0 W1 Fin L u w') (v : Value) (hLb : L b = false) (hp : (a, b) ∈ tb) (ha : a ≠ b) (hs : s ≠ b) (hd : ∀ p, p ∈ tb → p.1 = b → L p.2 = true) : AC tb b a s V0 W0 W1 Fin (updK L b) (upd u b v) W1 :=
  ⟨h.cl.step b hd, by rw [updK_neO L hs, upd_ne u v hs]; exact h.old, by rw [updK_neO L hs, upd_ne u v hs, upd_ne u v ha]; exact h.new, .inr (.inl ⟨by rw [updK_neO L ha]; exact h.cl.back hp hLb, updK_self L b, rfl⟩)⟩
theorem AC.mid (h : AC tb b a s V0 W0 W1 Fin L u w') (hb : L b = true) (ha : L a = false) : w' = W1 := by
  rcases h.ph with ⟨h1, _⟩ | ⟨_, _, h1⟩ | ⟨_, h1, _⟩
  · rw [ha] at h1; cases h1
  · exact h1
  · rw [hb] at h1; cases h1
theorem AC.app (h : AC tb b a s V0 W0 W1 Fin L u w') {v : Value} {w9 : World} (hF : Fin w9 v) (hLa : L a = false) (hp : (s, a) ∈ tb) (hs : s ≠ a) (hd : ∀ p, p ∈ tb → p.1 = a → L p.2 = true) : AC tb b a s V0 W0 W1 Fin (updK L a) (upd u a v) w9 :=
  have hls := h.cl.back hp hLa
  ⟨h.cl.step a hd, by rw [updK_neO L hs, upd_ne u v hs]; exact h.old, fun h' => (by rw [updK_neO L hs, hls] at h'; cases h'), .inl ⟨updK_self L a, by rw [upd_self]; exact hF⟩⟩
theorem AC.asg (h : AC tb b a s V0 W0 W1 Fin L u w') (ha : a ≠ s) (hb : b ≠ s) (hd : ∀ p, p ∈ tb → p.1 = s → L p.2 = true) : AC tb b a s V0 W0 W1 Fin (updK L s) (upd u s (u a)) w' :=
  ⟨h.cl.step s hd, fun h' => (by rw [updK_self] at h'; cases h'), fun _ => (by rw [upd_self, upd_ne u _ ha]), by rw [updK_neO L ha, updK_neO L hb, upd_ne u _ ha]; exact h.ph⟩
theorem AC.fin (h : AC tb b a s V0 W0 W1 Fin L u w') (ha : L a = true) (hs : L s = true) : u s = u a ∧ Fin w' (u a) := by
  refine ⟨h.new hs, ?_⟩
  rcases h.ph with ⟨_, h1⟩ | ⟨h1, _⟩ | ⟨h1, _⟩
  · exact h1
  · rw [ha] at h1; cases h1
  · rw [ha] at h1; cases h1
end
/-- Operation b builds, s assigns. -/
structure AD (tb : List (Nat × Nat)) (b s : Nat) (V0 : Value) (W0 W1 : World) (L : Nat → Bool) (u : Nat → Value) (w' : World) : Prop where
  cl : ClG tb L
  old : L s = false → u s = V0
  ph : (L b = true ∧ w' = W1) ∨ (L b = false ∧ w' = W0)
section
variable {tb : List (Nat × Nat)} {b s : Nat} {V0 : Value} {W0 W1 : World} {L : Nat → Bool} {u : Nat → Value} {w' : World}
theorem AD.start (h : ∀ i, L i = false) (hu : u s = V0) : AD tb b s V0 W0 W1 L u W0 := ⟨ClG.none h, fun _ => hu, .inr ⟨h _, rfl⟩⟩
theorem AD.pure (h : AD tb b s V0 W0 W1 L u w') (i : Nat) (v : Value) (hb : b ≠ i) (hs : s ≠ i) (hd : ∀ p, p ∈ tb → p.1 = i → L p.2 = true) : AD tb b s V0 W0 W1 (updK L i) (upd u i v) w' :=
  ⟨h.cl.step i hd, by rw [updK_neO L hs, upd_ne u v hs]; exact h.old, by rw [updK_neO L hb]; exact h.ph⟩
theorem AD.world (h : AD tb b s V0 W0 W1 L u w') (hb : L b = false) : w' = W0 := by
  rcases h.ph with ⟨h1, _⟩ | ⟨_, h1⟩
  · rw [hb] at h1; cases h1
  · exact h1
theorem AD.build (h : AD tb b s V0 W0 W1 L u w') (v : Value) (hs : s ≠ b) (hd : ∀ p, p ∈ tb → p.1 = b → L p.2 = true) : AD tb b s V0 W0 W1 (updK L b) (upd u b v) W1 :=
  ⟨h.cl.step b hd, by rw [updK_neO L hs, upd_ne u v hs]; exact h.old, .inl ⟨updK_self L b, rfl⟩⟩
theorem AD.asg (h : AD tb b s V0 W0 W1 L u w') (v : Value) (hb : b ≠ s) (hd : ∀ p, p ∈ tb → p.1 = s → L p.2 = true) : AD tb b s V0 W0 W1 (updK L s) (upd u s v) w' :=
  ⟨h.cl.step s hd, fun h' => (by rw [updK_self] at h'; cases h'), by rw [updK_neO L hb]; exact h.ph⟩
theorem AD.fin (h : AD tb b s V0 W0 W1 L u w') (hb : L b = true) : w' = W1 := by
  rcases h.ph with ⟨_, h1⟩ | ⟨h1, _⟩
  · exact h1
  · rw [hb] at h1; cases h1
end
/-- append of words to a slice of the call's own, as one operation. -/
theorem wp_appU (w : World) {o : Oper} {a : Act} {K : Act → World → Prop} {Q : Exit → Act → World → Prop} (sx x : Operand)
    (hop : o.op = Op.call { callee := Callee.builtin Builtin.append, args := #[sx, x], argTypes := #[64, 64] }) (B : Nat) (v : Value) (xs : List Int) (hs : a.eval sx = v) (hown : OwnU w B v xs)
    (b off m c : Nat) (zs : List Int) (hx : a.eval x = .slice (some ⟨b, off, none⟩) m c) (hl : zs.length = m) (hc : ∀ i, i < zs.length → w.cell? ⟨b, off + i, none⟩ = some (.int .u64 (zs.getD i 0))) (hm : xs.length + m ≤ 1048576) (hB : B ≤ w.heap.size)
    (hK : ∀ v' w', OwnU w' B v' (xs ++ zs) → Below B w w' → K (a.put o.dst v') w') : o.wp Tryd.prog a w K Q := by
  obtain ⟨i0, hi, hz0, hz1, hz2⟩ := info_parts ktU.info
  have hbase := hown.base
  obtain ⟨v', w', hr, h2, h3, h4, h5⟩ := run_append_own_at (P := Tryd.prog) w B 64 o.type 39 i0 (.int .u64 0) 1 8 Tryd.underlying64 hi hz0 hz1 hz2 rfl (by decide) v xs.length _ hown.1 ⟨b, off, none⟩ m c (zs.map (Value.int .u64)) (by simp [hl]) (by
    intro j u hu
    have hj : j < zs.length := by have := (List.getElem?_eq_some_iff.1 hu).1; simpa using this
    rw [Addr.add_lit, hc j hj]
    simp [hj] at hu; simp [hj, hu]) (ints_oneCell _ _) (by unfold maxLen; omega) (by omega) hB
  obtain ⟨g, c0, hv, hBg, _, _⟩ := hbase
  have hbel : Below B w w' := (Below.refl _ _).grown h3 hB (fun k hk => by rw [hv] at hk; simp [Value.ownBlock] at hk; omega)
  have hk := hK v' w' ⟨by rw [List.map_append, List.length_append, hl]; exact h2, by
    rcases h2.2 with ⟨h', h''⟩ | ⟨g', c', cur, h', _⟩
    · exact absurd (h4.1 h').1 (by rw [hv]; simp)
    · exact ⟨g', c', by rw [h', List.length_append, hl]⟩⟩ hbel
  unfold Oper.wp execOp
  simp only [hop, resolve, invoke, builtin, Sem.run_bind, Sem.run_pure, Result.andThen_ok, List.map_toArray, List.map_cons, List.map_nil, hs, hx, hr]
  exact hk
end Go.Proofs.YtclmhdhblghfnaaDoor
