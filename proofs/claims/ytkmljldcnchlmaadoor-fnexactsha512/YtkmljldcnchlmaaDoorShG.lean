/-
  Own work: a block mixed into the words, by the program (2).
-/
import Derived.Test.YtkmljldcnchlmaaDoorShF
namespace Go.Proofs.YtkmljldcnchlmaaDoor
open Go.ChangeShapes Go.WideShapes Go.ChangeAt Go.RowKit
set_option linter.unusedVariables false

/-- The state of mix: the turned words stand in a block of its own. -/
structure MX (w : World) (g gB : Nat) (hs vs bs : List Int) (y : World) : Prop where
  tur : RowW y w.heap.size 33 vs
  wds : RowW y g 33 hs
  tab : TabIn y
  fr : FrG g w y
theorem MX.call {w : World} {g gB : Nat} {hs vs vs' bs : List Int} {y y' : World} (h : MX w g gB hs vs bs y) (hg : g < w.heap.size) (h0 : 0 < w.heap.size) (hr : RowW y' w.heap.size 33 vs') (hw : Wr w.heap.size y y') : MX w g gB hs vs' bs y' :=
  ⟨hr, hw.rowW h.wds (by omega), h.tab.frg (fun k _ e => hw.block k (by omega)), ⟨hw.os.trans h.fr.os, hw.tape.trans h.fr.tape, hw.output.trans h.fr.output, by rw [hw.size]; exact h.fr.size, fun k hk hkg => (hw.block k (by omega)).trans (h.fr.block k hk hkg)⟩⟩
theorem MX.set {w : World} {g gB : Nat} {hs vs bs : List Int} {y : World} (h : MX w g gB hs vs bs y) (hg : g < w.heap.size) (h0 : g ≠ 0) (k : Nat) (x : Int) : MX w g gB (hs.set k x) vs bs ((y.setCell ⟨g, k, none⟩ (.int .u64 x)).drew) := by
  have hw : Wr g y ((y.setCell ⟨g, k, none⟩ (.int .u64 x)).drew) := ((Wr.refl _ _).setCell k _).drew
  exact ⟨hw.rowW h.tur (by omega), h.wds.set k x, h.tab.frg (fun k _ e => hw.block k (by omega)), h.fr.trans hw.frg⟩

set_option maxRecDepth 100000 in
set_option maxHeartbeats 4000000 in
theorem mix_any (g gB : Nat) (hs bs : List Int) (w : World) (hr : RowW w g 33 hs) (hw8 : W8 hs) (hb : Row w gB 36 bs) (hl : bs.length = 128) (hz : Byte bs) (hT : TabIn w) (hg0 : g ≠ 0) :
    Calls Tryd.prog 16 #[.pointer (some ⟨g, 0, none⟩), .pointer (some ⟨gB, 0, none⟩)] w fun e w' => e = .returned (.tuple #[]) ∧ RowW w' g 33 (mixL hs bs) ∧ FrG g w w' := by
  have hgl := hr.lt
  have hbl := hb.lt
  have h0 : 0 < w.heap.size := by omega
  have H8 := hid_ofS hw8
  have HU := hid_ofS (fun t => wd_u64 hz hl t)
  have HR := hid_ofS hr
  have HZN : Hid (RowW (w.alloc (.cells #[.int .u64 0, .int .u64 0, .int .u64 0, .int .u64 0, .int .u64 0, .int .u64 0, .int .u64 0, .int .u64 0] 33)) w.heap.size 33 [0, 0, 0, 0, 0, 0, 0, 0]) := heap_alloc_new w _
  have HAL : Hid (Below w.heap.size w (w.alloc (.cells #[.int .u64 0, .int .u64 0, .int .u64 0, .int .u64 0, .int .u64 0, .int .u64 0, .int .u64 0, .int .u64 0] 33))) := (Below.refl _ _).alloc (Nat.le_refl _) _
  have HB := hid_ofS (And.intro hb (And.intro hl hz))
  have HT := hid_ofS hT
  clear hr hw8 hb hl hz hT
  go_enter Tryd.func16, Tryd.ntmps16
  go_wp2_with (first
    | (refine wpList_loadW rfl (.tmp 10) rfl Tryd.underlying33 Tryd.sizeWds g hs rfl H8.out.1 HR.out ?_)
    | (refine wpList_storeW rfl (.tmp 4) (.tmp 11) rfl Tryd.sizeWds w.heap.size hs [0, 0, 0, 0, 0, 0, 0, 0] rfl rfl H8.out.1 rfl HZN.out ?_)
    | fail)
  intro w1 hr1 hw1
  have FR1 : FrG g w w1 := ⟨hw1.os.trans HAL.out.os, hw1.tape.trans HAL.out.tape, hw1.output.trans HAL.out.output, by rw [hw1.size]; exact HAL.out.size, fun k hk _ => (hw1.block k (by omega)).trans (HAL.out.block k hk)⟩
  have HM : MX w g gB hs hs bs w1 := ⟨hr1, hw1.rowW (HR.out.below HAL.out hgl) (by omega), (HT.out.frg (fun k hk _ => HAL.out.block k hk)).frg (fun k _ e => hw1.block k (by omega)), FR1⟩
  have A := hid_ofS (sched_any gB bs w1 (by unfold Row; rw [hw1.block gB (by omega), HAL.out.block gB hbl]; exact HB.out.1) HB.out.2.1 HB.out.2.2)
  have HM1 := hid_ofS HM
  clear HM FR1 hr1 hw1 HZN HAL HR HT HB
  go_wp2_with fail
  refine A.out.mono ?_
  rintro e w2 ⟨rfl, b2⟩
  have HM2 : Hid (MX w g gB hs (rnds hs bs 0) bs w2) := ⟨HM1.out.tur.below b2 HM1.out.tur.lt, HM1.out.wds.below b2 HM1.out.wds.lt, HM1.out.tab.frg (fun k hk _ => b2.block k hk), HM1.out.fr.trans (frg_below b2)⟩
  clear b2 HM1 A
  have hix := hid_ofS (fun w k hk => idx80 w (schA bs 80) (schA_len _ _) k hk)
  obtain ⟨AV, hAV⟩ : ∃ AV, AV = ((schA bs 80).map (Value.int .u64)).toArray := ⟨_, rfl⟩
  rw [← hAV] at hix ⊢
  clear hAV
  go_wp2
  go_loopw [14] (fun i wr => ∃ k : Nat, k ≤ 80 ∧ i = .int .i64 k ∧ MX w g gB hs (rnds hs bs k) bs wr) (fun i _ => 80 - (intOf i).toNat)
  case atStart => exact ⟨0, by omega, rfl, HM2.out⟩
  case round =>
    clear HM2
    obtain ⟨k, hk, rfl, hm⟩ := hrel
    by_cases hlt : k < 80
    · have hlt' : (k : Int) < 80 := by omega
      have hx := fun w => hix.out w k hlt
      rw [schA_get _ _ _ hlt, if_pos hlt] at hx
      have hu := HU.out k
      have hc := hm.tab k (by omega)
      have hku := kt_u64 k
      have HMk := hid_ofS hm
      have hkt : kt k = ((tab.getD k 0 : Nat) : Int) := rfl
      rw [← hkt] at hc
      have A := hid_ofS (roundL_any w.heap.size 33 (rnds hs bs k) (IntKind.u64.wrap (kt k + wd bs k)) wr hm.tur (rnds_w8 H8.out bs k) (u64_wrap _))
      have HN : Hid (rnds hs bs (k + 1) = rnd (rnds hs bs k) (IntKind.u64.wrap (kt k + wd bs k))) := rfl
      clear hm hkt
      obtain ⟨v, hv⟩ : ∃ v, v = wd bs k := ⟨_, rfl⟩
      obtain ⟨c, hcc⟩ : ∃ c, c = kt k := ⟨_, rfl⟩
      rw [← hv] at hx hu A HN
      rw [← hcc] at hc hku A HN
      clear hv hcc
      obtain ⟨hu0, hu1⟩ := hu
      obtain ⟨hk0, hk1⟩ := hku
      go_wp2_with fail
      refine A.out.mono ?_
      rintro e w3 ⟨rfl, r3, b3⟩
      have HM3 : Hid (MX w g gB hs (rnds hs bs (k + 1)) bs w3) := by rw [HN.out]; exact HMk.out.call hgl h0 r3 b3
      clear r3 b3 A HMk HN hc hx
      go_wp2
      go_roundw
      case rel => exact ⟨k + 1, by omega, by go_num, HM3.out⟩
      case measure => simp [intOf]; omega
    · obtain rfl : k = 80 := by omega
      have hVS := rnds_w8 H8.out bs 80
      have HVL := hid_ofS hVS
      have HMF : Hid (mixL hs bs = mixA hs (rnds hs bs 80) 8) := rfl
      obtain ⟨vs, hvs⟩ : ∃ vs, vs = rnds hs bs 80 := ⟨_, rfl⟩
      rw [← hvs] at hm HVL HMF
      clear hVS hvs
      have HM3 := hid_ofS hm
      have HMZ : Hid (MX w g gB (mixA hs vs 0) vs bs wr) := by rw [mixA_zero H8.out]; exact hm
      clear hm hix
      go_wp2_with (first
        | (refine wpList_loadW rfl (.tmp 4) rfl Tryd.underlying33 Tryd.sizeWds w.heap.size vs rfl HVL.out.1 HM3.out.tur ?_)
        | fail)
      have hix := hid_ofS (fun w k hk => idx8 w vs HVL.out.1 k hk)
      obtain ⟨BV, hBV⟩ : ∃ BV, BV = (vs.map (Value.int .u64)).toArray := ⟨_, rfl⟩
      rw [← hBV] at hix ⊢
      clear hBV HM3
      go_wp2
      go_loopw [26] (fun i wr => ∃ k : Nat, k ≤ 8 ∧ i = .int .i64 k ∧ MX w g gB (mixA hs vs k) vs bs wr) (fun i _ => 8 - (intOf i).toNat)
      case atStart => exact ⟨0, by omega, rfl, HMZ.out⟩
      case round =>
        rename_i wq _
        obtain ⟨k, hk, rfl, hm⟩ := hrel
        by_cases hlt : k < 8
        · have hlt' : (k : Int) < 8 := by omega
          have hx := fun w => hix.out w k hlt
          have hu := HVL.out.2 k
          have hh := H8.out.2 k
          have hc := hm.wds.cell k (by rw [mixA_len]; exact hlt)
          rw [mixA_get _ _ _ _ hlt, if_neg (by omega)] at hc
          have hf := hm.wds.frozen k
          have hn := hm.set hgl hg0 k (IntKind.u64.wrap (hs.getD k 0 + vs.getD k 0))
          rw [mixA_set _ _ _ hlt] at hn
          have HN := hid_ofS hn
          clear hn hm
          obtain ⟨v, hv⟩ : ∃ v, v = vs.getD k 0 := ⟨_, rfl⟩
          obtain ⟨c, hcc⟩ : ∃ c, c = hs.getD k 0 := ⟨_, rfl⟩
          rw [← hv] at hx hu HN
          rw [← hcc] at hc hh HN
          clear hv hcc
          obtain ⟨hu0, hu1⟩ := hu
          obtain ⟨hh0, hh1⟩ := hh
          go_wp2
          go_region
          go_wp2
          go_roundw
          case rel => exact ⟨k + 1, by omega, by go_num, HN.out⟩
          case measure => simp [intOf]; omega
        · obtain rfl : k = 8 := by omega
          have HN := hid_ofS hm
          clear hm
          go_wp2
          go_end0
          rw [HMF.out]
          exact ⟨rfl, HN.out.wds, HN.out.fr⟩
end Go.Proofs.YtkmljldcnchlmaaDoor
