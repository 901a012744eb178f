/-
  Own work: the last blocks, by the program.
-/
import Derived.Test.YtclmhdhblghfnaaDoorMShH
import Derived.ScopeJumps
import Derived.WalkMore
namespace Go.Proofs.YtclmhdhblghfnaaDoor
open Go.ChangeShapes Go.WideShapes Go.ChangeAt Go.RowKit
set_option linter.unusedVariables false

/-- The rest of a message with the mark behind it, as a block. -/
def mrk (zs : List Int) : List Int := (blkOf zs).set zs.length 128
def lenB (bs : List Int) (n : Int) : List Int := ov8 (ov8 bs 112 (n / 2 ^ 61) 8) 120 (IntKind.u64.wrap (n * 8)) 8
def finL (hs zs : List Int) (n : Int) : List Int :=
  if zs.length < 112 then mixL hs (lenB (mrk zs) n) else mixL (mixL hs (mrk zs)) (lenB (List.replicate 128 0) n)
theorem mrk_len (zs : List Int) : (mrk zs).length = 128 := by unfold mrk; rw [List.length_set, blkOf_len]
theorem ov8_byte {bs : List Int} (h : Byte bs) (o : Nat) (v : Int) (k : Nat) : Byte (ov8 bs o v k) := by
  induction k with
  | zero => exact h
  | succ k ih =>
    intro z hz
    rcases List.mem_or_eq_of_mem_set hz with h' | rfl
    · exact ih z h'
    · omega
theorem mrk_byte {zs : List Int} (h : Byte zs) : Byte (mrk zs) := by
  intro z hz
  rcases List.mem_or_eq_of_mem_set hz with h' | rfl
  · exact blkOf_byte h z h'
  · exact ⟨by decide, by decide⟩
theorem lenB_len {bs : List Int} (h : bs.length = 128) (n : Int) : (lenB bs n).length = 128 := by unfold lenB; rw [ov8_len, ov8_len, h]
theorem lenB_byte {bs : List Int} (h : Byte bs) (n : Int) : Byte (lenB bs n) := ov8_byte (ov8_byte h _ _ _) _ _ _
theorem zero_byte (n : Nat) : Byte (List.replicate n 0) := fun z h => by rw [(List.mem_replicate.1 h).2]; exact ⟨by decide, by decide⟩

theorem jump_ret (l : Nat) (J : Act → World → Prop) (Q : Exit → Act → World → Prop) (a : Act) (w : World) : Exit.jump l J Q .ret a w = Q .ret a w := rfl
/-- A scope with two jumps, to label 0 and from there to label 1. -/
theorem wp_scope_two {P : Program} {a : Act} {w : World} {Q : Exit → Act → World → Prop} {c r0 r1 : Code} (J0 J1 : Act → World → Prop) (h0 : findLabel c 0 = some r0) (h1 : findLabel c 1 = some r1)
    (first : c.wp P (Exit.jump 0 J0 Q) a w) (p0 : ∀ a w, J0 a w → r0.wp P (Exit.jump 1 J1 Q) a w) (p1 : ∀ a w, J1 a w → r1.wp P (Exit.jump 0 (fun _ _ => False) Q) a w) : (Code.scope c).wp P Q a w := by
  intro b k cs
  have hg0 : gotoIn 0 (.inScope c :: k) = some (.code r0 :: .inScope c :: k) := by simp [gotoIn, h0]
  have hg1 : gotoIn 1 (.inScope c :: k) = some (.code r1 :: .inScope c :: k) := by simp [gotoIn, h1]
  have k1 : ∀ a w, J1 a w → ∃ e a' w', Q e a' w' ∧ Arrives P (lone (b.at a (.code r1 :: .inScope c :: k)) cs w) b k cs e a' w' := by
    intro a w hJ
    obtain ⟨e, a₁, w₁, hq, harr⟩ := p1 a w hJ b (.inScope c :: k) cs
    cases e with
    | normal => exact ⟨.normal, a₁, w₁, hq, Steps.trans harr (.one step_inScope)⟩
    | exit id => exact ⟨.exit id, a₁, w₁, hq, fun k' hk => harr k' (by simp [exitTo, hk])⟩
    | goto l' => exact absurd hq.2 id
    | ret => exact ⟨_, a₁, w₁, hq, harr⟩
    | panic ch => exact ⟨_, a₁, w₁, hq, harr⟩
    | outgrown => exact ⟨_, a₁, w₁, hq, harr⟩
  have k0 : ∀ a w, J0 a w → ∃ e a' w', Q e a' w' ∧ Arrives P (lone (b.at a (.code r0 :: .inScope c :: k)) cs w) b k cs e a' w' := by
    intro a w hJ
    obtain ⟨e, a₁, w₁, hq, harr⟩ := p0 a w hJ b (.inScope c :: k) cs
    cases e with
    | normal => exact ⟨.normal, a₁, w₁, hq, Steps.trans harr (.one step_inScope)⟩
    | exit id => exact ⟨.exit id, a₁, w₁, hq, fun k' hk => harr k' (by simp [exitTo, hk])⟩
    | goto l' =>
      obtain ⟨rfl, hJ'⟩ := hq
      obtain ⟨e₂, a₂, w₂, hq₂, harr₂⟩ := k1 a₁ w₁ hJ'
      exact ⟨e₂, a₂, w₂, hq₂, .of_steps (harr _ hg1) harr₂⟩
    | ret => exact ⟨_, a₁, w₁, hq, harr⟩
    | panic ch => exact ⟨_, a₁, w₁, hq, harr⟩
    | outgrown => exact ⟨_, a₁, w₁, hq, harr⟩
  obtain ⟨e, a₁, w₁, hq, harr⟩ := first b (.inScope c :: k) cs
  cases e with
  | normal => exact ⟨.normal, a₁, w₁, hq, .head step_scope (Steps.trans harr (.one step_inScope))⟩
  | exit id => exact ⟨.exit id, a₁, w₁, hq, fun k' hk => .head step_scope (harr k' (by simp [exitTo, hk]))⟩
  | goto l' =>
    obtain ⟨rfl, hJ'⟩ := hq
    obtain ⟨e₂, a₂, w₂, hq₂, harr₂⟩ := k0 a₁ w₁ hJ'
    exact ⟨e₂, a₂, w₂, hq₂, .of_steps (.head step_scope (harr _ hg0)) harr₂⟩
  | ret => exact ⟨_, a₁, w₁, hq, .of_steps (.one step_scope) harr⟩
  | panic ch => exact ⟨_, a₁, w₁, hq, .of_steps (.one step_scope) harr⟩
  | outgrown => exact ⟨_, a₁, w₁, hq, .of_steps (.one step_scope) harr⟩

/-- The state of finish: the last block stands in a block of its own. -/
structure FS (w : World) (g gL : Nat) (hs bs : List Int) (y : World) : Prop where
  row : Row y gL 79 bs
  wds : RowW y g 76 hs
  tab : TabIn y
  fr : FrG g w y
  hi : w.heap.size ≤ gL
theorem FS.mix {w : World} {g gL : Nat} {hs hs' bs : List Int} {y y' : World} (h : FS w g gL hs bs y) (hg : g < w.heap.size) (h0 : g ≠ 0) (hr : RowW y' g 76 hs') (hf : FrG g y y') : FS w g gL hs' bs y' :=
  ⟨hf.row h.row (by have := h.hi; omega), hr, h.tab.frg (fun k hk e => hf.block k hk (by omega)), h.fr.trans hf, h.hi⟩
theorem FS.put {w : World} {g gL : Nat} {hs bs bs' : List Int} {y y' : World} (h : FS w g gL hs bs y) (hg : g < w.heap.size) (h0 : g ≠ 0) (hr : Row y' gL 79 bs') (hw : Wr gL y y') : FS w g gL hs bs' y' := by
  have := h.hi
  exact ⟨hr, hw.rowW h.wds (by omega), h.tab.frg (fun k hk e => hw.block k (by omega)), ⟨hw.os.trans h.fr.os, hw.tape.trans h.fr.tape, hw.output.trans h.fr.output, by rw [hw.size]; exact h.fr.size, fun k hk hkg => (hw.block k (by omega)).trans (h.fr.block k hk hkg)⟩, h.hi⟩

set_option maxRecDepth 100000 in
set_option maxHeartbeats 2000000 in
theorem fin_any (g : Nat) (hs : List Int) (a : Option Addr) (n cap : Nat) (zs : List Int) (len : Int) (w : World) (hr : RowW w g 76 hs) (h8 : W8 hs) (hn : zs.length = n) (ha : At .u8 w a zs) (hz : Byte zs) (hm : n < 128) (hT : TabIn w) (hg0 : g ≠ 0) (hu : U64 len) :
    Calls Tryd.prog 57 #[.pointer (some ⟨g, 0, none⟩), .slice a n cap, .int .u64 len] w fun e w' => e = .returned (.tuple #[]) ∧ RowW w' g 76 (finL hs zs len) ∧ FrG g w w' := by
  have hgl := hr.lt
  have z1 := zvBlk
  have z2 := zsBlk
  have z3 := znBlk
  have A := hid_ofS (blk_any a n cap zs w hn ha (by omega))
  have HR := hid_ofS hr
  have H8 := hid_ofS h8
  have HT := hid_ofS hT
  have HU := hid_ofS hu
  have HZ := hid_ofS hz
  have HN := hid_ofS hn
  have hm' : (n : Int) < 128 := by omega
  clear hr h8 hT hu hz hn ha
  by_cases hc : n < 112
  · have hc' : (n : Int) < 112 := by omega
    have HF : Hid (finL hs zs len = mixL hs (lenB (mrk zs) len)) := by show _ = _; unfold finL; rw [HN.out, if_pos hc]
    go_enter Tryd.func57, Tryd.ntmps57
    go_step3
    go_wp2_with fail
    refine A.out.mono ?_
    rintro e w1 ⟨rfl, b1⟩
    have HB1 := hid_ofS b1
    clear A b1
    have HZN : Hid (Row (w1.alloc (.cells zBlk 79)) w1.heap.size 79 (List.replicate 128 0)) := by show _ = _; rw [heap_alloc_new, zcBlk]
    have HAL : Hid (Below w1.heap.size w1 (w1.alloc (.cells zBlk 79))) := (Below.refl _ _).alloc (Nat.le_refl _) _
    have HLB := hid_ofS (blkOf_len zs)
    go_wp2_with (first
      | (refine wpList_storeB rfl (.tmp 6) (.tmp 8) rfl Tryd.sizeBlk w1.heap.size (blkOf zs) (List.replicate 128 0) rfl rfl HLB.out (by simp) HZN.out ?_)
      | fail)
    intro w2 hr2 hw2
    have hs1 := HB1.out.size
    have F2 : FS w g w1.heap.size hs (blkOf zs) w2 := ⟨hr2, hw2.rowW ((HR.out.below HB1.out hgl).below HAL.out (by omega)) (by omega), ((HT.out.frg (fun k hk _ => HB1.out.block k hk)).frg (fun k hk _ => HAL.out.block k hk)).frg (fun k _ e => hw2.block k (by omega)),
      ⟨hw2.os.trans (HAL.out.os.trans HB1.out.os), hw2.tape.trans (HAL.out.tape.trans HB1.out.tape), hw2.output.trans (HAL.out.output.trans HB1.out.output), by rw [hw2.size]; exact Nat.le_trans hs1 HAL.out.size, fun k hk _ => (hw2.block k (by omega)).trans ((HAL.out.block k (by omega)).trans (HB1.out.block k hk))⟩, hs1⟩
    have hcl := hr2.cell n (by rw [blkOf_len]; exact hm)
    have hfz := hr2.frozen n
    have HS : Hid (FS w g w1.heap.size hs (mrk zs) (w2.setCell ⟨w1.heap.size, n, none⟩ (.int .u8 128))) := by
      have := F2.put hgl hg0 (hr2.set n 128) ((Wr.refl _ _).setCell n _)
      unfold mrk; rw [HN.out]; exact this
    clear F2 hr2 hw2 HB1 HAL HZN HLB HR HT
    obtain ⟨w3, hw3⟩ : ∃ w3, w3 = w2.setCell ⟨w1.heap.size, n, none⟩ (.int .u8 128) := ⟨_, rfl⟩
    rw [← hw3] at HS
    have HW3 := hid_ofS hw3
    clear hw3
    go_upto_region 2 with fail
    rw [← HW3.out]
    clear hcl hfz HW3 z1 z2 z3
    go_wp2
    go_step3
    go_wp2_with fail
    have B := hid_ofS (setL_any w1.heap.size len (mrk zs) w3 HS.out.row (mrk_len _) HU.out)
    refine B.out.mono ?_
    rintro e w4 ⟨rfl, r4, b4⟩
    have HS4 : Hid (FS w g w1.heap.size hs (lenB (mrk zs) len) w4) := HS.out.put hgl hg0 r4 b4
    have C := hid_ofS (mix_any g w1.heap.size hs (lenB (mrk zs) len) w4 HS4.out.wds H8.out HS4.out.row (lenB_len (mrk_len _) _) (lenB_byte (mrk_byte HZ.out) _) HS4.out.tab hg0)
    clear r4 b4 B HS
    go_wp2_with fail
    refine C.out.mono ?_
    rintro e w5 ⟨rfl, r5, b5⟩
    have HS5 : Hid (FS w g w1.heap.size (finL hs zs len) (lenB (mrk zs) len) w5) := by rw [HF.out]; exact HS4.out.mix hgl hg0 r5 b5
    clear r5 b5 C HS4
    go_wp2
    rw [Exit.noGoto_ret]
    refine bodyPost_ret (results_none rfl _ _ _) rfl ?_
    exact ⟨rfl, HS5.out.wds, HS5.out.fr⟩
  · have hc' : ¬ ((n : Int) < 112) := by omega
    have HF : Hid (finL hs zs len = mixL (mixL hs (mrk zs)) (lenB (List.replicate 128 0) len)) := by show _ = _; unfold finL; rw [HN.out, if_neg hc]
    go_enter Tryd.func57, Tryd.ntmps57
    refine wp_scope_two
      (fun a' w' => ∃ gL u3 u4 u5 u7 u8 u9 u10 u11 u12 u13 u14 u15 u16 u17 u18 u19 u20 u21, a' = ⟨#[.pointer (some ⟨g, 0, none⟩), .slice a n cap, .int .u64 len, u3, u4, u5, .pointer (some ⟨gL, 0, none⟩), u7, u8, u9, u10, u11, u12, u13, u14, u15, u16, u17, u18, u19, u20, u21], []⟩ ∧ FS w g gL hs (mrk zs) w')
      (fun a' w' => ∃ gL u3 u4 u5 u7 u8 u9 u10 u11 u12 u13 u14 u15 u16 u17 u18 u19 u20 u21, a' = ⟨#[.pointer (some ⟨g, 0, none⟩), .slice a n cap, .int .u64 len, u3, u4, u5, .pointer (some ⟨gL, 0, none⟩), u7, u8, u9, u10, u11, u12, u13, u14, u15, u16, u17, u18, u19, u20, u21], []⟩ ∧ FS w g gL (mixL hs (mrk zs)) (List.replicate 128 0) w')
      rfl rfl ?first ?p0 ?p1
    case first =>
      go_wp2_with fail
      refine A.out.mono ?_
      rintro e w1 ⟨rfl, b1⟩
      have HB1 := hid_ofS b1
      clear A b1
      have HZN : Hid (Row (w1.alloc (.cells zBlk 79)) w1.heap.size 79 (List.replicate 128 0)) := by show _ = _; rw [heap_alloc_new, zcBlk]
      have HAL : Hid (Below w1.heap.size w1 (w1.alloc (.cells zBlk 79))) := (Below.refl _ _).alloc (Nat.le_refl _) _
      have HLB := hid_ofS (blkOf_len zs)
      go_wp2_with (first
        | (refine wpList_storeB rfl (.tmp 6) (.tmp 8) rfl Tryd.sizeBlk w1.heap.size (blkOf zs) (List.replicate 128 0) rfl rfl HLB.out (by simp) HZN.out ?_)
        | fail)
      intro w2 hr2 hw2
      have hs1 := HB1.out.size
      have F2 : FS w g w1.heap.size hs (blkOf zs) w2 := ⟨hr2, hw2.rowW ((HR.out.below HB1.out hgl).below HAL.out (by omega)) (by omega), ((HT.out.frg (fun k hk _ => HB1.out.block k hk)).frg (fun k hk _ => HAL.out.block k hk)).frg (fun k _ e => hw2.block k (by omega)),
        ⟨hw2.os.trans (HAL.out.os.trans HB1.out.os), hw2.tape.trans (HAL.out.tape.trans HB1.out.tape), hw2.output.trans (HAL.out.output.trans HB1.out.output), by rw [hw2.size]; exact Nat.le_trans hs1 HAL.out.size, fun k hk _ => (hw2.block k (by omega)).trans ((HAL.out.block k (by omega)).trans (HB1.out.block k hk))⟩, hs1⟩
      have hcl := hr2.cell n (by rw [blkOf_len]; exact hm)
      have hfz := hr2.frozen n
      have HS : Hid (FS w g w1.heap.size hs (mrk zs) (w2.setCell ⟨w1.heap.size, n, none⟩ (.int .u8 128))) := by
        have := F2.put hgl hg0 (hr2.set n 128) ((Wr.refl _ _).setCell n _)
        unfold mrk; rw [HN.out]; exact this
      clear F2 hr2 hw2 HB1 HAL HZN HLB HR HT
      obtain ⟨w3, hw3⟩ : ∃ w3, w3 = w2.setCell ⟨w1.heap.size, n, none⟩ (.int .u8 128) := ⟨_, rfl⟩
      rw [← hw3] at HS
      have HW3 := hid_ofS hw3
      clear hw3
      go_upto_region 2 with fail
      rw [← HW3.out]
      clear hcl hfz HW3 z1 z2 z3
      go_wp2
      go_step3
      exact ⟨rfl, w1.heap.size, _, _, _, _, _, _, _, _, _, _, _, _, _, _, _, _, _, _, rfl, HS.out⟩
    case p0 =>
      clear A HR HT
      rintro a' w' ⟨gL, u3, u4, u5, u7, u8, u9, u10, u11, u12, u13, u14, u15, u16, u17, u18, u19, u20, u21, rfl, hs'⟩
      have HS := hid_ofS hs'
      have C := hid_ofS (mix_any g gL hs (mrk zs) w' hs'.wds H8.out hs'.row (mrk_len _) (mrk_byte HZ.out) hs'.tab hg0)
      clear hs'
      go_wp2_with fail
      refine C.out.mono ?_
      rintro e w5 ⟨rfl, r5, b5⟩
      have HS5 : Hid (FS w g gL (mixL hs (mrk zs)) (mrk zs) w5) := HS.out.mix hgl hg0 r5 b5
      clear r5 b5 C HS
      go_wp2_with (first
        | (refine wpList_storeB rfl (.tmp 6) (.tmp 21) rfl Tryd.sizeBlk gL (List.replicate 128 0) (mrk zs) rfl rfl (by simp) (mrk_len _) HS5.out.row ?_)
        | fail)
      intro w6 r6 b6
      have HS6 : Hid (FS w g gL (mixL hs (mrk zs)) (List.replicate 128 0) w6) := HS5.out.put hgl hg0 r6 b6
      clear r6 b6 HS5
      go_wp2
      go_step3
      exact ⟨rfl, gL, _, _, _, _, _, _, _, _, _, _, _, _, _, _, _, _, _, _, rfl, HS6.out⟩
    case p1 =>
      clear A HR HT
      rintro a' w' ⟨gL, u3, u4, u5, u7, u8, u9, u10, u11, u12, u13, u14, u15, u16, u17, u18, u19, u20, u21, rfl, hs'⟩
      have HS := hid_ofS hs'
      clear hs'
      go_wp2_with fail
      have B := hid_ofS (setL_any gL len (List.replicate 128 0) w' HS.out.row (by simp) HU.out)
      refine B.out.mono ?_
      rintro e w4 ⟨rfl, r4, b4⟩
      have HS4 : Hid (FS w g gL (mixL hs (mrk zs)) (lenB (List.replicate 128 0) len) w4) := HS.out.put hgl hg0 r4 b4
      have C := hid_ofS (mix_any g gL (mixL hs (mrk zs)) (lenB (List.replicate 128 0) len) w4 HS4.out.wds (mixL_w8 _ _) HS4.out.row (lenB_len (by simp) _) (lenB_byte (zero_byte _) _) HS4.out.tab hg0)
      clear r4 b4 B HS
      go_wp2_with fail
      refine C.out.mono ?_
      rintro e w5 ⟨rfl, r5, b5⟩
      have HS5 : Hid (FS w g gL (finL hs zs len) (lenB (List.replicate 128 0) len) w5) := by rw [HF.out]; exact HS4.out.mix hgl hg0 r5 b5
      clear r5 b5 C HS4
      go_wp2
      rw [jump_ret]
      refine bodyPost_ret (results_none rfl _ _ _) rfl ?_
      exact ⟨rfl, HS5.out.wds, HS5.out.fr⟩
end Go.Proofs.YtclmhdhblghfnaaDoor
namespace Go.Proofs.YtclmhdhblghfnaaDoor
open Go.ChangeShapes Go.WideShapes Go.ChangeAt Go.RowKit
set_option linter.unusedVariables false

set_option maxHeartbeats 1000000 in
theorem bytesS_any (x : Int) (w : World) (hx : U64 x) :
    Calls Tryd.prog 42 #[.int .u64 x] w fun e w' => ∃ v, e = .returned v ∧ Own w' w.heap.size v (by8 x) ∧ Below w.heap.size w w' := by
  obtain ⟨hx0, hx1⟩ := hx
  go_enter Tryd.func42, Tryd.ntmps42
  go_wp2
  go_loopw [3, 4] (fun v i wr => ∃ j : Nat, j ≤ 8 ∧ i = .int .i64 (56 - 8 * (j : Int)) ∧ Own wr w.heap.size v ((by8 x).take j) ∧ Below w.heap.size w wr) (fun _ i _ => (intOf i + 8).toNat)
  case atStart => exact ⟨0, by omega, rfl, Own.empty _ _ (Nat.le_refl _), (Below.refl _ _).alloc (Nat.le_refl _) _⟩
  case round =>
    obtain ⟨j, hj, rfl, hown, hbel⟩ := hrel
    by_cases hlj : j < 8
    · have hlj' : (0 : Int) ≤ 56 - 8 * (j : Int) := by omega
      have hsz := hbel.size
      have HE := hid_ofS (by8_take x j hlj)
      have HLJ : Hid (((by8 x).take j).length + 1 ≤ 1099511627776) := by show _ ≤ _; rw [List.length_take, by8_len]; omega
      have HO := hid_ofS hown
      have HB := hid_ofS hbel
      clear hown hbel
      go_wp2_with (at_builtin; refine wpList_app _ rfl _ _ rfl w.heap.size _ _ rfl (HO.out.alloc _) ⟨wr.heap.size, 0, none⟩ 1 1 [x / 2 ^ (56 - 8 * j) % 256] rfl rfl ?c1 HLJ.out ?c3 ?_)
      all_goals first | (intro j' hj'; obtain rfl : j' = 0 := by omega
                         simp [Addr.add]; done) | skip
      case c3 => rw [World.size_alloc]; omega
      intro v' w2 hown' hbel' _
      have HO2 : Hid (Own w2 w.heap.size v' ((by8 x).take (j + 1))) := by rw [HE.out]; exact hown'
      have HB2 : Hid (Below w.heap.size w w2) := (HB.out.alloc hsz _).trans hbel'
      clear hown' hbel' HO HB HE HLJ
      go_wp2
      go_roundw
      case rel => exact ⟨j + 1, by omega, by go_num, HO2.out, HB2.out⟩
      case measure => simp [intOf]; omega
    · obtain rfl : j = 8 := by omega
      have HOW := hid_ofS hown
      rw [List.take_of_length_le (by rw [by8_len]; exact Nat.le_refl _)] at HOW
      have HBE := hid_ofS hbel
      clear hown hbel
      go_wp2
      go_ret
      exact ⟨_, rfl, HOW.out, HBE.out⟩

def lenOf : Value → Nat
  | .slice _ n _ => n
  | _ => 0
/-- How many zeros stand behind the mark. -/
def padZ (n : Nat) : Nat := (239 - n % 128) % 128
theorem padZ_spec (n : Nat) : (n + 1 + padZ n) % 128 = 112 ∧ padZ n < 128 := by unfold padZ; omega
theorem padZ_min (n j : Nat) (h : j < padZ n) : (n + 1 + j) % 128 ≠ 112 := by unfold padZ at h; omega
def padL (zs : List Int) : List Int := zs ++ [128] ++ List.replicate (padZ zs.length) 0 ++ List.replicate 8 0 ++ by8 (8 * (zs.length : Int))

theorem own_grow {w w' : World} {B : Nat} {v : Value} {zs : List Int} (h : Own w B v zs) (hb : Below w.heap.size w w') : Own w' B v zs := by
  refine ⟨⟨h.1.1, ?_⟩, h.2⟩
  rcases h.1.2 with h' | ⟨g, c, cur, h1, h2, h3, h4⟩
  · exact .inl h'
  · exact .inr ⟨g, c, cur, h1, h2, by rw [hb.block g (Array.getElem?_eq_some_iff.1 h3).1]; exact h3, h4⟩
theorem wpList_app1b (w : World) {ops : Array Oper} {rest : List Oper} {o : Oper} {a : Act} {Q : Exit → Act → World → Prop}
    (hg : o.guard = none) (s x : Operand) (hop : o.op = Op.call { callee := Callee.builtin Builtin.append, args := #[s, x], argTypes := #[22, 22] })
    (B : Nat) (v : Value) (xs : List Int) (hs : a.eval s = v) (hown : Own w B v xs) (g : Nat) (ns : List Int) (m : Nat) (hm : ns.length = m) (hx : a.eval x = .slice (some ⟨g, 0, none⟩) m m) (hr : Row w g 5 ns) (hb : xs.length + m ≤ 1099511627776) (hB : B ≤ w.heap.size)
    (hK : ∀ v' w', Own w' B v' (xs ++ ns) → Below B w w' → wpList Tryd.prog ops Q rest (a.put o.dst v') w') :
    wpList Tryd.prog ops Q (o :: rest) a w :=
  wpList_app w hg s x hop B v xs hs hown ⟨g, 0, none⟩ m m ns hx hm (fun j hj => by rw [Addr.add_lit, Nat.zero_add]; exact hr.cell j (by omega)) hb hB (fun v' w' h1 h2 _ => hK v' w' h1 h2)

set_option maxRecDepth 100000 in
set_option maxHeartbeats 2000000 in
theorem padS_any (b off cap n : Nat) (zs : List Int) (w : World) (hn : zs.length = n) (hb : b < w.heap.size) (hc : ∀ i, i < zs.length → w.cell? ⟨b, off + i, none⟩ = some (.int .u8 (zs.getD i 0))) (hm : n ≤ 2097152) :
    Calls Tryd.prog 40 #[.slice (some ⟨b, off, none⟩) n cap] w fun e w' => ∃ v, e = .returned v ∧ Own w' w.heap.size v (padL zs) ∧ Below w.heap.size w w' := by
  have HC := hid_ofS hc
  have HN := hid_ofS hn
  have HE0 := hid_ofS (Own.empty w w.heap.size (Nat.le_refl _))
  have HAL : Hid (Below w.heap.size w (w.alloc (.cells #[] 5))) := (Below.refl _ _).alloc (Nat.le_refl _) _
  clear hc hn
  go_enter Tryd.func40, Tryd.ntmps40
  go_wp2_with (at_builtin; refine wpList_app _ rfl _ _ rfl w.heap.size _ [] rfl HE0.out ⟨b, off, none⟩ n cap zs rfl HN.out ?c1 (by simp; omega) (by simp) ?_)
  case c1 =>
    intro j hj
    rw [Addr.add_lit, HAL.out.cell (p := ⟨b, off + j, none⟩) hb]
    exact HC.out j (by rw [HN.out]; exact hj)
  intro v1 w1 o1 b1 _
  have HO1 : Hid (Own w1 w.heap.size v1 zs) := o1
  have HB1 : Hid (Below w.heap.size w w1) := HAL.out.trans b1
  clear o1 b1 HE0 HAL
  have HLN : Hid (zs.length + 1 ≤ 1099511627776) := by show _ ≤ _; rw [HN.out]; omega
  have hs1 := HB1.out.size
  go_wp2_with (at_builtin; refine wpList_app _ rfl _ _ rfl w.heap.size _ _ rfl (HO1.out.alloc _) ⟨w1.heap.size, 0, none⟩ 1 1 [128] rfl rfl ?c1 HLN.out ?c3 ?_)
  all_goals first | (intro j' hj'; obtain rfl : j' = 0 := by omega
                     simp [Addr.add]; done) | skip
  case c3 => rw [World.size_alloc]; omega
  intro v2 w2 o2 b2 _
  have HO2 : Hid (Own w2 w.heap.size v2 (zs ++ [128] ++ List.replicate 0 0)) := by show Own _ _ _ _; simpa using o2
  have HB2 : Hid (Below w.heap.size w w2) := (HB1.out.alloc hs1 _).trans b2
  clear o2 b2 HO1 HB1 HLN hs1
  go_wp2
  go_loopw [3] (fun v wr => ∃ j : Nat, j ≤ padZ n ∧ Own wr w.heap.size v (zs ++ [128] ++ List.replicate j 0) ∧ Below w.heap.size w wr) (fun v _ => n + 200 - lenOf v)
  case atStart => exact ⟨0, Nat.zero_le _, HO2.out, HB2.out⟩
  case round =>
    clear HO2 HB2
    obtain ⟨j, hj, hown, hbel⟩ := hrel
    have hsz := hbel.size
    obtain ⟨g, c, rfl, hg1, hg2, hg3⟩ := hown.base
    have HO := hid_ofS hown
    have HB := hid_ofS hbel
    have hps := padZ_spec n
    have hll : (zs ++ [128] ++ List.replicate j 0).length = n + 1 + j := by simp [HN.out]; omega
    rw [hll] at HO hg3 ⊢
    have HLL := hid_ofS hll
    clear hown hbel hll
    obtain ⟨L, hL⟩ : ∃ L, L = n + 1 + j := ⟨_, rfl⟩
    rw [← hL] at HO hg3 HLL ⊢
    have hLb : L ≤ 2097700 := by omega
    by_cases hlt : j < padZ n
    · have hne := padZ_min n j hlt
      have hne' : ¬ ((L : Int) % 128 = 112) := by omega
      have HJ : Hid (j + 1 ≤ padZ n) := by show _ ≤ _; omega
      have HLm : Hid (L < n + 200) := by show _ < _; omega
      clear hne hL hps hj hlt
      have HLJ : Hid ((zs ++ [128] ++ List.replicate j 0).length + 1 ≤ 1099511627776) := by show _ ≤ _; rw [HLL.out]; omega
      have hO := HO.out
      obtain ⟨ys, hys⟩ : ∃ ys, ys = zs ++ [128] ++ List.replicate j 0 := ⟨_, rfl⟩
      rw [← hys] at HO HLL HLJ
      clear hO
      have HYS : Hid (zs ++ [128] ++ List.replicate (j + 1) 0 = ys ++ [0]) := by show _ = _; rw [hys, List.replicate_succ']; simp
      clear hys
      go_wp2_with (at_builtin; refine wpList_app _ rfl _ _ rfl w.heap.size _ _ rfl (HO.out.alloc _) ⟨wr.heap.size, 0, none⟩ 1 1 [0] rfl rfl ?d1 HLJ.out ?d3 ?_)
      all_goals first | (intro j' hj'; obtain rfl : j' = 0 := by omega
                         simp [Addr.add]; done) | skip
      case d3 => rw [World.size_alloc]; omega
      intro v2 w2 o2 b2 _
      obtain ⟨g', c2, e2, _, _, _⟩ := o2.base
      have HO2 : Hid (Own w2 w.heap.size v2 (zs ++ [128] ++ List.replicate (j + 1) 0)) := by rw [HYS.out]; exact o2
      have HB2 : Hid (Below w.heap.size w w2) := (HB.out.alloc hsz _).trans b2
      have HV2 : Hid (lenOf v2 = L + 1) := by rw [e2]; show _ = _; simp [lenOf, HLL.out]
      clear o2 b2 HO HB HLJ HYS e2
      go_wp2
      go_roundw
      case rel => exact ⟨j + 1, HJ.out, HO2.out, HB2.out⟩
      case measure =>
        have h1 := HV2.out
        have h2 := HLm.out
        have h3 : lenOf (.slice (some ⟨g, 0, none⟩) L c) = L := rfl
        first | (rw [h3, h1]; omega) | (simp [lenOf, h1] at *; omega)
    · obtain rfl : j = padZ n := by omega
      have hne' : ((L : Int) % 128 = 112) := by omega
      have HLJ : Hid ((zs ++ [128] ++ List.replicate (padZ n) 0).length + 8 ≤ 1099511627776) := by show _ ≤ _; rw [HLL.out]; omega
      clear hL hps hj hlt
      obtain ⟨ys, hys⟩ : ∃ ys, ys = zs ++ [128] ++ List.replicate (padZ n) 0 := ⟨_, rfl⟩
      rw [← hys] at HO HLL HLJ
      have HYS : Hid (padL zs = ys ++ [0, 0, 0, 0, 0, 0, 0, 0] ++ by8 (8 * (n : Int))) := by show _ = _; rw [hys]; unfold padL; rw [HN.out]; rfl
      clear hys
      go_wp2_with (at_builtin; refine wpList_app _ rfl _ _ rfl w.heap.size _ _ rfl (HO.out.alloc _) ⟨wr.heap.size, 0, none⟩ 8 8 [0, 0, 0, 0, 0, 0, 0, 0] rfl rfl ?e1 HLJ.out ?e3 ?_)
      case e1 =>
        intro j' hj'
        have : j' = 0 ∨ j' = 1 ∨ j' = 2 ∨ j' = 3 ∨ j' = 4 ∨ j' = 5 ∨ j' = 6 ∨ j' = 7 := by omega
        rcases this with rfl | rfl | rfl | rfl | rfl | rfl | rfl | rfl <;> simp [Addr.add]
      case e3 => rw [World.size_alloc]; omega
      intro v2 w2 o2 b2 _
      have HO2 := hid_ofS o2
      have HB2 : Hid (Below w.heap.size w w2) := (HB.out.alloc hsz _).trans b2
      clear o2 b2 HO HB HLJ
      have e8 : (8 : Int) * (n : Int) < 18446744073709551616 := by omega
      have A := hid_ofS (bytesS_any (8 * (n : Int)) w2 ⟨by omega, by omega⟩)
      go_wp2_with fail
      refine A.out.mono ?_
      rintro e w3 ⟨v3, rfl, o3, b3⟩
      obtain ⟨g3, c3, rfl, _, hg3', hc3⟩ := o3.base
      have HO3 : Hid (Own w3 w.heap.size v2 (ys ++ [0, 0, 0, 0, 0, 0, 0, 0])) := by
        obtain ⟨hh, g2, c2, e2⟩ := HO2.out
        exact own_grow ⟨hh, g2, c2, e2⟩ b3
      have HB3 : Hid (Below w.heap.size w w3) := HB2.out.trans (b3.mono HB2.out.size)
      have HP3 := hid_ofS o3.part
      have HLY : Hid ((ys ++ [0, 0, 0, 0, 0, 0, 0, 0]).length + 8 ≤ 1099511627776) := by show _ ≤ _; rw [List.length_append, HLL.out]; simp; omega
      have hsz3 := HB3.out.size
      rw [by8_len] at hc3 ⊢
      clear o3 b3 A HO2 HB2
      go_wp2_with (at_builtin; refine wpList_app _ rfl _ _ rfl w.heap.size _ _ rfl HO3.out ⟨g3, 0, none⟩ 8 c3 (by8 (8 * (n : Int))) rfl (by8_len _) ?f1 HLY.out ?f3 ?_)
      case f1 =>
        intro j' hj'
        obtain ⟨b', o', c', e', _, hcc⟩ := HP3.out
        cases e'
        rw [Addr.add_lit]
        exact hcc j' (by rw [by8_len]; exact hj')
      case f3 => exact hsz3
      intro v4 w4 o4 b4 _
      have HO4 : Hid (Own w4 w.heap.size v4 (padL zs)) := by rw [HYS.out, List.append_assoc]; exact o4
      have HB4 : Hid (Below w.heap.size w w4) := HB3.out.trans b4
      clear o4 b4 HO3 HB3 HP3
      go_wp2
      go_ret
      exact ⟨_, rfl, HO4.out, HB4.out⟩
end Go.Proofs.YtclmhdhblghfnaaDoor
