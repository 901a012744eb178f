/-
  Own work: EncodeSnap, by the program.
-/
import Derived.Test.YtmnoelfabldpfaaSnX
import Derived.Test.YtmnoelfabldpfaaMVal
import Derived.Test.YtmnoelfabldpfaaMReg4
import Derived.BigRegion
import Derived.Test.YtmnoelfabldpfaaMBase
import Derived.Test.YtmnoelfabldpfaaSwJ
namespace Go.Proofs.Ytmnoelfabldpfaa
open Go.ChangeShapes Go.WideShapes Go.ChangeAt Go.RowKit
set_option linter.unusedVariables false

theorem ies_no (gn tl : Int) (aD aU : Option Addr) (nD cD nU cU : Nat) (D U : List Int) (w : World) (hD : D.length = nD) (hU : U.length = nU) (mD : nD ≤ 1048576) (mU : nU ≤ 1048576) (haD : At .i64 w aD D) (haU : At .i64 w aU U) (hs : snB gn tl D U = false) :
    Calls Try.prog 15 #[.agg #[.int .u32 gn, .int .u32 tl, .slice aD nD cD, .slice aU nU cU]] w fun e w' => e = .returned (.slice none 0 0) ∧ Below w.heap.size w w' := by
  have b0 : Below w.heap.size w (w.alloc (.cells #[.int .u32 gn, .int .u32 tl, .slice aD nD cD, .slice aU nU cU] 26)) := (Below.refl _ _).alloc (Nat.le_refl _) _
  have hh := heap_alloc_new w (.cells #[.int .u32 gn, .int .u32 tl, .slice aD nD cD, .slice aU nU cU] 26)
  have HC := snv_any w.heap.size gn tl aD aU nD cD nU cU D U (w.alloc (.cells #[.int .u32 gn, .int .u32 tl, .slice aD nD cD, .slice aU nU cU] 26)) (by simp) (by rw [cell_of_row _ _ 0 _ _ _ hh]; rfl) (by rw [cell_of_row _ _ 1 _ _ _ hh]; rfl) (by rw [cell_of_row _ _ 2 _ _ _ hh]; rfl) (by rw [cell_of_row _ _ 3 _ _ _ hh]; rfl) hD hU mD mU (haD.below b0) (haU.below b0)
  rw [hs] at HC
  have HB := hid_of b0
  clear haD haU hD hU b0 hs hh
  go_enter Try.func15, Try.ntmps15
  go_wp2_with fail
  refine HC.mono ?_
  rintro e w1 ⟨rfl, hb1⟩
  have HB1 := hid_of (HB.out.trans (hb1.mono HB.out.size))
  clear HC hb1 HB
  go_wp2
  go_ret
  exact ⟨rfl, HB1.out⟩
set_option maxRecDepth 100000 in
set_option maxHeartbeats 2000000 in
theorem ies_yes (gn tl : Int) (aD aU : Option Addr) (nD cD nU cU : Nat) (D U : List Int) (w : World) (hD : D.length = nD) (hU : U.length = nU) (mD : nD ≤ 1048576) (mU : nU ≤ 1048576) (haD : At .i64 w aD D) (haU : At .i64 w aU U) (ug : U32 gn) (ut : U32 tl) (hs : SnP gn tl D U) :
    Calls Try.prog 15 #[.agg #[.int .u32 gn, .int .u32 tl, .slice aD nD cD, .slice aU nU cU]] w fun e w' => ∃ v, e = .returned v ∧ OwnL w.heap.size w' v (snL gn tl D U) ∧ Below w.heap.size w w' := by
  have b0 : Below w.heap.size w (w.alloc (.cells #[.int .u32 gn, .int .u32 tl, .slice aD nD cD, .slice aU nU cU] 26)) := (Below.refl _ _).alloc (Nat.le_refl _) _
  have hh := heap_alloc_new w (.cells #[.int .u32 gn, .int .u32 tl, .slice aD nD cD, .slice aU nU cU] 26)
  have HC := snv_any w.heap.size gn tl aD aU nD cD nU cU D U (w.alloc (.cells #[.int .u32 gn, .int .u32 tl, .slice aD nD cD, .slice aU nU cU] 26)) (by simp) (by rw [cell_of_row _ _ 0 _ _ _ hh]; rfl) (by rw [cell_of_row _ _ 1 _ _ _ hh]; rfl) (by rw [cell_of_row _ _ 2 _ _ _ hh]; rfl) (by rw [cell_of_row _ _ 3 _ _ _ hh]; rfl) hD hU mD mU (haD.below b0) (haU.below b0)
  rw [snB_yes hs] at HC
  have HO0 : Hid (OE w 26 #[.int .u32 gn, .int .u32 tl, .slice aD nD cD, .slice aU nU cU] (w.alloc (.cells #[.int .u32 gn, .int .u32 tl, .slice aD nD cD, .slice aU nU cU] 26))) := OE.start _ _ _
  have HA : Hid (At .i64 w aD D ∧ At .i64 w aU U) := ⟨haD, haU⟩
  have HL : Hid (D.length = nD ∧ U.length = nU) := ⟨hD, hU⟩
  have HU : Hid (U32 gn ∧ U32 tl) := ⟨ug, ut⟩
  have HP : Hid (SnP gn tl D U) := hs
  clear haD haU hD hU b0 hs hh ug ut
  go_enter Try.func15, Try.ntmps15
  go_wp2_with fail
  generalize (w.alloc (.cells #[.int .u32 gn, .int .u32 tl, .slice aD nD cD, .slice aU nU cU] 26)) = w0 at *
  refine HC.mono ?_
  rintro e w1 ⟨rfl, hb1⟩
  have HO1 : Hid (OE w 26 #[.int .u32 gn, .int .u32 tl, .slice aD nD cD, .slice aU nU cU] w1) := HO0.out.call hb1
  clear HC HO0 hb1
  go_wp2_with fail
  refine (encd_any w.heap.size gn tl aD aU nD cD nU cU D U w1 (Array.getElem?_eq_some_iff.1 HO1.out.b0).1 (by rw [cell_of_row _ _ 0 _ _ _ HO1.out.b0]; rfl) (by rw [cell_of_row _ _ 1 _ _ _ HO1.out.b0]; rfl) (by rw [cell_of_row _ _ 2 _ _ _ HO1.out.b0]; rfl) (by rw [cell_of_row _ _ 3 _ _ _ HO1.out.b0]; rfl) HL.out.1 HL.out.2 mD mU (HA.out.1.below HO1.out.below) (HA.out.2.below HO1.out.below) HU.out.1 HU.out.2 HP.out).mono ?_
  rintro e w2 ⟨rfl, hb2⟩
  have HB2 : Hid (Below w.heap.size w w2) := (HO1.out.call hb2).below
  have HZL : Hid ((snL gn tl D U).length = 128) := by show _ = _; unfold snL; exact END_len
  clear hb2 HO1
  generalize hzz : snL gn tl D U = zz at *
  have HZZ := hid_of hzz
  clear hzz
  have HN : Hid ((w2.alloc (.cells Try.zeroCells45 45)).heap[w2.heap.size]? = some (.cells Try.zeroCells45 45 (0, 0))) := heap_alloc_new w2 _
  have hsz : (zz.map (Value.int .u8)).toArray.size = 128 := by rw [List.size_toArray, List.length_map]; exact HZL.out
  have HSZ : Hid ((Try.prog.info? 45).map (·.size) = some (zz.map (Value.int .u8)).toArray.size) := by show _ = _; rw [hsz]; kernel_rfl
  have HEQ : Hid ((Try.zeroCells45).size = (zz.map (Value.int .u8)).toArray.size) := by show _ = _; rw [hsz]; kernel_rfl
  have HOK : Hid ((zz.map (Value.int .u8)).toArray.all (fun x => x.oneCell') = true) := by show _ = _; simp [Value.oneCell']
  have HR : Hid (Row ((w2.alloc (.cells Try.zeroCells45 45)).setRow w2.heap.size (zz.map (Value.int .u8)).toArray) w2.heap.size 45 zz) := setRow_heap _ _ _ _ _ _ HN.out
  have HB3 : Hid (Below w.heap.size w ((w2.alloc (.cells Try.zeroCells45 45)).setRow w2.heap.size (zz.map (Value.int .u8)).toArray)) := HB2.out.trans ((((Below.refl _ _).alloc (Nat.le_refl _) _).trans ((Wr.setRow _ _ _).below (Nat.le_refl _))).mono HB2.out.size)
  clear hsz HB2
  go_upto_region 4 with (first
    | (refine wpList_store_row rfl 45 (.tmp 3) (.tmp 6) rfl w2.heap.size (zz.map (Value.int .u8)).toArray rfl rfl 45 _ HN.out HSZ.out HEQ.out HOK.out ?_)
    | fail)
  clear HN HSZ HEQ HOK
  generalize ((w2.alloc (.cells Try.zeroCells45 45)).setRow w2.heap.size (zz.map (Value.int .u8)).toArray) = w3 at *
  generalize w2.heap.size = q at *
  go_wp2_with fail
  refine (text_any q zz w3 HR.out HZL.out).mono ?_
  rintro e w4 ⟨v, rfl, ho, hb4⟩
  have HF : Hid (OwnL w.heap.size w4 v zz ∧ Below w.heap.size w w4) := ⟨by obtain ⟨B, hB, h⟩ := ho; exact ⟨B, Nat.le_trans HB3.out.size hB, h⟩, HB3.out.trans (hb4.mono HB3.out.size)⟩
  clear ho hb4
  go_wp2
  go_ret
  exact ⟨_, rfl, HZZ.out ▸ HF.out.1, HF.out.2⟩
end Go.Proofs.Ytmnoelfabldpfaa
namespace Go.Proofs.Ytmnoelfabldpfaa
open Go.ChangeShapes Go.WideShapes Go.ChangeAt Go.RowKit
set_option linter.unusedVariables false

theorem i64_or_nat (a b : Nat) (ha : a < 4611686018427387904) (hb : b < 4611686018427387904) : bits .or .i64 (a : Int) (b : Int) = ((a ||| b : Nat) : Int) := by
  have hx : a ||| b < 2 ^ 62 := Nat.or_lt_two_pow (by omega) (by omega)
  show IntKind.i64.wrap ((BitVec.ofInt 64 (a : Int) ||| BitVec.ofInt 64 (b : Int)).toNat : Int) = _
  rw [BitVec.toNat_or, ofInt_u64 a (by omega), ofInt_u64 b (by omega), IntKind.wrap_i64]
  omega
theorem i64_or_add (a b : Int) (k : Nat) (ha : 0 ≤ a) (ha' : a < 4611686018427387904) (hb : 0 ≤ b) (hb' : b < 2 ^ k) (hb'' : b < 4611686018427387904) (q : Int) (hd : a = q * 2 ^ k) : bits .or .i64 b a = b + a := by
  have h := u64_or_add a b k ha (by omega) hb hb' (by omega) q hd
  obtain ⟨a, rfl⟩ := Int.eq_ofNat_of_zero_le ha
  obtain ⟨b, rfl⟩ := Int.eq_ofNat_of_zero_le hb
  rw [u64_or_nat a b (by omega) (by omega)] at h
  rw [i64_or_nat b a (by omega) (by omega), Nat.or_comm]; omega
theorem le_step (v x : Int) (j : Nat) (hj : j < 7) (h0 : 0 ≤ v) (h1 : v < 256 ^ j) (x0 : 0 ≤ x) (x1 : x < 256) :
    bits .or .i64 v (wrap64 (x * 2 ^ (8 * j))) = v + x * 256 ^ j := by
  have e : (2 : Int) ^ (8 * j) = 256 ^ j := by rw [Int.pow_mul]; rfl
  have hle : (256 : Int) ^ j ≤ 256 ^ 6 := by
    have : j = 0 ∨ j = 1 ∨ j = 2 ∨ j = 3 ∨ j = 4 ∨ j = 5 ∨ j = 6 := by omega
    rcases this with h | h | h | h | h | h | h <;> rw [h] <;> decide
  have hP0 : (0 : Int) < 256 ^ j := Int.pow_pos (by decide)
  have e7 : (256 : Int) ^ 6 = 281474976710656 := by decide
  rw [e7] at hle
  have m0 : 0 ≤ x * 256 ^ j := Int.mul_nonneg x0 (by omega)
  have m1 : x * 256 ^ j ≤ 255 * 256 ^ j := Int.mul_le_mul_of_nonneg_right (by omega) (by omega)
  rw [e]
  unfold wrap64
  have e2 : (x * 256 ^ j + 9223372036854775808) % 18446744073709551616 - 9223372036854775808 = x * 256 ^ j := by omega
  rw [e2]
  exact i64_or_add _ _ (8 * j) m0 (by omega) h0 (by rw [e]; exact h1) (by omega) x (by rw [e])

set_option maxHeartbeats 400000 in
theorem le_any (a : Option Addr) (n cap : Nat) (zs : List Int) (w : World) (hn : zs.length = n) (hm : n ≤ 7) (ha : At .u8 w a zs) (hz : Byte zs) :
    Calls Try.prog 58 #[.slice a n cap] w fun e w' => e = .returned (.int .i64 (val 256 zs)) ∧ w' = w := by
  go_enter Try.func58, Try.ntmps58
  go_wp2
  go_loop [3, 8] (fun c i => ∃ k : Nat, k ≤ n ∧ i = .int .i64 k ∧ c = .int .i64 (val 256 (zs.take k))) (fun _ i => n - (intOf i).toNat)
  case atStart => exact ⟨0, Nat.zero_le _, rfl, rfl⟩
  case round =>
    obtain ⟨k, hk, rfl, rfl⟩ := hrel
    by_cases hlt : k < n
    · obtain ⟨b, off, rfl, hb, hc⟩ := ha.get (by omega)
      have hck := hc k (by omega)
      have hx := hz.get k
      have ht0 : 0 ≤ val 256 (zs.take k) := val_nonneg (by decide) (fun z hz' => hz z (List.mem_of_mem_take hz'))
      have ht1 : val 256 (zs.take k) < 256 ^ k := by
        have := val_lt (B := 256) (by decide) (xs := zs.take k) (fun z hz' => hz z (List.mem_of_mem_take hz'))
        rwa [List.length_take, Nat.min_eq_left (by omega)] at this
      have hs := le_step _ _ k (by omega) ht0 ht1 hx.1 hx.2
      rw [← val_take 256 zs k (by omega)] at hs
      have HS : Hid (bits .or .i64 (val 256 (zs.take k)) (wrap64 (zs.getD k 0 * 2 ^ (8 * k))) = val 256 (zs.take (k + 1))) := hs
      clear hs hc ht0 ht1
      generalize zs.getD k 0 = x at *
      generalize val 256 (zs.take k) = c at *
      obtain ⟨hx0, hx1⟩ := hx
      go_wp2
      go_round
      case rel => exact ⟨k + 1, by omega, by go_num, by rw [← HS.out]⟩
      case measure => simp [intOf]; omega
    · have hk' : k = n := by omega
      subst hk'
      have HT : Hid (zs.take k = zs) := List.take_of_length_le (by omega)
      go_wp2
      go_ret
      exact ⟨ret_int (by rw [HT.out]), rfl⟩

end Go.Proofs.Ytmnoelfabldpfaa
namespace Go.Proofs.Ytmnoelfabldpfaa
open Go.ChangeShapes Go.WideShapes Go.ChangeAt Go.RowKit
set_option linter.unusedVariables false

/-- Where the denied serial i stands. -/
def dkA (i : Nat) : Nat := if i < 8 then 44 + 2 * i else 56 + 2 * i
def dkS (zs : List Int) (i : Nat) : Int := zs.getD (dkA i) 0 + 256 * zs.getD (dkA i + 1) 0
def dkD (zs : List Int) (k : Nat) : List Int := (List.range k).map (dkS zs)
theorem dkD_succ (zs : List Int) (k : Nat) : dkD zs (k + 1) = dkD zs k ++ [dkS zs k] := by unfold dkD; rw [List.range_succ, List.map_append]; rfl
theorem dkD_len (zs : List Int) (k : Nat) : (dkD zs k).length = k := by simp [dkD]
theorem dkA_lt {i : Nat} (h : i < 16) : dkA i + 1 < 128 := by unfold dkA; split <;> omega
def dkP (zs : List Int) (v : Nat) : Bool := decide (zs.getD (12 + v / 8) 0 / 2 ^ (v % 8) % 2 = 1)
def dkN (zs : List Int) : Nat := (zs.getD 6 0).toNat
def dkU (zs : List Int) : List Int := upTo (dkP zs) 256
/-- The part of the slot that has the used serials. -/
def dkM (zs : List Int) : List Int := (zs.drop 12).take 32
theorem dkM_len {zs : List Int} (h : zs.length = 128) : (dkM zs).length = 32 := by simp [dkM]; omega
theorem dkM_get {zs : List Int} (h : zs.length = 128) (i : Nat) (hi : i < 32) : (dkM zs).getD i 0 = zs.getD (12 + i) 0 := by
  unfold dkM
  rw [List.getD_eq_getElem?_getD, List.getElem?_take_of_lt hi, List.getElem?_drop, ← List.getD_eq_getElem?_getD]
theorem dkM_byte {zs : List Int} (hz : Byte zs) : Byte (dkM zs) := fun z h => hz z (List.mem_of_mem_drop (List.mem_of_mem_take h))
theorem dkM_set {zs : List Int} (h : zs.length = 128) (hz : Byte zs) : SetB (dkM zs) (fun v => dkP zs v = true) := by
  refine ⟨dkM_len h, dkM_byte hz, fun v hv => ?_⟩
  rw [dkM_get h (v / 8) (by omega)]
  unfold dkP; simp
structure DkR where
  ok : Bool
  g : Int
  t : Int
  D : List Int
  U : List Int
def dkNo : DkR := ⟨false, 0, 0, [], []⟩
noncomputable def dkE (zs : List Int) : List Int := snE (num4 zs 0) (num4 zs 8) (dkD zs (dkN zs)) (dkU zs)
def dkYes (zs : List Int) : DkR := ⟨true, num4 zs 0, num4 zs 8, dkD zs (dkN zs), dkU zs⟩
open Classical in
/-- What the bytes decode to. -/
noncomputable def dkF (zs : List Int) : DkR := if zs.length = 128 ∧ zs.getD 6 0 ≤ 16 ∧ dkE zs = zs then dkYes zs else dkNo
theorem dkF_yes {zs : List Int} (h1 : zs.length = 128) (h2 : zs.getD 6 0 ≤ 16) (h3 : dkE zs = zs) : dkF zs = dkYes zs := by unfold dkF; rw [if_pos ⟨h1, h2, h3⟩]
theorem dkF_len {zs : List Int} (h : zs.length ≠ 128) : dkF zs = dkNo := by unfold dkF; rw [if_neg (fun q => h q.1)]
theorem dkF_cnt {zs : List Int} (h : ¬ zs.getD 6 0 ≤ 16) : dkF zs = dkNo := by unfold dkF; rw [if_neg (fun q => h q.2.1)]
theorem dkF_no {zs : List Int} (h : dkE zs ≠ zs) : dkF zs = dkNo := by unfold dkF; rw [if_neg (fun q => h q.2.2)]
theorem dkF_bd (zs : List Int) : (dkF zs).D.length ≤ 256 ∧ (dkF zs).U.length ≤ 256 := by
  unfold dkF
  split
  · rename_i h
    refine ⟨?_, upTo_len _ _⟩
    show (dkD zs (dkN zs)).length ≤ 256
    rw [dkD_len]; unfold dkN; omega
  · simp [dkNo]
theorem num4_u32 (zs : List Int) (h : Byte zs) (p : Nat) : U32 (num4 zs p) := by
  have h0 := h.get p
  have h1 := h.get (p + 1)
  have h2 := h.get (p + 2)
  have h3 := h.get (p + 3)
  unfold num4 U32
  omega

/-- The answer, as the model gives it. -/
def DVW (lo : Nat) (w : World) (v : Value) (r : DkR) : Prop :=
  ∃ aD nD cD aU nU cU, v = .agg #[.bool r.ok, .int .u32 r.g, .int .u32 r.t, .slice aD nD cD, .slice aU nU cU] ∧ At .i64 w aD r.D ∧ At .i64 w aU r.U ∧ r.D.length = nD ∧ r.U.length = nU ∧ Lies lo w aD ∧ Lies lo w aU
/-- The answer, as the program gives it: the lists are apart, and may be written. -/
def DVA (lo : Nat) (w : World) (v : Value) (r : DkR) : Prop :=
  ∃ aD nD cD aU nU cU, v = .agg #[.bool r.ok, .int .u32 r.g, .int .u32 r.t, .slice aD nD cD, .slice aU nU cU] ∧ S3 lo w aD aU none nD nU 0 r.D r.U []
def snZ : Array Value := #[.bool false, .int .u32 0, .int .u32 0, .slice none 0 0, .slice none 0 0]
theorem DVW.no (lo : Nat) (w : World) : DVW lo w (.agg snZ) dkNo := ⟨none, 0, 0, none, 0, 0, rfl, .inl rfl, .inl rfl, rfl, rfl, fun _ h => (by cases h), fun _ h => (by cases h)⟩
theorem DVA.no (lo : Nat) (w : World) : DVA lo w (.agg snZ) dkNo :=
  ⟨none, 0, 0, none, 0, 0, rfl, .inl rfl, .inl rfl, .inl rfl, rfl, rfl, rfl, fun _ h => (by cases h), fun _ h => (by cases h), fun _ h => (by cases h), fun _ _ h => (by cases h), fun _ _ h => (by cases h), fun _ _ h => (by cases h)⟩
theorem DVW.below {lo : Nat} {w w' : World} {v : Value} {r : DkR} (h : DVW lo w v r) (b : Below w.heap.size w w') : DVW lo w' v r := by
  obtain ⟨aD, nD, cD, aU, nU, cU, e, h1, h2, h3, h4, l1, l2⟩ := h
  exact ⟨aD, nD, cD, aU, nU, cU, e, h1.below b, h2.below b, h3, h4, l1.mono (Nat.le_refl _) b.size, l2.mono (Nat.le_refl _) b.size⟩
theorem DVA.below {lo : Nat} {w w' : World} {v : Value} {r : DkR} (h : DVA lo w v r) (b : Below w.heap.size w w') : DVA lo w' v r := by
  obtain ⟨aD, nD, cD, aU, nU, cU, e, s⟩ := h
  exact ⟨aD, nD, cD, aU, nU, cU, e, s.below b⟩
/-- Two lists of the call's own, from block lo on, apart. -/
theorem S3.of_io {lo : Nat} {w : World} {aD aU : Option Addr} {nD cD nU cU : Nat} {D U : List Int} (h1 : Iow lo w (.slice aD nD cD) D) (h2 : Iow lo w (.slice aU nU cU) U) (h3 : Aprt aD aU) : S3 lo w aD aU none nD nU 0 D U [] := by
  obtain ⟨s1, n1, l1⟩ := h1.sat
  obtain ⟨s2, n2, l2⟩ := h2.sat
  exact ⟨s1, s2, .inl rfl, n1, n2, rfl, l1, l2, fun _ h => (by cases h), h3, fun _ _ _ h => (by cases h), fun _ _ _ h => (by cases h)⟩
/-- A list of serials has its block typed; a block of another type is none of it. -/
theorem Iow.ne {lo G : Nat} {w : World} {a : Option Addr} {n c : Nat} {xs : List Int} {cs : Array Value} {T : TypeId} {fr : Nat × Nat} (h : Iow lo w (.slice a n c) xs) (hG : w.heap[G]? = some (.cells cs T fr)) (hT : T ≠ 2) : ∀ ad, a = some ad → ad.block ≠ G := by
  rintro ad rfl e
  rcases h.2 with ⟨h', _⟩ | ⟨g, cap, cur, h', hb, hh, _⟩
  · cases h'
  · cases h'
    subst e
    rw [hG] at hh
    simp at hh
    exact hT hh.2.1
theorem Iow.keepN {lo G : Nat} {w w' : World} {v : Value} {xs : List Int} {cs : Array Value} {T : TypeId} {fr : Nat × Nat} (h : Iow lo w v xs) (hG : w.heap[G]? = some (.cells cs T fr)) (hT : T ≠ 2) (hw : Wr G w w') : Iow lo w' v xs := by
  obtain ⟨a, n, c, rfl⟩ := h.form
  refine ⟨h.1, ?_⟩
  have hne := h.ne hG hT
  rcases h.2 with h' | ⟨g, cap, cur, h1, h2, h3, h4⟩
  · exact .inl h'
  · refine .inr ⟨g, cap, cur, h1, h2, ?_, h4⟩
    cases h1
    rw [hw.block g (hne _ rfl)]; exact h3
end Go.Proofs.Ytmnoelfabldpfaa
