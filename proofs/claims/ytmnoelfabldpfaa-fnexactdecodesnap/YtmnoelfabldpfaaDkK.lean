/-
  Own work: DecodeSnap, by the program (written by wip/mkdkk.py).
-/
import Derived.Test.YtmnoelfabldpfaaDkJ
namespace Go.Proofs.Ytmnoelfabldpfaa
open Go.ChangeShapes Go.WideShapes Go.ChangeAt Go.RowKit
set_option linter.unusedVariables false

theorem foldl_put (vs : List Value) : ∀ (k off : Nat) (cs : Array Value), off + k + vs.length ≤ cs.size →
    (vs.zipIdx k).foldl (fun cs (p : Value × Nat) => cs.setIfInBounds (off + p.2) p.1) cs = (cs.toList.take (off + k) ++ (vs ++ cs.toList.drop (off + k + vs.length))).toArray := by
  induction vs with
  | nil => intro k off cs h; simp
  | cons v vs ih =>
    intro k off cs h
    simp only [List.length_cons] at h
    rw [List.zipIdx_cons, List.foldl_cons, ih (k + 1) off _ (by simp; omega)]
    congr 1
    have hlt : off + k < cs.toList.length := by simp; omega
    have e : (cs.setIfInBounds (off + k) v).toList = cs.toList.set (off + k) v := by simp
    rw [e]
    rw [show off + (k + 1) = off + k + 1 by omega, List.take_succ_eq_append_getElem (by simpa using hlt), List.take_set_of_le (Nat.le_refl _), List.getElem_set_self, List.drop_set_of_lt (by omega)]
    simp
    rw [show off + k + 1 + vs.length = off + k + (vs.length + 1) by omega]
theorem fill_one (vs : List Value) (off size : Nat) (cs : Array Value) (hs : vs.length = size) (hl : off + size ≤ cs.size) :
    (vs.toArray.zipIdx.foldl (fun cs (p : Value × Nat) => cs.setIfInBounds (off + p.2) p.1) cs) = (cs.toList.take off ++ (vs ++ cs.toList.drop (off + size))).toArray := by
  have := foldl_put vs 0 off cs (by omega)
  rw [Nat.add_zero, hs] at this
  rw [← this]
  simp
set_option maxRecDepth 100000 in
theorem Try.infoSL : (Try.prog.info? 45).map (fun i => (i.zero, i.size, i.bytes)) = some (some (.agg Try.zeroCells45), 128, 128) := by kernel_rfl
set_option maxRecDepth 100000 in
theorem run_buildS (w : World) (xs ys : List Int) (hx : xs.length = 64) (hy : ys.length = 64) :
    (Instr.build 45 #[(0, .agg (xs.map (Value.int .u8)).toArray), (1, .agg (ys.map (Value.int .u8)).toArray)]).run Try.prog w = .ok (.agg ((xs ++ ys).map (Value.int .u8)).toArray) w := by
  obtain ⟨i0, hi, hz0, hz1, hz2⟩ := info_parts Try.infoSL
  have hzv : (zeroValue 45).run Try.prog w = .ok (.agg Try.zeroCells45) w := by simp [zeroValue, typeInfo, hi, hz0]
  have hf : Instr.fill (fun i => some (i * 64, 64)) Try.zeroCells45 [(0, .agg (xs.map (Value.int .u8)).toArray), (1, .agg (ys.map (Value.int .u8)).toArray)] = some ((xs ++ ys).map (Value.int .u8)).toArray := by
    have hzl : Try.zeroCells45.size = 128 := by rw [zcS]; simp
    have q0 : (Value.agg (xs.map (Value.int .u8)).toArray).cells = (xs.map (Value.int .u8)).toArray := rfl
    have q1 : (Value.agg (ys.map (Value.int .u8)).toArray).cells = (ys.map (Value.int .u8)).toArray := rfl
    have s0 : (xs.map (Value.int .u8)).toArray.size = 64 := by simp [hx]
    have s1 : (ys.map (Value.int .u8)).toArray.size = 64 := by simp [hy]
    have f0 := fill_one (xs.map (Value.int .u8)) 0 64 Try.zeroCells45 (by simp [hx]) (by omega)
    have f1 := fill_one (ys.map (Value.int .u8)) 64 64 ((Try.zeroCells45).toList.take 0 ++ (xs.map (Value.int .u8) ++ (Try.zeroCells45).toList.drop (0 + 64))).toArray (by simp [hy]) (by simp [hx, hzl])
    unfold Instr.fill
    simp only [q0, s0, Nat.zero_mul, hzl]
    rw [if_neg (by decide), f0]
    unfold Instr.fill
    simp only [q1, s1, Nat.one_mul]
    rw [if_neg (by simp [hx, hzl]), f1]
    unfold Instr.fill
    congr 1

    simp [hx, List.drop_append, hzl]
  unfold Instr.build
  simp only [Sem.run_bind, hzv, Result.andThen_ok, run_underlying Try.underlying45, sizeSecR]
  rw [show (Value.agg Try.zeroCells45).cells = Try.zeroCells45 from rfl]
  simp only [hf]
  rfl
theorem wp_buildS {w : World} {o : Oper} {a : Act} {K : Act → World → Prop} {Q : Exit → Act → World → Prop} (x y : Operand) (ho : o.op = .build 45 #[(0, x), (1, y)]) (xs ys : List Int) (hx : xs.length = 64) (hy : ys.length = 64)
    (ex : a.eval x = .agg (xs.map (Value.int .u8)).toArray) (ey : a.eval y = .agg (ys.map (Value.int .u8)).toArray) (hK : K (a.put o.dst (.agg ((xs ++ ys).map (Value.int .u8)).toArray)) w) : o.wp Try.prog a w K Q := by
  have hr := run_buildS w xs ys hx hy
  unfold Oper.wp execOp
  simp only [ho, Sem.run_bind, Sem.run_pure, Result.andThen_ok, List.map_toArray, List.map_cons, List.map_nil, ex, ey, hr]
  exact hK
/-- A new box for a slot. -/
def NwT (lo : Nat) (w : World) (v : Value) : Prop := ∃ q, v = .pointer (some ⟨q, 0, none⟩) ∧ lo ≤ q ∧ w.heap[q]? = some (.cells Try.zeroCells45 45 (0, 0))
theorem NwT.below {lo : Nat} {w w' : World} {v : Value} (h : NwT lo w v) (b : Below w.heap.size w w') : NwT lo w' v := by
  obtain ⟨q, e, h1, h2⟩ := h; exact ⟨q, e, h1, by rw [b.block q (Array.getElem?_eq_some_iff.1 h2).1]; exact h2⟩
def FinT (p : Nat) (W : World) (zs : List Int) (u : Nat → Value) (w : World) : Prop :=
  ∃ q, u p = .pointer (some ⟨q, 0, none⟩) ∧ W.heap.size ≤ q ∧ Row w q 45 zs ∧ Below W.heap.size W w
set_option maxRecDepth 100000 in
set_option maxHeartbeats 4000000 in
theorem idk_yes (b off n cap : Nat) (zs : List Int) (w : World) (hn : zs.length = n) (hc : n ≤ cap) (h128 : n = 128) (ha : At .u8 w (some ⟨b, off, none⟩) zs) (hz : Byte zs) :
    Calls Try.prog 7 #[.slice (some ⟨b, off, none⟩) n cap] w fun e w' => ∃ v, e = .returned v ∧ DVA w.heap.size w' v (dkF zs) ∧ Below w.heap.size w w' := by
  have HB1 : Hid (BXS w (w.alloc (.cells #[.bool false, .int .u32 0, .int .u32 0, .slice none 0 0, .slice none 0 0] 28))) := BXS.start w
  have hl : zs.length = 128 := by omega
  have HLZ : Hid (zs.length = 128 ∧ Byte zs) := ⟨hl, hz⟩
  have HLT : Hid ((zs.take 64).length = 64 ∧ ((zs.drop 64).take 64).length = 64 ∧ zs.take 64 ++ (zs.drop 64).take 64 = zs) := ⟨by simp; omega, by simp; omega, by rw [List.take_of_length_le (l := zs.drop 64) (by simp; omega)]; exact List.take_append_drop 64 zs⟩
  have HSR : Hid ((Try.prog.info? 28).map (·.size) = some 5) := by show _ = _; kernel_rfl
  have hsz : (zs.map (Value.int .u8)).toArray.size = 128 := by rw [List.size_toArray, List.length_map]; exact hl
  have HSS : Hid ((Try.prog.info? 45).map (·.size) = some (zs.map (Value.int .u8)).toArray.size) := by show _ = _; rw [hsz]; kernel_rfl
  have HEQ : Hid ((Try.zeroCells45).size = (zs.map (Value.int .u8)).toArray.size) := by show _ = _; rw [hsz]; kernel_rfl
  have HOK : Hid ((zs.map (Value.int .u8)).toArray.all (fun x => x.oneCell') = true) := by show _ = _; simp [Value.oneCell']
  have HC0 : Hid (∀ ww, Below w.heap.size w ww → Calls Try.prog 20 #[.slice (some ⟨b, off, none⟩) n cap] ww fun e w' => e = .returned (.agg ((zs.take 64).map (Value.int .u8)).toArray) ∧ Below ww.heap.size ww w') := fun ww bw => sectorOf_any _ n cap zs ww hn (by omega) (ha.below bw)
  have HC1 : Hid (∀ ww, Below w.heap.size w ww → Calls Try.prog 20 #[.slice (some ⟨b, off + 64, none⟩) 64 (cap - 64)] ww fun e w' => e = .returned (.agg (((zs.drop 64).take 64).map (Value.int .u8)).toArray) ∧ Below ww.heap.size ww w') := fun ww bw => by
    obtain ⟨b', off', e, hb, hcc⟩ := (ha.below bw).get (by omega)
    cases e
    exact sectorOf_any (some ⟨b, off + 64, none⟩) 64 (cap - 64) (zs.drop 64) ww (by simp; omega) (by decide) (.inr ⟨b, off + 64, rfl, hb, fun i hi => by
      rw [Nat.add_assoc, hcc (64 + i) (by simp at hi; omega), List.getD_eq_getElem?_getD, List.getD_eq_getElem?_getD, List.getElem?_drop]⟩)
  have hne : ((n : Int) != 128) = false := by subst h128; rfl
  have hc64 : 64 ≤ cap := by omega
  have HCN : Hid (¬ cap = 64) := by show ¬ _; omega
  have hcn : n ≤ cap := hc
  clear hn ha hz hl hsz
  subst h128
  go_enter Try.func7, Try.ntmps7
  go_wp2_with fail
  generalize (w.alloc (.cells #[.bool false, .int .u32 0, .int .u32 0, .slice none 0 0, .slice none 0 0] 28)) = w1 at *
  refine wp_region_any (by kernel_rfl) ?_
  refine wpAny_slotsF 7 (fun _ a b => Below a.heap.size a b) (frame := (fun (c0 c1 c2 c4 c5 c6 c7 c14 : Value) => fun (t : Nat → Value) => ({ tmps := List.toArray (c0 :: c1 :: c2 :: t 6 :: c4 :: c5 :: c6 :: c7 :: t 0 :: t 1 :: t 2 :: t 3 :: t 4 :: t 5 :: c14 :: []), defers := [] } : Act)) _ _ _ _ _ _ _ _)
    (Ext := fun L u w' => ApH w1 [] L u w') (Good := fun i L w' v => if i = 0 then v = .slice (some ⟨b, off, none⟩) 128 cap else if i = 1 then v = .agg ((zs.take 64).map (Value.int .u8)).toArray else if i = 2 then v = .slice (some ⟨b, off, none⟩) 128 cap else if i = 3 then v = .slice (some ⟨b, off + 64, none⟩) 64 (cap - 64) else if i = 4 then v = .agg (((zs.drop 64).take 64).map (Value.int .u8)).toArray else if i = 5 then v = .agg (zs.map (Value.int .u8)).toArray else if i = 6 then NwT w1.heap.size w' v else True) (Fin := FinT 6 w1 zs) rfl (by kernel_rfl) ?hstab (by kernel_rfl) ?hop ?hend ?hdone _ _ ((fun (x0 x1 x2 x3 x4 x5 x6 : Value) => fun (i : Nat) => if i = 0 then x0 else if i = 1 then x1 else if i = 2 then x2 else if i = 3 then x3 else if i = 4 then x4 else if i = 5 then x5 else if i = 6 then x6 else undef) _ _ _ _ _ _ _) _ (by simp) ?none ?ext (by simp)
  case none => intro i; rw [Array.getD_eq_getD_getElem?, Array.getElem?_replicate]; split <;> rfl
  case ext => exact ApH.start w1 [] _ _ (fun i => by rw [Array.getD_eq_getD_getElem?, Array.getElem?_replicate]; split <;> rfl) ⟨rfl, rfl, rfl, Nat.le_refl _, fun _ _ => rfl⟩
  case hstab =>
    intro j L w9 w' i v _ hM _ _ h
    by_cases h6 : j = 6
    · subst h6
      simp at h ⊢
      exact h.below hM
    simp only [if_neg h6] at h ⊢
    exact h
  case hop =>
    intro i o L t w' hi ho hLi hx hdep K hK
    obtain rfl | rfl | rfl | rfl | rfl | rfl | rfl : i = 0 ∨ i = 1 ∨ i = 2 ∨ i = 3 ∨ i = 4 ∨ i = 5 ∨ i = 6 := by omega
    all_goals (simp at ho; subst ho)
    · clear hdep
      have hK' := hK w' (.slice (some ⟨b, off, none⟩) 128 cap) (by simp) (hx.step 0 _ (Below.refl _ _) (fun h => absurd h (by decide))) (Below.refl _ _)
      clear hK
      rw [if_pos (by rfl)]
      go_simp
      simpa [upd] using hK'
    · have d0 : t 0 = .slice (some ⟨b, off, none⟩) 128 cap := by simpa using (hdep ⟨0, .data⟩ (by simp) rfl).2
      clear hdep
      have bw : Below w.heap.size w w' := HB1.out.below.trans (hx.below.mono HB1.out.below.size)
      have A := HC0.out w' bw
      have hK' : ∀ ww, Below w'.heap.size w' ww → K _ ww := fun ww hb => hK ww (.agg ((zs.take 64).map (Value.int .u8)).toArray) (by simp) (hx.step 1 _ hb (fun h => absurd h (by decide))) hb
      clear hK
      rw [if_pos (by rfl)]
      go_simp
      try simp only [d0]
      refine A.mono ?_
      rintro e w9 ⟨rfl, hb9⟩
      have hK2 := hK' w9 hb9
      clear hK' A hb9
      go_simp
      simpa [upd, d0] using hK2
    · clear hdep
      have hK' := hK w' (.slice (some ⟨b, off, none⟩) 128 cap) (by simp) (hx.step 2 _ (Below.refl _ _) (fun h => absurd h (by decide))) (Below.refl _ _)
      clear hK
      rw [if_pos (by rfl)]
      go_simp
      simpa [upd] using hK'
    · have d2 : t 2 = .slice (some ⟨b, off, none⟩) 128 cap := by simpa using (hdep ⟨2, .data⟩ (by simp) rfl).2
      clear hdep
      have hK' := hK w' (.slice (some ⟨b, off + 64, none⟩) 64 (cap - 64)) (by simp) (hx.step 3 _ (Below.refl _ _) (fun h => absurd h (by decide))) (Below.refl _ _)
      clear hK
      rw [if_pos (by rfl)]
      go_simp
      simpa [upd, d2, HCN.out] using hK'
    · have d3 : t 3 = .slice (some ⟨b, off + 64, none⟩) 64 (cap - 64) := by simpa using (hdep ⟨3, .data⟩ (by simp) rfl).2
      clear hdep
      have bw : Below w.heap.size w w' := HB1.out.below.trans (hx.below.mono HB1.out.below.size)
      have A := HC1.out w' bw
      have hK' : ∀ ww, Below w'.heap.size w' ww → K _ ww := fun ww hb => hK ww (.agg (((zs.drop 64).take 64).map (Value.int .u8)).toArray) (by simp) (hx.step 4 _ hb (fun h => absurd h (by decide))) hb
      clear hK
      rw [if_pos (by rfl)]
      go_simp
      try simp only [d3]
      refine A.mono ?_
      rintro e w9 ⟨rfl, hb9⟩
      have hK2 := hK' w9 hb9
      clear hK' A hb9
      go_simp
      simpa [upd, d3] using hK2
    · have d1 : t 1 = .agg ((zs.take 64).map (Value.int .u8)).toArray := by simpa using (hdep ⟨1, .data⟩ (by simp) rfl).2
      have d4 : t 4 = .agg (((zs.drop 64).take 64).map (Value.int .u8)).toArray := by simpa using (hdep ⟨4, .data⟩ (by simp) rfl).2
      clear hdep
      have hK' := hK w' (.agg (zs.map (Value.int .u8)).toArray) (by simp) (hx.step 5 _ (Below.refl _ _) (fun h => absurd h (by decide))) (Below.refl _ _)
      clear hK
      rw [if_pos (by rfl)]
      refine wp_buildS (.tmp 9) (.tmp 12) rfl (zs.take 64) ((zs.drop 64).take 64) HLT.out.1 HLT.out.2.1 d1 d4 ?_
      rw [HLT.out.2.2]
      simpa [upd, Act.put] using hK'
    · clear hdep
      have hsz : w1.heap.size ≤ w'.heap.size := hx.below.size
      have bb : Below w'.heap.size w' (w'.alloc (.cells Try.zeroCells45 45)) := (Below.refl _ _).alloc (Nat.le_refl _) _
      have hnw : NwT w1.heap.size (w'.alloc (.cells Try.zeroCells45 45)) (.pointer (some ⟨w'.heap.size, 0, none⟩)) := ⟨w'.heap.size, rfl, hsz, heap_alloc_new w' _⟩
      have hK' := hK (w'.alloc (.cells Try.zeroCells45 45)) (.pointer (some ⟨w'.heap.size, 0, none⟩)) (by simpa using hnw) (hx.step 6 _ bb (fun h => absurd h (by decide))) bb
      clear hK bb hnw
      rw [if_pos (by rfl)]
      go_simp
      simpa [upd] using hK'
  case hend =>
    intro o L t w' ho hx hg K hK
    simp at ho; subst ho
    have d5 : t 5 = .agg (zs.map (Value.int .u8)).toArray := by simpa using (hg 5 (by decide)).2
    have f6 : NwT w1.heap.size w' (t 6) := by simpa using (hg 6 (by decide)).2
    clear hg
    obtain ⟨q, e6, hq, hbx⟩ := f6
    have hK' : ∀ ww, Wr q w' ww → ww.heap[q]? = some (.cells (zs.map (Value.int .u8)).toArray 45 (0, 0)) → K _ ww := fun ww hw hr => hK ww undef ⟨q, by simp [upd]; exact e6, hq, hr, hx.below.trans (hw.below hq)⟩
    clear hK
    rw [if_pos (by rfl)]
    refine wp_store_row 45 (.tmp 3) (.tmp 13) rfl q (zs.map (Value.int .u8)).toArray e6 d5 45 _ hbx HSS.out HEQ.out HOK.out ?_
    have hK2 := hK' _ (Wr.setRow _ _ _) (setRow_heap _ _ _ _ _ _ hbx)
    clear hK'
    simpa [upd, Act.put] using hK2
  case hdone =>
    intro t w2 hf
    obtain ⟨q, e6, hq, hrow, hbw⟩ := hf
    have HB2 : Hid (BXS w w2) := HB1.out.call hbw
    have A := hid_of (snap_any q zs w2 hrow HLZ.out.1 HLZ.out.2)
    simp only [e6]
    clear e6 hq hrow hbw
    go_wp2_with fail
    refine A.out.mono ?_
    rintro e w3 ⟨v, rfl, hv, hb3⟩
    obtain ⟨aD, nD, cD, aU, nU, cU, rfl, s3⟩ := hv
    have HBX : Hid (BXS w w3) := HB2.out.call hb3
    have HV : Hid (S3 w2.heap.size w3 aD aU none nD nU 0 (dkF zs).D (dkF zs).U []) := s3
    clear hb3 s3 A
    go_wp2_with (first
      | (refine wpList_store_row rfl 28 (.tmp 2) (.tmp 14) rfl w.heap.size #[.bool (dkF zs).ok, .int .u32 (dkF zs).g, .int .u32 (dkF zs).t, .slice aD nD cD, .slice aU nU cU] rfl rfl 28 _ HBX.out.box HSR.out rfl (all5s _ _ _ _ _ _ _ _ _) ?_)
      | fail)
    (try simp only [Exit.inBlock, Exit.then])
    refine bodyPost_ret (v := .agg #[.bool (dkF zs).ok, .int .u32 (dkF zs).g, .int .u32 (dkF zs).t, .slice aD nD cD, .slice aU nU cU]) (results_cell_row rfl _ _ w.heap.size 28 _ (0, 0) _ rfl (setRow_heap _ _ _ _ _ _ HBX.out.box) Try.underlying28 rfl HSR.out) rfl ⟨_, rfl, ?_, HBX.out.below.trans ((Wr.setRow _ _ _).below (Nat.le_refl _))⟩
    have hw := Wr.setRow w.heap.size w3 #[.bool (dkF zs).ok, .int .u32 (dkF zs).g, .int .u32 (dkF zs).t, .slice aD nD cD, .slice aU nU cU]
    have h3 := HV.out.keep (w' := w3.setRow w.heap.size #[.bool (dkF zs).ok, .int .u32 (dkF zs).g, .int .u32 (dkF zs).t, .slice aD nD cD, .slice aU nU cU]) (by rw [hw.size]; exact Nat.le_refl _) (fun k hk _ => hw.block k (by have := HB2.out.lt; omega))
    exact ⟨aD, nD, cD, aU, nU, cU, rfl, h3.d, h3.u, h3.t, h3.nd, h3.nu, h3.nt, h3.ld.mono (Nat.le_of_lt HB2.out.lt) (Nat.le_refl _), h3.lu.mono (Nat.le_of_lt HB2.out.lt) (Nat.le_refl _), h3.lt.mono (Nat.le_of_lt HB2.out.lt) (Nat.le_refl _), h3.du, h3.dt, h3.ut⟩
set_option maxRecDepth 100000 in
set_option maxHeartbeats 2000000 in
theorem idk_any (a : Option Addr) (n cap : Nat) (zs : List Int) (w : World) (hn : zs.length = n) (hm : n ≤ 1048576) (hc : n ≤ cap) (ha : At .u8 w a zs) (hz : Byte zs) :
    Calls Try.prog 7 #[.slice a n cap] w fun e w' => ∃ v, e = .returned v ∧ DVA w.heap.size w' v (dkF zs) ∧ Below w.heap.size w w' := by
  by_cases h128 : n = 128
  · obtain ⟨b, off, rfl, _⟩ := ha.get (by omega)
    exact idk_yes b off n cap zs w hn hc h128 ha hz
  · have HBX : Hid (BXS w (w.alloc (.cells #[.bool false, .int .u32 0, .int .u32 0, .slice none 0 0, .slice none 0 0] 28))) := BXS.start w
    have HF : Hid (dkF zs = dkNo) := dkF_len (by omega)
    have hne : ((n : Int) != 128) = true := by simp; omega
    have HSR : Hid ((Try.prog.info? 28).map (·.size) = some 5) := by show _ = _; kernel_rfl
    clear hn ha hz hc
    go_enter Try.func7, Try.ntmps7
    go_wp2_with (first
      | (refine wpList_store_row rfl 28 (.tmp 2) (.tmp 7) rfl w.heap.size #[.bool false, .int .u32 0, .int .u32 0, .slice none 0 0, .slice none 0 0] rfl rfl 28 _ HBX.out.box HSR.out rfl (all5s _ _ _ _ _ _ _ _ _) ?_)
      | fail)
    (try simp only [Exit.inBlock, Exit.then])
    refine bodyPost_ret (v := .agg #[.bool false, .int .u32 0, .int .u32 0, .slice none 0 0, .slice none 0 0]) (results_cell_row rfl _ _ w.heap.size 28 _ (0, 0) _ rfl (setRow_heap _ _ _ _ _ _ HBX.out.box) Try.underlying28 rfl HSR.out) rfl ⟨_, rfl, ?_, HBX.out.below.trans ((Wr.setRow _ _ _).below (Nat.le_refl _))⟩
    rw [HF.out]
    exact DVA.no _ _
end Go.Proofs.Ytmnoelfabldpfaa
