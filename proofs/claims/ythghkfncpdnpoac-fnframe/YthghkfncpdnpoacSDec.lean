/-
  Own work: DecodeFrame of the model.
-/
import Derived.Test.YthghkfncpdnpoacEncAny
import Derived.Test.YthghkfncpdnpoacIDec
import Derived.Laws.BytesArg
namespace Go.Proofs.Ythghkfncpdnpoac
open Go.ChangeShapes Go.WideShapes Go.ChangeAt Go.RowKit
set_option linter.unusedVariables false

set_option maxHeartbeats 400000 in
theorem get_any (b off n cap : Nat) (p : Int) (zs : List Int) (w : World) (hc : ∀ i, i < zs.length → w.cell? ⟨b, off + i, none⟩ = some (.int .u8 (zs.getD i 0))) (hz : Byte zs) (hl : zs.length = n) (hn : n ≤ 1048576) (hp : 0 ≤ p) (hp' : p + 4 ≤ n) :
    Calls Try.prog 50 #[.slice (some ⟨b, off, none⟩) n cap, .int .i64 p] w fun e w' => e = .returned (.int .u32 (num4 zs p.toNat)) ∧ ∃ q, w' = w.drewN q := by
  obtain ⟨p, rfl⟩ := Int.eq_ofNat_of_zero_le hp
  have c0 := hc p (by omega)
  have c1 := hc (p + 1) (by omega)
  have c2 := hc (p + 2) (by omega)
  have c3 := hc (p + 3) (by omega)
  have b0 := hz.get p
  have b1 := hz.get (p + 1)
  have b2 := hz.get (p + 2)
  have b3 := hz.get (p + 3)
  have HN : Hid (num4 zs p = zs.getD p 0 + 256 * zs.getD (p + 1) 0 + 65536 * zs.getD (p + 2) 0 + 16777216 * zs.getD (p + 3) 0) := rfl
  generalize zs.getD p 0 = x0 at *
  generalize zs.getD (p + 1) 0 = x1 at *
  generalize zs.getD (p + 2) 0 = x2 at *
  generalize zs.getD (p + 3) 0 = x3 at *
  clear hc
  obtain ⟨b01, b02⟩ := b0
  obtain ⟨b11, b12⟩ := b1
  obtain ⟨b21, b22⟩ := b2
  obtain ⟨b31, b32⟩ := b3
  have g0 : (p : Int) < (n : Int) := by omega
  have g1 : (p : Int) + 1 < (n : Int) := by omega
  have g2 : (p : Int) + 2 < (n : Int) := by omega
  have g3 : (p : Int) + 3 < (n : Int) := by omega
  go_enter Try.func50, Try.ntmps50
  go_wp2
  go_quiet (fail)
  go_wp2
  go_ret
  exact ⟨ret_int (by rw [Int.toNat_natCast, HN.out]), nq, rfl⟩

/-- What a step may do: the store (number k) alone turns a block. -/
def Mst (k i : Nat) (w w' : World) : Prop :=
  (i ≠ k → Below w.heap.size w w') ∧ w.heap.size ≤ w'.heap.size ∧ ∀ (b : Nat) (cs : Array Value) (t : TypeId) (fr : Nat × Nat), w.heap[b]? = some (Obj.cells cs t fr) → ∃ cs' : Array Value, w'.heap[b]? = some (Obj.cells cs' t fr) ∧ cs'.size = cs.size
theorem Mst.of_below {k i : Nat} {w w' : World} (h : Below w.heap.size w w') : Mst k i w w' :=
  ⟨fun _ => h, h.size, fun b cs t fr hb => ⟨cs, by rw [h.block b (Array.getElem?_eq_some_iff.1 hb).1]; exact hb, rfl⟩⟩
theorem Mst.refl (k i : Nat) (w : World) : Mst k i w w := Mst.of_below (Below.refl _ _)

def G3d (v : Value) (bs os : Nat) (s k a b : Int) (H : Nat) : Nat → World → (Nat → Value) → Prop
  | 0, _, u => u 0 = v
  | 1, _, u => u 1 = .int .u32 s
  | 2, _, u => u 2 = v
  | 3, _, u => u 3 = .pointer (some ⟨bs, os + 6, none⟩)
  | 4, _, u => u 4 = .int .u8 k
  | 5, _, u => u 5 = .int .i64 k
  | 6, _, u => u 6 = v
  | 7, _, u => u 7 = .int .u32 a
  | 8, _, u => u 8 = v
  | 9, _, u => u 9 = .int .u32 b
  | 10, _, u => u 10 = .agg #[.int .u32 s, .int .i64 k, .int .u32 a, .int .u32 b]
  | 11, w, u => ∃ g cs, u 11 = .pointer (some ⟨g, 0, none⟩) ∧ H ≤ g ∧ w.heap[g]? = some (Obj.cells cs 25 (0, 0)) ∧ cs.size = 4
  | _, w, u => ∃ g, u 11 = .pointer (some ⟨g, 0, none⟩) ∧ H ≤ g ∧ w.heap[g]? = some (Obj.cells #[.int .u32 s, .int .i64 k, .int .u32 a, .int .u32 b] 25 (0, 0))

theorem G3d_stab (x : Value) (bs os : Nat) (s k a b : Int) (H j : Nat) (w w' : World) (u : Nat → Value) (i : Nat) (v : Value) (hM : Mst 12 i w w') (hij : i ≠ j) (h7 : j ≥ 12 → 11 ≠ i) (hj : j ≤ 12) (h : G3d x bs os s k a b H j w u) : G3d x bs os s k a b H j w' (upd u i v) := by
  obtain rfl | rfl | rfl | rfl | rfl | rfl | rfl | rfl | rfl | rfl | rfl | rfl | rfl : j = 0 ∨ j = 1 ∨ j = 2 ∨ j = 3 ∨ j = 4 ∨ j = 5 ∨ j = 6 ∨ j = 7 ∨ j = 8 ∨ j = 9 ∨ j = 10 ∨ j = 11 ∨ j = 12 := by omega
  all_goals simp only [G3d] at h ⊢
  iterate 11 (· rw [upd_ne hij]; exact h)
  · obtain ⟨g, cs, h1, h2, h3, h4⟩ := h
    obtain ⟨cs', h5, h6⟩ := hM.2.2 g _ _ _ h3
    exact ⟨g, cs', by rw [upd_ne hij]; exact h1, h2, h5, by omega⟩
  · obtain ⟨g, h1, h2, h3⟩ := h
    refine ⟨g, by rw [upd_ne (Ne.symm (h7 (by omega)))]; exact h1, h2, ?_⟩
    rw [(hM.1 hij).block g (Array.getElem?_eq_some_iff.1 h3).1]; exact h3

def G4d (x : Value) (s k a b : Int) (zs : List Int) : Nat → World → (Nat → Value) → Prop
  | 0, _, u => u 0 = .agg #[.int .u32 s, .int .i64 k, .int .u32 a, .int .u32 b]
  | 1, w, u => Part w (u 1) (encZ s k a b)
  | 2, _, u => u 2 = .string (strOfNums (encZ s k a b))
  | 3, _, u => u 3 = x
  | 4, _, u => u 4 = .string (strOfNums zs)
  | _, _, u => u 5 = .bool (!decide (encZ s k a b = zs))
theorem G4d_stab (x : Value) (s k a b : Int) (zs : List Int) (j : Nat) (w w' : World) (u : Nat → Value) (i : Nat) (v : Value) (hM : Below w.heap.size w w') (hij : i ≠ j) (hj : j ≤ 5) (h : G4d x s k a b zs j w u) : G4d x s k a b zs j w' (upd u i v) := by
  obtain rfl | rfl | rfl | rfl | rfl | rfl : j = 0 ∨ j = 1 ∨ j = 2 ∨ j = 3 ∨ j = 4 ∨ j = 5 := by omega
  all_goals simp only [G4d] at h ⊢
  · rw [upd_ne hij]; exact h
  · rw [upd_ne hij]; exact h.below hM
  all_goals (rw [upd_ne hij]; exact h)

theorem str_inj {xs ys : List Int} (hx : Byte xs) (hy : Byte ys) : ((strOfNums xs).toList == (strOfNums ys).toList) = decide (xs = ys) := by
  rw [Bool.eq_iff_iff, decide_eq_true_eq, beq_iff_eq, ByteArray.toList_eq, ByteArray.toList_eq, strOfNums_data, strOfNums_data]
  constructor
  · intro h
    have hl : xs.length = ys.length := by simpa using congrArg List.length h
    apply List.ext_getElem hl
    intro i h1 h2
    have e : (xs.map fun n => UInt8.ofNat n.toNat)[i]? = (ys.map fun n => UInt8.ofNat n.toNat)[i]? := by rw [h]
    simp [h1, h2] at e
    have e' := congrArg UInt8.toNat e
    have bx := hx xs[i] (List.getElem_mem h1)
    have by' := hy ys[i] (List.getElem_mem h2)
    simp only [UInt8.toNat_ofNat'] at e'
    omega
  · rintro rfl; rfl

theorem encZ_byte (s k a b : Int) (us : U32 s) (ua : U32 a) (ub : U32 b) : Byte (encZ s k a b) := by
  unfold encZ; split
  · rw [← enc_eq s k a b us ua ub]; exact encI_byte _ _ _ _
  · intro z hz; simp at hz

structure Xd (w w' : World) : Prop where
  below : Below w.heap.size w w'
  lt : w.heap.size < w'.heap.size
  res : w'.heap[w.heap.size]? = some (.cells #[.bool false, .int .u32 0, .int .i64 0, .int .u32 0, .int .u32 0] 28 (0, 0))
theorem Xd.drewN {w w' : World} (h : Xd w w') (n : Nat) : Xd w (w'.drewN n) := ⟨⟨h.below.os, h.below.tape, h.below.output, h.below.size, h.below.block⟩, h.lt, h.res⟩
theorem Xd.grow {w w' w'' : World} (h : Xd w w') (hb : Below w'.heap.size w' w'') : Xd w w'' :=
  ⟨h.below.trans (hb.mono (by have := h.lt; omega)), by have := hb.size; have := h.lt; omega, by rw [hb.block _ h.lt]; exact h.res⟩
theorem Xd.cells {w w' : World} (h : Xd w w') {bs os : Nat} {zs : List Int} (hc : ∀ i, i < zs.length → w.cell? ⟨bs, os + i, none⟩ = some (.int .u8 (zs.getD i 0))) (hbs : bs < w.heap.size) :
    ∀ i, i < zs.length → w'.cell? ⟨bs, os + i, none⟩ = some (.int .u8 (zs.getD i 0)) := fun i hi => by rw [h.below.cell (p := ⟨bs, os + i, none⟩) hbs]; exact hc i hi

set_option maxHeartbeats 1000000 in
set_option maxRecDepth 100000 in
theorem sdec_64 (bs os cap : Nat) (zs : List Int) (w : World) (hn : zs.length = 64) (hz : Byte zs) (hbs : bs < w.heap.size) (hc : ∀ i, i < zs.length → w.cell? ⟨bs, os + i, none⟩ = some (.int .u8 (zs.getD i 0))) :
    Calls Try.prog 13 #[.slice (some ⟨bs, os, none⟩) 64 cap] w fun e w' => e = .returned (decV zs) ∧ Below w.heap.size w w' := by
  have HDY : Hid ((!decide (encZ (num4 zs 0) (zs.getD 6 0) (num4 zs 8) (num4 zs 12) = zs)) = true → decV zs = fNo) := by
    intro h
    refine decV_no ?_
    simp only [Bool.not_eq_true', decide_eq_false_iff_not] at h
    unfold decB
    by_cases hk : 1 ≤ zs.getD 6 0 ∧ zs.getD 6 0 ≤ 3
    · unfold encZ at h; rw [if_pos hk] at h
      have : decide (encS (num4 zs 0) (zs.getD 6 0) (num4 zs 8) (num4 zs 12) = zs) = false := by simpa using h
      rw [this]; simp
    · have : decide (1 ≤ zs.getD 6 0 ∧ zs.getD 6 0 ≤ 3) = false := by simpa using hk
      rw [this]; simp
  have HDN : Hid ((!decide (encZ (num4 zs 0) (zs.getD 6 0) (num4 zs 8) (num4 zs 12) = zs)) = false → decV zs = fOk (num4 zs 0) (zs.getD 6 0) (num4 zs 8) (num4 zs 12)) := by
    intro h
    refine decV_yes ?_
    simp only [Bool.not_eq_false', decide_eq_true_eq] at h
    unfold decB
    by_cases hk : 1 ≤ zs.getD 6 0 ∧ zs.getD 6 0 ≤ 3
    · unfold encZ at h; rw [if_pos hk] at h
      have h1 : decide (1 ≤ zs.getD 6 0 ∧ zs.getD 6 0 ≤ 3) = true := by simpa using hk
      have h2 : decide (encS (num4 zs 0) (zs.getD 6 0) (num4 zs 8) (num4 zs 12) = zs) = true := by simpa using h
      rw [h1, h2]; simp [hn]
    · unfold encZ at h; rw [if_neg hk] at h
      rw [← h] at hn; simp at hn
  have us := num4_u32 zs hz 0
  have ua := num4_u32 zs hz 8
  have ub := num4_u32 zs hz 12
  have hb6 := hz.get 6
  have HC6 : Hid (w.cell? ⟨bs, os + 6, none⟩ = some (.int .u8 (zs.getD 6 0))) := hc 6 (by omega)
  generalize hs0 : num4 zs 0 = s0 at *
  generalize ha0 : num4 zs 8 = a0 at *
  generalize hb0 : num4 zs 12 = b0 at *
  generalize zs.getD 6 0 = k0 at *
  have HS : Hid (num4 zs 0 = s0) := hs0
  have HA : Hid (num4 zs 8 = a0) := ha0
  have HBB : Hid (num4 zs 12 = b0) := hb0
  clear hs0 ha0 hb0
  obtain ⟨hb60, hb61⟩ := hb6
  have hwr : IntKind.i64.wrap k0 = k0 := by rw [IntKind.wrap_i64]; omega
  have hs27 : (Try.prog.info? 25).map (·.size) = some 4 := by kernel_rfl
  have HS27 : Hid _ := hs27
  have hsF : (Try.prog.info? 28).map (·.size) = some 5 := by kernel_rfl
  have HSF : Hid _ := hsF
  have HWR : Hid _ := hwr
  clear hs27 hwr hsF
  have hx0 : Xd w (w.alloc (.cells #[.bool false, .int .u32 0, .int .i64 0, .int .u32 0, .int .u32 0] 28)) := ⟨below_new _ _, by simp, heap_alloc_new w _⟩
  have HX0 : Hid _ := hx0
  have HCC : Hid _ := hc
  clear hx0 hc
  go_enter Try.func13, Try.ntmps13
  go_wp2_with fail
  have hc := HCC.out
  clear HCC
  refine wp_region_any (by kernel_rfl) ?_
  refine wpAny_slots2 (frame := fun u => { tmps := #[.slice (some ⟨bs, os, none⟩) 64 cap, undef, .pointer (some ⟨w.heap.size, 0, none⟩), u 11, .slice (some ⟨bs, os, none⟩) 64 cap, .int .i64 64, .bool false, undef, u 0, u 1, u 2, u 3, u 4, u 5, u 6, u 7, u 8, u 9, u 10, undef, undef, undef, undef, undef, undef, undef, undef, undef], defers := [] })
    (Ext := fun w' => Xd w w') (Good := G3d (.slice (some ⟨bs, os, none⟩) 64 cap) bs os s0 k0 a0 b0 (w.heap.size + 1)) (M := Mst 12) ?hstab (by kernel_rfl) ?hop ?hdone _ _ (fun _ => undef) _ (by simp) ?ext ?start ?clo (by simp)
  case start => intro i hi h; exact absurd h (by rw [Array.getD_eq_getD_getElem?, Array.getElem?_replicate]; split <;> simp)
  case clo => intro i o ho h; exact absurd h (by rw [Array.getD_eq_getD_getElem?, Array.getElem?_replicate]; split <;> simp)
  case ext => exact HX0.out.drewN 1
  case hstab =>
    intro j o w1 w2 u i v ho hM hij hd hg
    have hj : j < 13 := (Array.getElem?_eq_some_iff.1 ho).1
    refine G3d_stab _ _ _ _ _ _ _ _ j w1 w2 u i v hM hij (fun h8 => ?_) (by omega) hg
    obtain rfl : j = 12 := by omega
    simp at ho; subst ho
    exact hd ⟨11, .data⟩ (by simp) rfl
  case hop =>
      intro i o u w6 ho hx hdep K hK
      have hi : i < 13 := (Array.getElem?_eq_some_iff.1 ho).1
      have hc6 : w6.cell? ⟨bs, os + 6, none⟩ = some (.int .u8 k0) := by rw [hx.below.cell (p := ⟨bs, os + 6, none⟩) hbs]; exact HC6.out
      have hlt := hx.lt
      obtain rfl | rfl | rfl | rfl | rfl | rfl | rfl | rfl | rfl | rfl | rfl | rfl | rfl : i = 0 ∨ i = 1 ∨ i = 2 ∨ i = 3 ∨ i = 4 ∨ i = 5 ∨ i = 6 ∨ i = 7 ∨ i = 8 ∨ i = 9 ∨ i = 10 ∨ i = 11 ∨ i = 12 := by omega
      all_goals (simp at ho; subst ho)
      · clear hdep
        go_simp
        exact hK w6 _ rfl hx (Mst.refl _ _ _)
      · have d : u 0 = _ := hdep ⟨0, .data⟩ (by simp) rfl
        clear hdep
        go_simp
        refine (get_any bs os 64 cap 0 zs _ (hx.cells hc hbs) hz hn (by decide) (by decide) (by decide)).mono ?_
        rintro e w7 ⟨rfl, q, rfl⟩
        have hv : num4 zs (Int.toNat 0) = s0 := HS.out
        rw [hv]
        go_simp
        simpa [upd, d] using hK _ (.int .u32 s0) rfl (hx.drewN q) (Mst.of_below (below_drewN' (Below.refl _ _) q))
      · clear hdep
        go_simp
        exact hK w6 _ rfl hx (Mst.refl _ _ _)
      · have d : u 2 = _ := hdep ⟨2, .data⟩ (by simp) rfl
        clear hdep
        go_simp
        simpa [upd, d] using hK w6 (.pointer (some ⟨bs, os + 6, none⟩)) rfl hx (Mst.refl _ _ _)
      · have d : u 3 = _ := hdep ⟨3, .data⟩ (by simp) rfl
        clear hdep
        go_simp
        simpa [upd, d] using hK w6 (.int .u8 k0) rfl hx (Mst.refl _ _ _)
      · have d : u 4 = _ := hdep ⟨4, .data⟩ (by simp) rfl
        clear hdep
        go_simp
        simpa [upd, d, HWR.out] using hK w6 (.int .i64 k0) rfl hx (Mst.refl _ _ _)
      · clear hdep
        go_simp
        exact hK w6 _ rfl hx (Mst.refl _ _ _)
      · have d : u 6 = _ := hdep ⟨6, .data⟩ (by simp) rfl
        clear hdep
        go_simp
        refine (get_any bs os 64 cap 8 zs _ (hx.cells hc hbs) hz hn (by decide) (by decide) (by decide)).mono ?_
        rintro e w7 ⟨rfl, q, rfl⟩
        have hv : num4 zs (Int.toNat 8) = a0 := HA.out
        rw [hv]
        go_simp
        simpa [upd, d] using hK _ (.int .u32 a0) rfl (hx.drewN q) (Mst.of_below (below_drewN' (Below.refl _ _) q))
      · clear hdep
        go_simp
        exact hK w6 _ rfl hx (Mst.refl _ _ _)
      · have d : u 8 = _ := hdep ⟨8, .data⟩ (by simp) rfl
        clear hdep
        go_simp
        refine (get_any bs os 64 cap 12 zs _ (hx.cells hc hbs) hz hn (by decide) (by decide) (by decide)).mono ?_
        rintro e w7 ⟨rfl, q, rfl⟩
        have hv : num4 zs (Int.toNat 12) = b0 := HBB.out
        rw [hv]
        go_simp
        simpa [upd, d] using hK _ (.int .u32 b0) rfl (hx.drewN q) (Mst.of_below (below_drewN' (Below.refl _ _) q))
      · have d0 : u 1 = _ := hdep ⟨1, .data⟩ (by simp) rfl
        have d3 : u 5 = _ := hdep ⟨5, .data⟩ (by simp) rfl
        have d4 : u 7 = _ := hdep ⟨7, .data⟩ (by simp) rfl
        have d5 : u 9 = _ := hdep ⟨9, .data⟩ (by simp) rfl
        clear hdep
        go_simp
        simpa [upd, d0, d3, d4, d5] using hK w6 (.agg #[.int .u32 s0, .int .i64 k0, .int .u32 a0, .int .u32 b0]) rfl hx (Mst.refl _ _ _)
      · clear hdep
        have hb := below_new w6 (.cells #[.int .u32 0, .int .i64 0, .int .u32 0, .int .u32 0] 25)
        go_simp
        exact hK _ _ ⟨w6.heap.size, _, rfl, by omega, heap_alloc_new w6 _, rfl⟩ (hx.grow hb) (Mst.of_below hb)
      · have d6 : u 10 = _ := hdep ⟨10, .data⟩ (by simp) rfl
        obtain ⟨g, cs, d7, hg, hh, hcs⟩ := hdep ⟨11, .data⟩ (by simp) rfl
        rw [if_pos (by rfl)]
        refine wp_store_row 25 (.tmp 3) (.tmp 18) rfl g _ d7 d6 25 cs hh HS27.out hcs (all4 _ _ _ _) ?_
        refine hK (w6.setRow g #[.int .u32 s0, .int .i64 k0, .int .u32 a0, .int .u32 b0]) undef ⟨g, ?_, hg, setRow_heap _ _ _ _ _ _ hh⟩ ⟨?_, ?_, ?_⟩ ⟨?_, ?_, ?_⟩
        · exact d7
        · exact hx.below.trans ((Wr.setRow g w6 _).below (by omega))
        · rw [size_setRow]; exact hlt
        · rw [setRow_other w6 g _ _ (by omega)]; exact hx.res
        · intro h; exact absurd rfl h
        · rw [size_setRow]; exact Nat.le_refl _
        · intro b2 cs2 t2 fr2 hb2
          by_cases hbg : b2 = g
          · subst hbg
            rw [hh] at hb2
            obtain ⟨rfl, rfl, rfl⟩ := (by simpa using hb2 : cs = cs2 ∧ _ = t2 ∧ _ = fr2)
            exact ⟨_, setRow_heap _ _ _ _ _ _ hh, by rw [hcs]; rfl⟩
          · exact ⟨cs2, by rw [setRow_other w6 g b2 _ hbg]; exact hb2, rfl⟩
  case hdone =>
      intro u w6 hx hg
      obtain ⟨g, h7, hgl, hblk⟩ := hg 12 (by decide)
      clear hg
      have hst6 : Hid _ := hx
      have hblk6 : Hid _ := hblk
      have HC : Hid _ := hc
      clear hx hblk hc
      go_wp2_with fail
      have hc := HC.out
      rw [h7]
      clear h7 HC
      refine wp_region_any (by kernel_rfl) ?_
      refine wpAny_slots2 (frame := fun t => { tmps := #[.slice (some ⟨bs, os, none⟩) 64 cap, undef, .pointer (some ⟨w.heap.size, 0, none⟩), .pointer (some ⟨g, 0, none⟩), .slice (some ⟨bs, os, none⟩) 64 cap, .int .i64 64, .bool false, undef, u 0, u 1, u 2, u 3, u 4, u 5, u 6, u 7, u 8, u 9, u 10, t 0, t 1, t 2, t 3, t 4, t 5, undef, undef, undef], defers := [] })
        (Ext := fun w' => Xd w w' ∧ w'.heap[g]? = some (Obj.cells #[.int .u32 s0, .int .i64 k0, .int .u32 a0, .int .u32 b0] 25 (0, 0))) (Good := G4d (.slice (some ⟨bs, os, none⟩) 64 cap) s0 k0 a0 b0 zs) (M := fun _ w w' => Below w.heap.size w w') ?hstab7 (by kernel_rfl) ?hop7 ?hdone7 _ _ (fun _ => undef) _ (by simp) ?ext7 ?start7 ?clo7 (by simp)
      case start7 => intro i hi h; exact absurd h (by rw [Array.getD_eq_getD_getElem?, Array.getElem?_replicate]; split <;> simp)
      case clo7 => intro i o ho h; exact absurd h (by rw [Array.getD_eq_getD_getElem?, Array.getElem?_replicate]; split <;> simp)
      case ext7 => exact ⟨hst6.out.drewN 1, hblk6.out⟩
      case hstab7 =>
        intro j o w1 w2 t i v ho hM hij hd hg
        have hj : j < 6 := (Array.getElem?_eq_some_iff.1 ho).1
        exact G4d_stab _ _ _ _ _ _ j w1 w2 t i v hM hij (by omega) hg
      case hdone7 =>
        intro t w7 hx hg
        obtain ⟨hx, hblk⟩ := hx
        have h6 : t 5 = _ := hg 5 (by decide)
        clear hg
        have HN' := HDN.out
        have HY' := HDY.out
        clear HDN HDY
        have f0 : w7.cell? ⟨g, 0, none⟩ = some (.int .u32 s0) := cell_of_row _ _ _ _ _ _ hblk
        have f1 : w7.cell? ⟨g, 1, none⟩ = some (.int .i64 k0) := cell_of_row _ _ _ _ _ _ hblk
        have f2 : w7.cell? ⟨g, 2, none⟩ = some (.int .u32 a0) := cell_of_row _ _ _ _ _ _ hblk
        have f3 : w7.cell? ⟨g, 3, none⟩ = some (.int .u32 b0) := cell_of_row _ _ _ _ _ _ hblk
        have HR7 : Hid _ := hx.res
        have HB7 : Hid (Below w.heap.size w w7) := hx.below
        clear hx hblk hc
        generalize hfin : (!decide (encZ s0 k0 a0 b0 = zs)) = fin at *
        rw [h6]
        clear h6
        cases fin
        · have HV : Hid (decV zs = fOk s0 k0 a0 b0) := HN' rfl
          clear HN' HY' hfin
          go_wp2_with (refine wpList_store_row rfl 28 (.tmp 2) (.tmp 27) rfl w.heap.size #[.bool true, .int .u32 s0, .int .i64 k0, .int .u32 a0, .int .u32 b0] rfl rfl 28 _ HR7.out HSF.out rfl (all5 _ _ _ _ _) ?_)
          (try simp only [Exit.inBlock, Exit.then])
          refine bodyPost_ret (v := fOk s0 k0 a0 b0) (results_cell_row rfl _ _ w.heap.size 28 _ (0, 0) _ rfl (setRow_heap _ _ _ _ _ _ HR7.out) Try.underlying28 rfl HSF.out) rfl ⟨by rw [HV.out], ?_⟩
          exact HB7.out.trans ((Wr.setRow _ _ _).below (Nat.le_refl _))
        · have HV : Hid (decV zs = fNo) := HY' rfl
          clear HN' HY' hfin
          go_wp2_with (refine wpList_store_row rfl 28 (.tmp 2) (.tmp 25) rfl w.heap.size #[.bool false, .int .u32 0, .int .i64 0, .int .u32 0, .int .u32 0] rfl rfl 28 _ HR7.out HSF.out rfl (all5 _ _ _ _ _) ?_)
          (try simp only [Exit.inBlock, Exit.then])
          refine bodyPost_ret (v := fNo) (results_cell_row rfl _ _ w.heap.size 28 _ (0, 0) _ rfl (setRow_heap _ _ _ _ _ _ HR7.out) Try.underlying28 rfl HSF.out) rfl ⟨by rw [HV.out], ?_⟩
          exact HB7.out.trans ((Wr.setRow _ _ _).below (Nat.le_refl _))
      case hop7 =>
        intro i o t w7 ho hx hdep K hK
        obtain ⟨hx, hblk⟩ := hx
        have hi : i < 6 := (Array.getElem?_eq_some_iff.1 ho).1
        have f0 : w7.cell? ⟨g, 0, none⟩ = some (.int .u32 s0) := cell_of_row _ _ _ _ _ _ hblk
        have f1 : w7.cell? ⟨g, 1, none⟩ = some (.int .i64 k0) := cell_of_row _ _ _ _ _ _ hblk
        have f2 : w7.cell? ⟨g, 2, none⟩ = some (.int .u32 a0) := cell_of_row _ _ _ _ _ _ hblk
        have f3 : w7.cell? ⟨g, 3, none⟩ = some (.int .u32 b0) := cell_of_row _ _ _ _ _ _ hblk
        have hgl7 : g < w7.heap.size := (Array.getElem?_eq_some_iff.1 hblk).1
        obtain rfl | rfl | rfl | rfl | rfl | rfl : i = 0 ∨ i = 1 ∨ i = 2 ∨ i = 3 ∨ i = 4 ∨ i = 5 := by omega
        all_goals (simp at ho; subst ho)
        · clear hdep hc
          go_simp
          exact hK w7 _ rfl ⟨hx, hblk⟩ (Below.refl _ _)
        · have d : t 0 = _ := hdep ⟨0, .data⟩ (by simp) rfl
          clear hdep hc
          go_simp
          refine (senc_any s0 k0 a0 b0 _ us ua ub).mono ?_
          rintro e w8 ⟨v, rfl, hp, hb8⟩
          have hx8 := hx.grow hb8
          have hblk8 : w8.heap[g]? = some (Obj.cells #[.int .u32 s0, .int .i64 k0, .int .u32 a0, .int .u32 b0] 25 (0, 0)) := by rw [hb8.block g hgl7]; exact hblk
          go_simp
          simpa [upd, d] using hK w8 v hp ⟨hx8, hblk8⟩ hb8
        · obtain ⟨bp, op, cp, d, hl, hcp⟩ := hdep ⟨1, .data⟩ (by simp) rfl
          clear hdep hc
          have hcv := run_convert_bytes_arg w7 22 5 Try.underlying22 Try.underlying5 bp op _ cp (encZ s0 k0 a0 b0) rfl hcp 9 Try.underlying9
          clear hcp
          generalize (encZ s0 k0 a0 b0).length = el at *
          go_simp
          simpa [upd, d] using hK w7 (.string (strOfNums (encZ s0 k0 a0 b0))) rfl ⟨hx, hblk⟩ (Below.refl _ _)
        · clear hdep hc
          go_simp
          exact hK w7 _ rfl ⟨hx, hblk⟩ (Below.refl _ _)
        · have d : t 3 = _ := hdep ⟨3, .data⟩ (by simp) rfl
          have hcv := run_convert_bytes_arg w7 22 5 Try.underlying22 Try.underlying5 bs os 64 cap zs hn (fun i hi => hx.cells hc hbs i (by omega)) 9 Try.underlying9
          clear hdep hc
          go_simp
          simpa [upd, d] using hK w7 (.string (strOfNums zs)) rfl ⟨hx, hblk⟩ (Below.refl _ _)
        · have d2 : t 2 = _ := hdep ⟨2, .data⟩ (by simp) rfl
          have d4 : t 4 = _ := hdep ⟨4, .data⟩ (by simp) rfl
          have hinj := str_inj (encZ_byte s0 k0 a0 b0 us ua ub) hz
          clear hdep hc
          generalize hv : decide (encZ s0 k0 a0 b0 = zs) = bv at *
          go_simp
          simpa [upd, d2, d4, hinj] using hK w7 (.bool !bv) (by simp [G4d, upd, hv]) ⟨hx, hblk⟩ (Below.refl _ _)
end Go.Proofs.Ythghkfncpdnpoac
