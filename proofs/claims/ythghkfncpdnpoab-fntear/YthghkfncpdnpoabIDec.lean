/-
  Own work: DecodeFrame of the program.
-/
import Derived.Test.YthghkfncpdnpoabIEnc
import Derived.Test.YthghkfncpdnpoabSec
import Derived.Test.YthghkfncpdnpoabArrEq
import Derived.Test.YthghkfncpdnpoabReg2
import Derived.Deep.WholeRow
namespace Go.Proofs.Ythghkfncpdnpoab
open Go.ChangeShapes Go.WideShapes Go.ChangeAt Go.RowKit
set_option linter.unusedVariables false

theorem num4_u32 (zs : List Int) (hz : Byte zs) (p : Nat) : U32 (num4 zs p) := by
  have h0 := hz.get p
  have h1 := hz.get (p + 1)
  have h2 := hz.get (p + 2)
  have h3 := hz.get (p + 3)
  unfold num4 U32; omega
theorem encS_len (s k a b : Int) : (encS s k a b).length = 64 := by simp [encS, parts3, headS_len, four]
theorem encS_tail (s k a b : Int) (us : U32 s) : num4 (encS s k a b) 60 = s := by
  obtain ⟨h0, h1⟩ := us
  have hl := headS_len s k a b
  have e : ∀ i, (encS s k a b).getD (60 + i) 0 = (four s).getD i 0 := fun i => by
    simp only [encS, parts3, List.flatten_cons, List.flatten_nil, List.append_nil, List.getD_eq_getElem?_getD]
    rw [List.getElem?_append_right (by omega), hl, List.getElem?_append_right (by simp [four]; omega)]
    simp [four, show 60 + i - 56 - 4 = i by omega]
  have e0 := e 0
  have e1 := e 1
  have e2 := e 2
  have e3 := e 3
  unfold num4
  simp only [Nat.add_zero, Nat.reduceAdd] at e0 e1 e2 e3 ⊢
  rw [e0, e1, e2, e3]
  simp [four]; omega

def fOk (s k a b : Int) : Value := .agg #[.bool true, .int .u32 s, .int .i64 k, .int .u32 a, .int .u32 b]
def fNo : Value := .agg #[.bool false, .int .u32 0, .int .i64 0, .int .u32 0, .int .u32 0]
/-- Does the text decode? -/
def decB (zs : List Int) : Bool := decide (zs.length = 64) && (decide (1 ≤ zs.getD 6 0 ∧ zs.getD 6 0 ≤ 3) && decide (encS (num4 zs 0) (zs.getD 6 0) (num4 zs 8) (num4 zs 12) = zs))
def decV (zs : List Int) : Value := bif decB zs then fOk (num4 zs 0) (zs.getD 6 0) (num4 zs 8) (num4 zs 12) else fNo

theorem decV_no {zs : List Int} (h : decB zs = false) : decV zs = fNo := by unfold decV; rw [h]; rfl
theorem decV_yes {zs : List Int} (h : decB zs = true) : decV zs = fOk (num4 zs 0) (zs.getD 6 0) (num4 zs 8) (num4 zs 12) := by unfold decV; rw [h]; rfl

theorem all5 (x : Bool) (s k a b : Int) : (#[Value.bool x, .int .u32 s, .int .i64 k, .int .u32 a, .int .u32 b].all (fun v => v.oneCell')) = true := by simp [Value.oneCell']
theorem all4 (s k a b : Int) : (#[Value.int .u32 s, .int .i64 k, .int .u32 a, .int .u32 b].all (fun v => v.oneCell')) = true := by simp [Value.oneCell']
structure Dst (w w' : World) (gc : Nat) (zs : List Int) : Prop where
  below : Below w.heap.size w w'
  lt : w.heap.size < gc
  row : Row w' gc 73 zs
  res : w'.heap[w.heap.size]? = some (.cells #[.bool false, .int .u32 0, .int .i64 0, .int .u32 0, .int .u32 0] 31 (0, 0))
theorem Dst.drewN {w w' : World} {gc : Nat} {zs : List Int} (h : Dst w w' gc zs) (n : Nat) : Dst w (w'.drewN n) gc zs :=
  ⟨⟨h.below.os, h.below.tape, h.below.output, h.below.size, h.below.block⟩, h.lt, h.row, h.res⟩
theorem Dst.grow {w w' w'' : World} {gc : Nat} {zs : List Int} (h : Dst w w' gc zs) (hb : Below w'.heap.size w' w'') : Dst w w'' gc zs := by
  have hl := h.row.lt
  have := h.lt
  exact ⟨h.below.trans (hb.mono (by omega)), h.lt, by unfold Row; rw [hb.block gc hl]; exact h.row, by rw [hb.block _ (by omega)]; exact h.res⟩

/-- What the operation number i of the literal leaves. -/
def G6 (gc : Nat) (s k a b : Int) (H : Nat) : Nat → World → (Nat → Value) → Prop
  | 0, _, u => u 0 = .int .u32 s
  | 1, _, u => u 1 = .pointer (some ⟨gc, 6, none⟩)
  | 2, _, u => u 2 = .int .u8 k
  | 3, _, u => u 3 = .int .i64 k
  | 4, _, u => u 4 = .int .u32 a
  | 5, _, u => u 5 = .int .u32 b
  | 6, _, u => u 6 = .agg #[.int .u32 s, .int .i64 k, .int .u32 a, .int .u32 b]
  | 7, w, u => ∃ g cs, u 7 = .pointer (some ⟨g, 0, none⟩) ∧ H ≤ g ∧ w.heap[g]? = some (Obj.cells cs 29 (0, 0)) ∧ cs.size = 4
  | _, w, u => ∃ g, u 7 = .pointer (some ⟨g, 0, none⟩) ∧ H ≤ g ∧ w.heap[g]? = some (Obj.cells #[.int .u32 s, .int .i64 k, .int .u32 a, .int .u32 b] 29 (0, 0))

/-- What a step may do: the store (8) alone turns a block. -/
def M6 (i : Nat) (w w' : World) : Prop :=
  (i ≠ 8 → Below w.heap.size w w') ∧ w.heap.size ≤ w'.heap.size ∧ ∀ (b : Nat) (cs : Array Value) (t : TypeId) (fr : Nat × Nat), w.heap[b]? = some (Obj.cells cs t fr) → ∃ cs' : Array Value, w'.heap[b]? = some (Obj.cells cs' t fr) ∧ cs'.size = cs.size
theorem M6.of_below {i : Nat} {w w' : World} (h : Below w.heap.size w w') : M6 i w w' :=
  ⟨fun _ => h, h.size, fun b cs t fr hb => ⟨cs, by rw [h.block b (Array.getElem?_eq_some_iff.1 hb).1]; exact hb, rfl⟩⟩
theorem M6.refl (i : Nat) (w : World) : M6 i w w := M6.of_below (Below.refl _ _)
theorem below_drewN' {B : Nat} {a w : World} (h : Below B a w) (n : Nat) : Below B a (w.drewN n) := ⟨h.os, h.tape, h.output, h.size, h.block⟩

theorem upd_ne {u : Nat → Value} {i j : Nat} {v : Value} (h : i ≠ j) : upd u i v j = u j := by unfold upd; rw [if_neg (Ne.symm h)]

theorem G6_stab (gc : Nat) (s k a b : Int) (H j : Nat) (w w' : World) (u : Nat → Value) (i : Nat) (v : Value) (hM : M6 i w w') (hij : i ≠ j) (h7 : j ≥ 8 → 7 ≠ i) (hj : j ≤ 8) (h : G6 gc s k a b H j w u) : G6 gc s k a b H j w' (upd u i v) := by
  obtain rfl | rfl | rfl | rfl | rfl | rfl | rfl | rfl | rfl : j = 0 ∨ j = 1 ∨ j = 2 ∨ j = 3 ∨ j = 4 ∨ j = 5 ∨ j = 6 ∨ j = 7 ∨ j = 8 := by omega
  all_goals simp only [G6] at h ⊢
  iterate 7 (· rw [upd_ne hij]; exact h)
  · obtain ⟨g, cs, h1, h2, h3, h4⟩ := h
    obtain ⟨cs', h5, h6⟩ := hM.2.2 g _ _ _ h3
    exact ⟨g, cs', by rw [upd_ne hij]; exact h1, h2, h5, by omega⟩
  · obtain ⟨g, h1, h2, h3⟩ := h
    refine ⟨g, by rw [upd_ne (Ne.symm (h7 (by omega)))]; exact h1, h2, ?_⟩
    rw [(hM.1 hij).block g (Array.getElem?_eq_some_iff.1 h3).1]; exact h3

/-- What the operation number i of the last test leaves. -/
def G7 (hk : Bool) (zs e : List Int) : Nat → World → (Nat → Value) → Prop
  | 0, _, u => u 0 = .bool hk
  | 1, _, u => u 1 = .bool (!hk)
  | 2, _, u => u 2 = .bool (!hk)
  | 3, _, u => hk = true → u 3 = .agg (e.map (Value.int .u8)).toArray
  | 4, _, u => hk = true → u 4 = .agg (zs.map (Value.int .u8)).toArray
  | 5, _, u => hk = true → u 5 = .bool (!decide (e = zs))
  | _, _, u => u 6 = .bool (!hk || !decide (e = zs))
theorem G7_stab (hk : Bool) (zs e : List Int) (j : Nat) (w w' : World) (u : Nat → Value) (i : Nat) (v : Value) (hij : i ≠ j) (hj : j ≤ 6) (h : G7 hk zs e j w u) : G7 hk zs e j w' (upd u i v) := by
  obtain rfl | rfl | rfl | rfl | rfl | rfl | rfl : j = 0 ∨ j = 1 ∨ j = 2 ∨ j = 3 ∨ j = 4 ∨ j = 5 ∨ j = 6 := by omega
  all_goals simp only [G7] at h ⊢
  all_goals (rw [upd_ne hij]; exact h)

set_option maxHeartbeats 1000000 in
set_option maxRecDepth 100000 in
theorem idec_64 (a : Option Addr) (cap : Nat) (zs : List Int) (w : World) (hn : zs.length = 64) (hz : Byte zs) (ha : At .u8 w a zs) :
    Calls Try.prog 16 #[.slice a 64 cap] w fun e w' => e = .returned (decV zs) ∧ Below w.heap.size w w' := by
  have htk : zs.take 64 = zs := List.take_of_length_le (by omega)
  have HD : Hid (num4 zs 0 ≠ num4 zs 60 → decV zs = fNo) := fun hne => decV_no (by
    unfold decB
    have : decide (encS (num4 zs 0) (zs.getD 6 0) (num4 zs 8) (num4 zs 12) = zs) = false := by
      simp only [decide_eq_false_iff_not]
      intro h
      have := encS_tail (num4 zs 0) (zs.getD 6 0) (num4 zs 8) (num4 zs 12) (num4_u32 zs hz 0)
      rw [h] at this; exact hne this.symm
    rw [this]; simp)
  go_enter Try.func16, Try.ntmps16
  go_wp2_with fail
  refine (sectorOf_any a 64 cap zs _ hn (Nat.le_refl _) (ha.below (below_new _ _))).mono ?_
  rintro e w2 ⟨rfl, hb2⟩
  rw [htk]
  have hs2 : w.heap.size + 1 ≤ w2.heap.size := by have := hb2.size; simp at this; exact this
  have hr2 : w2.heap[w.heap.size]? = some (.cells #[.bool false, .int .u32 0, .int .i64 0, .int .u32 0, .int .u32 0] 31 (0, 0)) := by
    rw [hb2.block w.heap.size (by simp)]; exact heap_alloc_new w _
  have hb2' : Below w.heap.size w w2 := (below_new w _).trans (hb2.mono (by simp))
  have hs1 : (Try.prog.info? 73).map (·.size) = some ((zs.map (Value.int .u8)).toArray).size := by rw [Try.sizeSec]; simp [hn]
  have HS1 : Hid _ := hs1
  have HST : Hid (Dst w (w2.alloc (.cells ((zs.map (Value.int .u8)).toArray) 73)) w2.heap.size zs) :=
    ⟨hb2'.alloc (by omega) _, by omega, heap_alloc_new w2 _, by rw [Below.heap_alloc w2 _ w.heap.size (by omega)]; exact hr2⟩
  clear hs1 hb2 hr2 hb2'
  go_wp2_with (refine wpList_store_row rfl 73 (.tmp 3) (.tmp 10) rfl w2.heap.size ((zs.map (Value.int .u8)).toArray) rfl rfl 73 _ (heap_alloc_new w2 _) HS1.out (by simp [hn]) (all_oneCell_toArray (ints_oneCell _ _)) ?_)
  rw [World.setRow_alloc_new]
  have st := HST.out
  clear HST
  have hgl : w2.heap.size < (w2.alloc (.cells ((zs.map (Value.int .u8)).toArray) 73)).heap.size := by simp
  generalize w2.alloc (.cells ((zs.map (Value.int .u8)).toArray) 73) = w3 at *
  generalize w2.heap.size = gc at *
  refine (num_any gc 73 0 zs _ st.row hz hn (by decide) (by decide)).mono ?_
  rintro e w4 ⟨rfl, q4, rfl⟩
  have st4 := st.drewN q4
  clear st hgl
  generalize w3.drewN q4 = w4 at *
  go_wp2_with fail
  refine (num_any gc 73 60 zs _ st4.row hz hn (by decide) (by decide)).mono ?_
  rintro e w5 ⟨rfl, q5, rfl⟩
  have st5 := st4.drewN q5
  clear st4
  generalize w4.drewN q5 = w5 at *
  have hres := st5.res
  have hsF : (Try.prog.info? 31).map (·.size) = some 5 := by kernel_rfl
  have HSF : Hid _ := hsF
  clear hsF
  have HST5 : Hid _ := st5
  have HRES : Hid _ := hres
  clear st5 hres
  simp only [show Int.toNat 60 = 60 from rfl]
  cases ht : (num4 zs 0 != num4 zs 60)
  · have HDY : Hid (∀ hk : Bool, hk = decide (1 ≤ zs.getD 6 0 ∧ zs.getD 6 0 ≤ 3) → (!hk || !decide (encI (num4 zs 0) (zs.getD 6 0) (num4 zs 8) (num4 zs 12) = zs)) = true → decV zs = fNo) := by
      intro hk hhk h
      refine decV_no ?_
      rw [enc_eq _ _ _ _ (num4_u32 zs hz 0) (num4_u32 zs hz 8) (num4_u32 zs hz 12)] at h
      unfold decB; rw [← hhk]
      cases hk
      · simp
      · simp only [Bool.not_true, Bool.false_or, Bool.not_eq_true'] at h
        rw [h]; simp
    have HDN : Hid (∀ hk : Bool, hk = decide (1 ≤ zs.getD 6 0 ∧ zs.getD 6 0 ≤ 3) → (!hk || !decide (encI (num4 zs 0) (zs.getD 6 0) (num4 zs 8) (num4 zs 12) = zs)) = false → decV zs = fOk (num4 zs 0) (zs.getD 6 0) (num4 zs 8) (num4 zs 12)) := by
      intro hk hhk h
      refine decV_yes ?_
      rw [enc_eq _ _ _ _ (num4_u32 zs hz 0) (num4_u32 zs hz 8) (num4_u32 zs hz 12)] at h
      unfold decB; rw [← hhk]
      cases hk
      · simp at h
      · simp only [Bool.not_true, Bool.false_or, Bool.not_eq_false'] at h
        rw [h]; simp [hn]
    have us := num4_u32 zs hz 0
    have ua := num4_u32 zs hz 8
    have ub := num4_u32 zs hz 12
    have hb6 := hz.get 6
    have HC6 : Hid (∀ w', Row w' gc 73 zs → w'.cell? ⟨gc, 6, none⟩ = some (.int .u8 (zs.getD 6 0))) := fun w' h => h.cell 6 (by omega)
    clear HD
    generalize hs0 : num4 zs 0 = s0 at *
    generalize ht0 : num4 zs 60 = t0 at *
    generalize ha0 : num4 zs 8 = a0 at *
    generalize hb0 : num4 zs 12 = b0 at *
    generalize zs.getD 6 0 = k0 at *
    have HS : Hid (num4 zs 0 = s0) := hs0
    have HA : Hid (num4 zs 8 = a0) := ha0
    have HBB : Hid (num4 zs 12 = b0) := hb0
    clear hs0 ht0 ha0 hb0
    obtain ⟨hb60, hb61⟩ := hb6
    have hwr : IntKind.i64.wrap k0 = k0 := by rw [IntKind.wrap_i64]; omega
    have hs27 : (Try.prog.info? 29).map (·.size) = some 4 := by kernel_rfl
    have HS27 : Hid _ := hs27
    clear hs27
    have HWR : Hid _ := hwr
    clear hwr
    go_wp2_with fail
    refine wp_region_any (by kernel_rfl) ?_
    refine wpAny_slots2 (frame := fun u => { tmps := #[.slice a 64 cap, undef, .pointer (some ⟨w.heap.size, 0, none⟩), .pointer (some ⟨gc, 0, none⟩), u 7, .slice a 64 cap, .int .i64 64, .bool false, undef, .slice a 64 cap, .agg (zs.map (Value.int .u8)).toArray, .int .u32 s0, .int .u32 t0, .bool false, undef,
        u 0, u 1, u 2, u 3, u 4, u 5, u 6, undef, undef, undef, undef, undef, undef, undef, undef, undef, undef], defers := [] })
      (Ext := fun w' => Dst w w' gc zs ∧ w5.heap.size ≤ w'.heap.size) (Good := G6 gc s0 k0 a0 b0 w5.heap.size) (M := M6) ?hstab (by kernel_rfl) ?hop ?hdone _ _ (fun _ => undef) _ (by simp) ?ext ?start ?clo (by simp)
    case start => intro i hi h; exact absurd h (by rw [Array.getD_eq_getD_getElem?, Array.getElem?_replicate]; split <;> simp)
    case clo => intro i o ho h; exact absurd h (by rw [Array.getD_eq_getD_getElem?, Array.getElem?_replicate]; split <;> simp)
    case ext => exact ⟨HST5.out.drewN 1, Nat.le_refl _⟩
    case hstab =>
      intro j o w1 w2 u i v ho hM hij hd hg
      have hj : j < 9 := (Array.getElem?_eq_some_iff.1 ho).1
      refine G6_stab gc s0 k0 a0 b0 w5.heap.size j w1 w2 u i v hM hij (fun h8 => ?_) (by omega) hg
      obtain rfl : j = 8 := by omega
      simp at ho; subst ho
      exact hd ⟨7, .data⟩ (by simp) rfl
    case hdone =>
      intro u w6 hx hg
      obtain ⟨hx, hsz⟩ := hx
      obtain ⟨g, h7, hgl, hblk⟩ := hg 8 (by decide)
      clear hg
      have hlt5 : w.heap.size < w5.heap.size := by have := HST5.out.row.lt; have := HST5.out.lt; omega
      have hst6 : Hid _ := hx
      have hblk6 : Hid _ := hblk
      clear hx hblk
      obtain ⟨hk, hhk⟩ : ∃ hk : Bool, hk = decide (1 ≤ k0 ∧ k0 ≤ 3) := ⟨_, rfl⟩
      have HHK : Hid _ := hhk
      clear hhk
      go_wp2_with fail
      rw [h7]
      refine wp_region_any (by kernel_rfl) ?_
      refine wpAny_slots2 (frame := fun t => { tmps := #[.slice a 64 cap, undef, .pointer (some ⟨w.heap.size, 0, none⟩), .pointer (some ⟨gc, 0, none⟩), .pointer (some ⟨g, 0, none⟩), .slice a 64 cap, .int .i64 64, .bool false, undef, .slice a 64 cap, .agg (zs.map (Value.int .u8)).toArray, .int .u32 s0, .int .u32 t0, .bool false, undef,
          u 0, u 1, u 2, u 3, u 4, u 5, u 6, t 0, t 1, t 2, t 3, t 4, t 5, t 6, undef, undef, undef], defers := [] })
        (Ext := fun w' => Dst w w' gc zs ∧ w'.heap[g]? = some (Obj.cells #[.int .u32 s0, .int .i64 k0, .int .u32 a0, .int .u32 b0] 29 (0, 0))) (Good := G7 hk zs (encI s0 k0 a0 b0)) (M := fun _ _ _ => True) ?hstab7 (by kernel_rfl) ?hop7 ?hdone7 _ _ (fun _ => undef) _ (by simp) ?ext7 ?start7 ?clo7 (by simp)
      case start7 => intro i hi h; exact absurd h (by rw [Array.getD_eq_getD_getElem?, Array.getElem?_replicate]; split <;> simp)
      case clo7 => intro i o ho h; exact absurd h (by rw [Array.getD_eq_getD_getElem?, Array.getElem?_replicate]; split <;> simp)
      case ext7 => exact ⟨hst6.out.drewN 1, hblk6.out⟩
      case hstab7 =>
        intro j o w1 w2 t i v ho hM hij hd hg
        have hj : j < 7 := (Array.getElem?_eq_some_iff.1 ho).1
        exact G7_stab hk zs _ j w1 w2 t i v hij (by omega) hg
      case hdone7 =>
        intro t w7 hx hg
        obtain ⟨hx, hblk⟩ := hx
        have h6 : t 6 = _ := hg 6 (by decide)
        clear hg
        have HN' := HDN.out hk HHK.out
        have HY' := HDY.out hk HHK.out
        clear HDN HDY
        have f0 : w7.cell? ⟨g, 0, none⟩ = some (.int .u32 s0) := cell_of_row _ _ _ _ _ _ hblk
        have f1 : w7.cell? ⟨g, 1, none⟩ = some (.int .i64 k0) := cell_of_row _ _ _ _ _ _ hblk
        have f2 : w7.cell? ⟨g, 2, none⟩ = some (.int .u32 a0) := cell_of_row _ _ _ _ _ _ hblk
        have f3 : w7.cell? ⟨g, 3, none⟩ = some (.int .u32 b0) := cell_of_row _ _ _ _ _ _ hblk
        have HR7 : Hid _ := hx.res
        have HB7 : Hid (Below w.heap.size w w7) := hx.below
        clear hx hblk
        generalize hfin : (!hk || !decide (encI s0 k0 a0 b0 = zs)) = fin at *
        rw [h6]
        clear h6
        cases fin
        · have HV : Hid (decV zs = fOk s0 k0 a0 b0) := HN' rfl
          clear HN' HY' hfin
          go_wp2_with (refine wpList_store_row rfl 31 (.tmp 2) (.tmp 31) rfl w.heap.size #[.bool true, .int .u32 s0, .int .i64 k0, .int .u32 a0, .int .u32 b0] rfl rfl 31 _ HR7.out HSF.out rfl (all5 _ _ _ _ _) ?_)
          (try simp only [Exit.inBlock, Exit.then])
          refine bodyPost_ret (v := fOk s0 k0 a0 b0) (results_cell_row rfl _ _ w.heap.size 31 _ (0, 0) _ rfl (setRow_heap _ _ _ _ _ _ HR7.out) Try.underlying31 rfl HSF.out) rfl ⟨by rw [HV.out], ?_⟩
          exact HB7.out.trans ((Wr.setRow _ _ _).below (Nat.le_refl _))
        · have HV : Hid (decV zs = fNo) := HY' rfl
          clear HN' HY' hfin
          go_wp2_with (refine wpList_store_row rfl 31 (.tmp 2) (.tmp 29) rfl w.heap.size #[.bool false, .int .u32 0, .int .i64 0, .int .u32 0, .int .u32 0] rfl rfl 31 _ HR7.out HSF.out rfl (all5 _ _ _ _ _) ?_)
          (try simp only [Exit.inBlock, Exit.then])
          refine bodyPost_ret (v := fNo) (results_cell_row rfl _ _ w.heap.size 31 _ (0, 0) _ rfl (setRow_heap _ _ _ _ _ _ HR7.out) Try.underlying31 rfl HSF.out) rfl ⟨by rw [HV.out], ?_⟩
          exact HB7.out.trans ((Wr.setRow _ _ _).below (Nat.le_refl _))
      case hop7 =>
        intro i o t w7 ho hx hdep K hK
        obtain ⟨hx, hblk⟩ := hx
        have hi : i < 7 := (Array.getElem?_eq_some_iff.1 ho).1
        have f0 : w7.cell? ⟨g, 0, none⟩ = some (.int .u32 s0) := cell_of_row _ _ _ _ _ _ hblk
        have f1 : w7.cell? ⟨g, 1, none⟩ = some (.int .i64 k0) := cell_of_row _ _ _ _ _ _ hblk
        have f2 : w7.cell? ⟨g, 2, none⟩ = some (.int .u32 a0) := cell_of_row _ _ _ _ _ _ hblk
        have f3 : w7.cell? ⟨g, 3, none⟩ = some (.int .u32 b0) := cell_of_row _ _ _ _ _ _ hblk
        have hgl7 : g < w7.heap.size := (Array.getElem?_eq_some_iff.1 hblk).1
        have hel := encI_len s0 k0 a0 b0
        obtain rfl | rfl | rfl | rfl | rfl | rfl | rfl : i = 0 ∨ i = 1 ∨ i = 2 ∨ i = 3 ∨ i = 4 ∨ i = 5 ∨ i = 6 := by omega
        all_goals (simp at ho; subst ho)
        · clear hdep
          go_simp
          refine (hasKind_any g k0 _ f1).mono ?_
          rintro e w8 ⟨rfl, rfl⟩
          rw [← HHK.out]
          go_simp
          exact hK w8 (.bool hk) rfl ⟨hx, hblk⟩ trivial
        · have d : t 0 = _ := hdep ⟨0, .data⟩ (by simp) rfl
          clear hdep
          go_simp
          simpa [upd, d] using hK w7 (.bool (!hk)) rfl ⟨hx, hblk⟩ trivial
        · have d : t 1 = _ := hdep ⟨1, .data⟩ (by simp) rfl
          clear hdep
          go_simp
          simpa [upd, d] using hK w7 (.bool (!hk)) rfl ⟨hx, hblk⟩ trivial
        · have d : t 2 = _ := hdep ⟨2, .guard⟩ (by simp) rfl
          clear hdep
          cases hk
          · go_simp
            simpa [upd, d] using hK w7 undef (by intro h; cases h) ⟨hx, hblk⟩ trivial
          · go_simp
            refine (encoded_any g s0 k0 a0 b0 _ hgl7 f0 f1 f2 f3 us ua ub).mono ?_
            rintro e w8 ⟨rfl, hb8⟩
            have hx8 := hx.grow hb8
            have hblk8 : w8.heap[g]? = some (Obj.cells #[.int .u32 s0, .int .i64 k0, .int .u32 a0, .int .u32 b0] 29 (0, 0)) := by rw [hb8.block g hgl7]; exact hblk
            go_simp
            simpa [upd, d] using hK w8 (.agg ((encI s0 k0 a0 b0).map (Value.int .u8)).toArray) (fun _ => rfl) ⟨hx8, hblk8⟩ trivial
        · have d : t 2 = _ := hdep ⟨2, .guard⟩ (by simp) rfl
          clear hdep
          cases hk
          · go_simp
            simpa [upd, d] using hK w7 undef (by intro h; cases h) ⟨hx, hblk⟩ trivial
          · rw [if_pos (by simp [Region.wanted, yielded, d])]
            refine wp_load_row 73 (.tmp 3) rfl gc rfl 73 _ (0, 0) _ hx.row Try.underlying73 rfl HS1.out ?_
            exact hK w7 (.agg (zs.map (Value.int .u8)).toArray) (fun _ => rfl) ⟨hx, hblk⟩ trivial
        · have d : t 2 = _ := hdep ⟨2, .guard⟩ (by simp) rfl
          have d3 : hk = true → t 3 = _ := hdep ⟨3, .data⟩ (by simp) rfl
          have d4 : hk = true → t 4 = _ := hdep ⟨4, .data⟩ (by simp) rfl
          clear hdep
          cases hk
          · clear d3 d4
            go_simp
            simpa [upd, d] using hK w7 undef (by intro h; cases h) ⟨hx, hblk⟩ trivial
          · have e3 := d3 rfl
            have e4 := d4 rfl
            clear d3 d4
            have r1 : (Op.equalIn 10000 73 (.agg ((encI s0 k0 a0 b0).map (Value.int .u8)).toArray) (.agg (zs.map (Value.int .u8)).toArray)).run Try.prog w7 = .ok (decide (encI s0 k0 a0 b0 = zs)) w7 := run_eqArr w7 9998 (encI s0 k0 a0 b0) zs hel hn
            have r2 := run_neqGuard w7 (.tmp 25) (.tmp 26) ((encI s0 k0 a0 b0).map (Value.int .u8)).toArray (zs.map (Value.int .u8)).toArray
            generalize hv : decide (encI s0 k0 a0 b0 = zs) = bv at *
            go_simp
            simpa [upd, d, e3, e4] using hK w7 (.bool !bv) (fun _ => by simp [upd, hv]) ⟨hx, hblk⟩ trivial
        · have d : t 2 = _ := hdep ⟨2, .data⟩ (by simp) rfl
          have d5 : hk = true → t 5 = _ := hdep ⟨5, .data⟩ (by simp) rfl
          clear hdep
          cases hk
          · clear d5
            go_simp
            simpa [upd, d] using hK w7 (.bool true) (by simp [G7, upd]) ⟨hx, hblk⟩ trivial
          · have e5 := d5 rfl
            clear d5
            generalize hv : (!decide (encI s0 k0 a0 b0 = zs)) = bv at *
            go_simp
            simpa [upd, d, e5] using hK w7 (.bool bv) (by simp [G7, upd, hv]) ⟨hx, hblk⟩ trivial
    case hop =>
      intro i o u w6 ho hx hdep K hK
      obtain ⟨hx, hsz⟩ := hx
      have hi : i < 9 := (Array.getElem?_eq_some_iff.1 ho).1
      have hc6 := HC6.out w6 hx.row
      obtain rfl | rfl | rfl | rfl | rfl | rfl | rfl | rfl | rfl : i = 0 ∨ i = 1 ∨ i = 2 ∨ i = 3 ∨ i = 4 ∨ i = 5 ∨ i = 6 ∨ i = 7 ∨ i = 8 := by omega
      all_goals (simp at ho; subst ho)
      · clear hdep
        go_simp
        refine (num_any gc 73 0 zs _ hx.row hz hn (by decide) (by decide)).mono ?_
        rintro e w7 ⟨rfl, q, rfl⟩
        have hv : num4 zs (Int.toNat 0) = s0 := HS.out
        rw [hv]
        go_simp
        exact hK _ (.int .u32 s0) rfl ⟨hx.drewN q, hsz⟩ (M6.of_below (below_drewN' (Below.refl _ _) q))
      · clear hdep
        go_simp
        exact hK w6 _ rfl ⟨hx, hsz⟩ (M6.refl _ _)
      · have d : u 1 = _ := hdep ⟨1, .data⟩ (by simp) rfl
        clear hdep
        go_simp
        simpa [upd, d] using hK w6 (.int .u8 k0) rfl ⟨hx, hsz⟩ (M6.refl _ _)
      · have d : u 2 = _ := hdep ⟨2, .data⟩ (by simp) rfl
        clear hdep
        go_simp
        simpa [upd, d, HWR.out] using hK w6 (.int .i64 k0) rfl ⟨hx, hsz⟩ (M6.refl _ _)
      · clear hdep
        go_simp
        refine (num_any gc 73 8 zs _ hx.row hz hn (by decide) (by decide)).mono ?_
        rintro e w7 ⟨rfl, q, rfl⟩
        have hv : num4 zs (Int.toNat 8) = a0 := HA.out
        rw [hv]
        go_simp
        exact hK _ (.int .u32 a0) rfl ⟨hx.drewN q, hsz⟩ (M6.of_below (below_drewN' (Below.refl _ _) q))
      · clear hdep
        go_simp
        refine (num_any gc 73 12 zs _ hx.row hz hn (by decide) (by decide)).mono ?_
        rintro e w7 ⟨rfl, q, rfl⟩
        have hv : num4 zs (Int.toNat 12) = b0 := HBB.out
        rw [hv]
        go_simp
        exact hK _ (.int .u32 b0) rfl ⟨hx.drewN q, hsz⟩ (M6.of_below (below_drewN' (Below.refl _ _) q))
      · have d0 : u 0 = _ := hdep ⟨0, .data⟩ (by simp) rfl
        have d3 : u 3 = _ := hdep ⟨3, .data⟩ (by simp) rfl
        have d4 : u 4 = _ := hdep ⟨4, .data⟩ (by simp) rfl
        have d5 : u 5 = _ := hdep ⟨5, .data⟩ (by simp) rfl
        clear hdep
        go_simp
        simpa [upd, d0, d3, d4, d5] using hK w6 (.agg #[.int .u32 s0, .int .i64 k0, .int .u32 a0, .int .u32 b0]) rfl ⟨hx, hsz⟩ (M6.refl _ _)
      · clear hdep
        have hb := below_new w6 (.cells #[.int .u32 0, .int .i64 0, .int .u32 0, .int .u32 0] 29)
        go_simp
        exact hK _ _ ⟨w6.heap.size, _, rfl, hsz, heap_alloc_new w6 _, rfl⟩ ⟨hx.grow hb, by have := hb.size; omega⟩ (M6.of_below hb)
      · have d6 : u 6 = _ := hdep ⟨6, .data⟩ (by simp) rfl
        obtain ⟨g, cs, d7, hg, hh, hcs⟩ := hdep ⟨7, .data⟩ (by simp) rfl
        rw [if_pos (by rfl)]
        refine wp_store_row 29 (.tmp 4) (.tmp 21) rfl g _ d7 d6 29 cs hh HS27.out hcs (all4 _ _ _ _) ?_
        have hne : gc ≠ g := by have := HST5.out.row.lt; omega
        have hlt5 : w.heap.size < w5.heap.size := by have := HST5.out.row.lt; have := HST5.out.lt; omega
        refine hK (w6.setRow g #[.int .u32 s0, .int .i64 k0, .int .u32 a0, .int .u32 b0]) undef ⟨g, ?_, hg, setRow_heap _ _ _ _ _ _ hh⟩ ⟨⟨?_, hx.lt, ?_, ?_⟩, ?_⟩ ⟨?_, ?_, ?_⟩
        · exact d7
        · exact hx.below.trans ((Wr.setRow g w6 _).below (by omega))
        · exact (Wr.setRow g w6 _).row hx.row hne
        · rw [setRow_other w6 g _ _ (by omega)]; exact hx.res
        · rw [size_setRow]; exact hsz
        · intro h; exact absurd rfl h
        · rw [size_setRow]; exact Nat.le_refl _
        · intro b2 cs2 t2 fr2 hb2
          by_cases hbg : b2 = g
          · subst hbg
            rw [hh] at hb2
            obtain ⟨rfl, rfl, rfl⟩ := (by simpa using hb2 : cs = cs2 ∧ _ = t2 ∧ _ = fr2)
            exact ⟨_, setRow_heap _ _ _ _ _ _ hh, by rw [hcs]; rfl⟩
          · exact ⟨cs2, by rw [setRow_other w6 g b2 _ hbg]; exact hb2, rfl⟩
  · have HV := HD.out (by simpa using ht)
    have HVV : Hid _ := HV
    clear HV HD
    go_wp2_with (refine wpList_store_row rfl 31 (.tmp 2) (.tmp 14) rfl w.heap.size #[.bool false, .int .u32 0, .int .i64 0, .int .u32 0, .int .u32 0] rfl rfl 31 _ HRES.out HSF.out rfl (all5 _ _ _ _ _) ?_)
    (try simp only [Exit.inBlock, Exit.then])
    refine bodyPost_ret (v := fNo) (results_cell_row rfl _ _ w.heap.size 31 _ (0, 0) _ rfl (setRow_heap _ _ _ _ _ _ HRES.out) Try.underlying31 rfl HSF.out) rfl ⟨by rw [HVV.out], ?_⟩
    exact HST5.out.below.trans ((Wr.setRow _ _ _).below (Nat.le_refl _))
end Go.Proofs.Ythghkfncpdnpoab
