/-
  Own work: bytes.Clone, a sector overwritten, a sector stored.
-/
import Derived.Test.YthghkfncpdnpoadOwnB
import Derived.Test.YthghkfncpdnpoadDur
import Derived.Test.YthghkfncpdnpoadOverS
import Derived.Test.YthghkfncpdnpoadDevMark
import Derived.Test.YthghkfncpdnpoadCopyG
import Derived.Test.YthghkfncpdnpoadReg2
import Derived.Deep.WholeRow
namespace Go.Proofs.Ythghkfncpdnpoad
open Go.ChangeShapes Go.WideShapes Go.ChangeAt Go.RowKit
set_option linter.unusedVariables false

/-- A slice of bytes of the call's own or nil. -/
def OwnN (w : World) (B : Nat) (v : Value) (zs : List Int) : Prop := (v = .slice none 0 0 ∧ zs = []) ∨ Own w B v zs

theorem run_nilSlice (w : World) (a : Option Addr) (n c : Nat) : (binOp .eql 58 (.slice a n c) (.slice none 0 0)).run Try.prog w = .ok (.bool a.isNone) w := by
  have h : ∀ d, (Op.equalIn (d + 1) 58 (.slice a n c) (.slice none 0 0)).run Try.prog w = .ok a.isNone w := fun d => by
    cases a <;> simp [Op.equalIn, run_underlying Try.underlying58]
  have h' : (Op.equal 58 (.slice a n c) (.slice none 0 0)).run Try.prog w = .ok a.isNone w := h 9999
  simp only [binOp]
  simp [h']

set_option maxHeartbeats 400000 in
set_option maxRecDepth 100000 in
theorem clone_any (a : Option Addr) (n cap : Nat) (zs : List Int) (w : World) (hn : zs.length = n) (hm : n ≤ 1048576) (ha : At .u8 w a zs) (hnil : a = none → n = 0 ∧ cap = 0) :
    Calls Try.prog 64 #[.slice a n cap] w fun e w' => ∃ v, e = .returned v ∧ OwnN w' w.heap.size v zs ∧ Below w.heap.size w w' := by
  cases a with
  | none =>
    obtain ⟨rfl, rfl⟩ := hnil rfl
    have E := run_nilSlice w none 0 0
    go_enter Try.func64, Try.ntmps64
    go_wp2
    go_ret
    exact ⟨_, rfl, .inl ⟨rfl, List.eq_nil_of_length_eq_zero hn⟩, Below.refl _ _⟩
  | some ad =>
    obtain ⟨b, off, sp⟩ := ad
    have hN : ∀ j, j < n → (w.alloc (.cells #[] 5)).cell? ((⟨b, off, sp⟩ : Addr).add j) = some (.int .u8 (zs.getD j 0)) := by
      intro j hj
      obtain ⟨b1, o1, e1, hb1, hc1⟩ := ha.get (by omega)
      cases e1
      rw [Addr.add_lit, ((Below.refl w.heap.size w).alloc (Nat.le_refl _) _).cell (p := ⟨b, off + j, none⟩) hb1]
      exact hc1 j (by omega)
    have HN : Hid _ := hN
    clear hN ha
    have E := run_nilSlice w (some ⟨b, off, sp⟩) n cap
    go_enter Try.func64, Try.ntmps64
    go_wp2_with (at_builtin; refine wpList_app _ rfl _ _ rfl w.heap.size _ _ rfl (Own.empty w w.heap.size (Nat.le_refl _)) ⟨b, off, sp⟩ n cap zs rfl hn HN.out ?c2 ?c3 ?_)
    (try (case c2 => first | omega | (simp; omega)))
    (try (case c3 => first | omega | (simp; try omega)))
    intro v' w3 hown' hbel' _
    have HO : Hid (Own w3 w.heap.size v' zs) := by unfold Hid; simpa using hown'
    have HB : Hid (Below w.heap.size w w3) := ((Below.refl _ _).alloc (Nat.le_refl _) _).trans hbel'
    clear hown' hbel'
    go_wp2
    go_ret
    exact ⟨_, rfl, .inr HO.out, HB.out⟩

def GW (S k : Nat) (x z : List Int) : Nat → World → (Nat → Value) → Prop
  | 0, _, u => u 0 = .int .i64 k
  | 1, _, u => u 1 = .slice (some ⟨S, 0, none⟩) k 64
  | 2, _, u => u 2 = .int .i64 k
  | 3, _, u => u 3 = .slice (some ⟨S + 1, 0, none⟩) k 64
  | _, w, _ => Row w S 117 (z.take k ++ x.drop k)
structure XW (w w' : World) (k : Nat) (x z : List Int) : Prop where
  below : Below w.heap.size w w'
  x : ∃ y, Row w' w.heap.size 117 y ∧ y.length = 64 ∧ y.drop k = x.drop k
  z : Row w' (w.heap.size + 1) 117 z
  r : Row w' (w.heap.size + 1 + 1) 117 (List.replicate 64 0)

theorem upd_ne2 {u : Nat → Value} {i j : Nat} {v : Value} (h : i ≠ j) : upd u i v j = u j := by unfold upd; rw [if_neg (Ne.symm h)]

set_option maxHeartbeats 1000000 in
set_option maxRecDepth 100000 in
theorem overw_any (x z : List Int) (k : Nat) (w : World) (hx : x.length = 64) (hz : z.length = 64) (hk : k ≤ 64) :
    Calls Try.prog 67 #[secV x, secV z, .int .i64 k] w fun e w' => e = .returned (secV (z.take k ++ x.drop k)) ∧ Below w.heap.size w w' := by
  have HX : Hid _ := hx
  have HZ : Hid _ := hz
  clear hx hz
  unfold secV
  have hs1 : ∀ y : List Int, y.length = 64 → (Try.prog.info? 117).map (·.size) = some ((y.map (Value.int .u8)).toArray).size := fun y hy => by rw [Try.sizeSec]; simp [hy]
  have HS1 : Hid _ := hs1
  clear hs1
  go_enter Try.func67, Try.ntmps67
  go_wp2_with fail
  have st0 : XW w (((w.alloc (.cells (x.map (Value.int .u8)).toArray 117)).alloc (.cells (z.map (Value.int .u8)).toArray 117)).alloc (.cells (List.replicate 64 (Value.int .u8 0)).toArray 117)) k x z := by
    have h1 := (Below.refl w.heap.size w).alloc (Nat.le_refl _) (.cells (x.map (Value.int .u8)).toArray 117)
    have h2 := (Below.refl _ (w.alloc (.cells (x.map (Value.int .u8)).toArray 117))).alloc (Nat.le_refl _) (.cells (z.map (Value.int .u8)).toArray 117)
    have h3 := (Below.refl _ ((w.alloc (.cells (x.map (Value.int .u8)).toArray 117)).alloc (.cells (z.map (Value.int .u8)).toArray 117))).alloc (Nat.le_refl _) (.cells (List.replicate 64 (Value.int .u8 0)).toArray 117)
    refine ⟨h1.trans ((h2.trans (h3.mono (by simp))).mono (by simp)), ⟨x, ?_, HX.out, rfl⟩, ?_, ?_⟩
    · unfold Row; rw [h3.block _ (by simp; omega), h2.block _ (by simp)]; exact heap_alloc_new w _
    · unfold Row; rw [h3.block _ (by simp)]
      have := heap_alloc_new (w.alloc (.cells (x.map (Value.int .u8)).toArray 117)) (.cells (z.map (Value.int .u8)).toArray 117)
      simpa using this
    · unfold Row
      have := heap_alloc_new ((w.alloc (.cells (x.map (Value.int .u8)).toArray 117)).alloc (.cells (z.map (Value.int .u8)).toArray 117)) (.cells (List.replicate 64 (Value.int .u8 0)).toArray 117)
      simpa using this
  have hsz : (((w.alloc (.cells (x.map (Value.int .u8)).toArray 117)).alloc (.cells (z.map (Value.int .u8)).toArray 117)).alloc (.cells (List.replicate 64 (Value.int .u8 0)).toArray 117)).heap.size = w.heap.size + 3 := by simp
  obtain ⟨w1, hw1⟩ : ∃ w1, (((w.alloc (.cells (x.map (Value.int .u8)).toArray 117)).alloc (.cells (z.map (Value.int .u8)).toArray 117)).alloc (.cells (List.replicate 64 (Value.int .u8 0)).toArray 117)) = w1 := ⟨_, rfl⟩
  rw [hw1] at st0 hsz
  refine wp_world (hw1.symm.trans rfl) ?_
  clear hw1
  refine wp_region_any (by kernel_rfl) ?_
  refine wpAny_slots2 (frame := fun t => { tmps := #[Value.agg (List.map (Value.int IntKind.u8) x).toArray, Value.agg (List.map (Value.int IntKind.u8) z).toArray, Value.int IntKind.i64 ↑k, Value.pointer (some { block := w.heap.size, off := 0 }), Value.pointer (some { block := w.heap.size + 1, off := 0 }), undef, Value.pointer (some { block := w.heap.size + 1 + 1, off := 0 }), t 0, t 1, t 2, t 3, t 4, undef], defers := [] })
    (Ext := fun w' => XW w w' k x z) (Good := GW w.heap.size k x z) (M := fun i w w' => i ≠ 4 → w' = w) ?hstab (by kernel_rfl) ?hop ?hdone _ _ (fun _ => undef) _ (by simp) ?ext ?start ?clo (by simp)
  case start => intro i hi h; exact absurd h (by rw [Array.getD_eq_getD_getElem?, Array.getElem?_replicate]; split <;> simp)
  case clo => intro i o ho h; exact absurd h (by rw [Array.getD_eq_getD_getElem?, Array.getElem?_replicate]; split <;> simp)
  case ext => exact ⟨st0.below.drew, st0.x, st0.z, st0.r⟩
  case hstab =>
    intro j o w1 w2 u i v ho hM hij _ hg
    have hj : j < 5 := (Array.getElem?_eq_some_iff.1 ho).1
    obtain rfl | rfl | rfl | rfl | rfl : j = 0 ∨ j = 1 ∨ j = 2 ∨ j = 3 ∨ j = 4 := by omega
    all_goals simp only [GW] at hg ⊢
    · rw [upd_ne2 hij]; exact hg
    · rw [upd_ne2 hij]; exact hg
    · rw [upd_ne2 hij]; exact hg
    · rw [upd_ne2 hij]; exact hg
    · rw [hM hij]; exact hg
  case hop =>
    intro i o t w' ho hx hdep K hK
    have hi : i < 5 := (Array.getElem?_eq_some_iff.1 ho).1
    obtain rfl | rfl | rfl | rfl | rfl : i = 0 ∨ i = 1 ∨ i = 2 ∨ i = 3 ∨ i = 4 := by omega
    all_goals (simp at ho; subst ho)
    · clear hdep
      go_simp
      exact hK w' _ rfl hx (fun _ => rfl)
    · have d : t 0 = _ := hdep ⟨0, .data⟩ (by simp) rfl
      have hk' : (k : Int) ≤ 64 := by omega
      clear hdep
      go_simp
      simpa [upd, d] using hK w' (.slice (some ⟨w.heap.size, 0, none⟩) k 64) rfl hx (fun _ => rfl)
    · clear hdep
      go_simp
      exact hK w' _ rfl hx (fun _ => rfl)
    · have d : t 2 = _ := hdep ⟨2, .data⟩ (by simp) rfl
      have hk' : (k : Int) ≤ 64 := by omega
      clear hdep
      go_simp
      simpa [upd, d] using hK w' (.slice (some ⟨w.heap.size + 1, 0, none⟩) k 64) rfl hx (fun _ => rfl)
    · have d1 : t 1 = _ := hdep ⟨1, .data⟩ (by simp) rfl
      have d3 : t 3 = _ := hdep ⟨3, .data⟩ (by simp) rfl
      obtain ⟨y, hy, hyl, hyd⟩ := hx.x
      have hzl := HZ.out
      have hl : (z.take k).length = k := by simp; omega
      rw [if_pos (by rfl)]
      refine wp_copyG (.tmp 8) (.tmp 10) rfl (some ⟨w.heap.size, 0, none⟩) (some ⟨w.heap.size + 1, 0, none⟩) w.heap.size 0 k 64 k 64 d1 d3 _ 117 hy (z.take k) (by rw [hl]; exact (Nat.min_self k).symm) (fun _ => ⟨rfl, _, rfl, fun j hj => ?_⟩) (by rw [hl]; simp; omega) ?_
      · have hj' : j < k := by omega
        rw [Addr.add_lit, Nat.zero_add, Row.cell hx.z j (by omega)]
        simp [List.getD, hj']
      · intro w2 h2 hw2
        have hrow : Row w2 w.heap.size 117 (z.take k ++ x.drop k) := by
          unfold Row; rw [h2, hl, ← hyd]; simp [List.map_take, List.map_drop]
        refine hK w2 _ hrow ⟨hx.below.trans (hw2.below (Nat.le_refl _)), ⟨_, hrow, by simp [hl]; have := HX.out; omega, ?_⟩, hw2.row hx.z (by omega), hw2.row hx.r (by omega)⟩ (fun h => absurd rfl h)
        rw [List.drop_append_of_le_length (by omega), List.drop_eq_nil_of_le (by omega)]; simp
  case hdone =>
    intro t w2 hx hg
    have h4 : Row w2 w.heap.size 117 (z.take k ++ x.drop k) := hg 4 (by decide)
    clear hg
    have hfl : (z.take k ++ x.drop k).length = 64 := by have := HX.out; have := HZ.out; simp; omega
    generalize hfin : z.take k ++ x.drop k = y at *
    have HFIN : Hid _ := hfin
    have HR0 : Hid _ := h4
    have HR2 : Hid _ := hx.r
    have HB : Hid _ := hx.below
    have HSY : Hid _ := HS1.out y hfl
    have HFL : Hid _ := hfl
    clear hx h4 hfl hfin
    go_wp2_with (first
      | (refine wpList_load_row rfl 117 _ rfl w.heap.size rfl 117 _ (0, 0) _ HR0.out Try.underlying117 rfl HSY.out ?_)
      | (refine wpList_store_row rfl 117 (.tmp 6) (.tmp 12) rfl (w.heap.size + 1 + 1) ((y.map (Value.int .u8)).toArray) rfl rfl 117 _ HR2.out HSY.out (by simp [HFL.out]) (all_oneCell_toArray (ints_oneCell _ _)) ?_))
    refine bodyPost_ret (v := .agg (y.map (Value.int .u8)).toArray) (results_cell_row rfl _ _ (w.heap.size + 1 + 1) 117 _ (0, 0) _ rfl (setRow_heap _ _ _ _ _ _ HR2.out) Try.underlying117 rfl HSY.out) rfl ⟨by rw [HFIN.out], ?_⟩
    exact HB.out.trans ((Wr.setRow _ _ _).below (by omega))
end Go.Proofs.Ythghkfncpdnpoad
