/-
  Own work: boxes (written by wip/mkeq.py).
-/
import Derived.Test.YtmnoelfabldpfaaCpe
import Derived.Deep.Cut
import Derived.Test.YtmnoelfabldpfaaMWrd
namespace Go.Proofs.Ytmnoelfabldpfaa
open Go.ChangeShapes Go.WideShapes Go.ChangeAt Go.RowKit
set_option linter.unusedVariables false

/-- Two boxes of a comparison. -/
structure BE (w : World) (t : TypeId) (sa sb : Array Value) (wr : World) : Prop where
  below : Below w.heap.size w wr
  b0 : wr.heap[w.heap.size]? = some (.cells sa t (0, 0))
  b1 : wr.heap[w.heap.size + 1]? = some (.cells sb t (0, 0))
theorem BE.start (w : World) (t : TypeId) (sa sb : Array Value) : BE w t sa sb ((w.alloc (.cells sa t)).alloc (.cells sb t)) := by
  refine ⟨((Below.refl _ _).alloc (Nat.le_refl _) _).alloc (by simp) _, ?_, ?_⟩
  · rw [Below.heap_alloc _ _ w.heap.size (by simp)]; exact heap_alloc_new w _
  · have := heap_alloc_new (w.alloc (.cells sa t)) (.cells sb t)
    rwa [show (w.alloc (.cells sa t)).heap.size = w.heap.size + 1 by simp] at this
theorem BE.call {w wr w' : World} {t : TypeId} {sa sb : Array Value} (h : BE w t sa sb wr) (b : Below wr.heap.size wr w') : BE w t sa sb w' := by
  have := (Array.getElem?_eq_some_iff.1 h.b1).1
  exact ⟨h.below.trans (b.mono h.below.size), by rw [b.block _ (by omega)]; exact h.b0, by rw [b.block _ (by omega)]; exact h.b1⟩
/-- One box. -/
structure OE (w : World) (t : TypeId) (sa : Array Value) (wr : World) : Prop where
  below : Below w.heap.size w wr
  b0 : wr.heap[w.heap.size]? = some (.cells sa t (0, 0))
theorem OE.start (w : World) (t : TypeId) (sa : Array Value) : OE w t sa (w.alloc (.cells sa t)) := ⟨(Below.refl _ _).alloc (Nat.le_refl _) _, heap_alloc_new w _⟩
theorem OE.lt {w wr : World} {t : TypeId} {sa : Array Value} (h : OE w t sa wr) : w.heap.size < wr.heap.size := (Array.getElem?_eq_some_iff.1 h.b0).1
theorem OE.call {w wr w' : World} {t : TypeId} {sa : Array Value} (h : OE w t sa wr) (b : Below wr.heap.size wr w') : OE w t sa w' := by
  have := (Array.getElem?_eq_some_iff.1 h.b0).1
  exact ⟨h.below.trans (b.mono h.below.size), by rw [b.block _ (by omega)]; exact h.b0⟩
end Go.Proofs.Ytmnoelfabldpfaa
namespace Go.Proofs.Ytmnoelfabldpfaa
open Go.ChangeShapes Go.WideShapes Go.ChangeAt Go.RowKit
set_option linter.unusedVariables false

def four (x : Int) : List Int := [x % 256, x / 256 % 256, x / 65536 % 256, x / 16777216]

set_option maxHeartbeats 400000 in
theorem four_any (x : Int) (w : World) (hx : U32 x) :
    Calls Try.prog 30 #[.int .u32 x] w fun e w' => e = .returned (.slice (some ⟨w.heap.size, 0, none⟩) 4 4) ∧
      w' = w.alloc (.cells #[.int .u8 (x % 256), .int .u8 (x / 256 % 256), .int .u8 (x / 65536 % 256), .int .u8 (x / 16777216)] 5) := by
  obtain ⟨h0, h1⟩ := hx
  go_enter Try.func30, Try.ntmps30
  go_wp2
  go_ret
  exact ⟨rfl, rfl⟩

set_option maxHeartbeats 400000 in
theorem zeros_any (n : Int) (w : World) (h0 : 0 ≤ n) (h1 : n ≤ 1048576) :
    Calls Try.prog 34 #[.int .i64 n] w fun e w' => ∃ v, e = .returned v ∧ Own w' w.heap.size v (List.replicate n.toNat 0) ∧ Below w.heap.size w w' := by
  obtain ⟨n, rfl⟩ := Int.eq_ofNat_of_zero_le h0
  go_enter Try.func34, Try.ntmps34
  go_wp2
  go_loopw [3, 4] (fun v i wr => ∃ k : Nat, k ≤ n ∧ i = .int .i64 k ∧ Own wr w.heap.size v (List.replicate k 0) ∧ Below w.heap.size w wr) (fun _ i _ => n - (intOf i).toNat)
  case atStart => exact ⟨0, Nat.zero_le _, rfl, Own.empty _ _ (Nat.le_refl _), (Below.refl _ _).alloc (Nat.le_refl _) _⟩
  case round =>
    obtain ⟨k, hk, rfl, hown, hbel⟩ := hrel
    by_cases hlt : k < n
    · have hsz := hbel.size
      go_wp2_with (at_builtin; refine wpList_app _ rfl _ _ rfl w.heap.size _ _ rfl (hown.alloc _) ⟨wr.heap.size, 0, none⟩ 1 1 [0] rfl rfl ?c1 ?c2 ?c3 ?_)
      case c1 => intro j hj; obtain rfl : j = 0 := by omega
                 simp [Addr.add]
      case c2 => simp; omega
      case c3 => simp; omega
      intro v' w1 hown' hbel' _
      have HO : Hid (Own w1 w.heap.size v' (List.replicate (k + 1) 0)) := by rw [List.replicate_succ']; exact hown'
      have HB : Hid (Below w.heap.size w w1) := (hbel.alloc (by omega) _).trans hbel'
      clear hown hown' hbel hbel'
      go_wp2
      go_roundw
      case rel => exact ⟨k + 1, by omega, by go_num, HO.out, HB.out⟩
      case measure => simp [intOf]; omega
    · have hkn : k = n := by omega
      subst hkn
      have HO : Hid _ := hown
      clear hown
      go_wp2
      go_ret
      exact ⟨_, rfl, HO.out, hbel⟩

theorem flat_snoc (zss : List (List Int)) (k : Nat) (h : k < zss.length) : (zss.take (k + 1)).flatten = (zss.take k).flatten ++ zss.getD k [] := by
  rw [List.take_succ_eq_append_getElem h, List.flatten_append]
  simp [h]
theorem flat_le (zss : List (List Int)) (k : Nat) : (zss.take k).flatten.length ≤ zss.flatten.length := by
  conv => rhs; rw [← List.take_append_drop k zss]
  rw [List.flatten_append, List.length_append]; omega

set_option maxHeartbeats 400000 in
theorem cat_any (p m cap : Nat) (vs : List Value) (zss : List (List Int)) (w : World) (hm : zss.length = m) (hp : p < w.heap.size) (hc : ∀ i, i < m → w.cell? ⟨p, i, none⟩ = some (vs.getD i undef))
    (hz : ∀ i, i < m → Part w (vs.getD i undef) (zss.getD i [])) (ht : zss.flatten.length ≤ 1048576) (hm' : m ≤ 1048576) :
    Calls Try.prog 31 #[.slice (some ⟨p, 0, none⟩) m cap] w fun e w' => ∃ v, e = .returned v ∧ Own w' w.heap.size v zss.flatten ∧ Below w.heap.size w w' := by
  go_enter Try.func31, Try.ntmps31
  go_wp2
  go_loopw [3, 4] (fun v i wr => ∃ k : Nat, k ≤ m ∧ i = .int .i64 k ∧ Own wr w.heap.size v (zss.take k).flatten ∧ Below w.heap.size w wr) (fun _ i _ => m - (intOf i).toNat)
  case atStart => exact ⟨0, Nat.zero_le _, rfl, Own.empty _ _ (Nat.le_refl _), (Below.refl _ _).alloc (Nat.le_refl _) _⟩
  case round =>
    obtain ⟨k, hk, rfl, hown, hbel⟩ := hrel
    by_cases hlt : k < m
    · have hsz := hbel.size
      obtain ⟨b, o, c, hv, hb, hcell⟩ := hz k hlt
      have hck : wr.cell? ⟨p, k, none⟩ = some (.slice (some ⟨b, o, none⟩) (zss.getD k []).length c) := by rw [hbel.cell (p := ⟨p, k, none⟩) hp, hc k hlt, hv]
      have hnews : ∀ j, j < (zss.getD k []).length → wr.cell? ((⟨b, o, none⟩ : Addr).add j) = some (.int .u8 ((zss.getD k []).getD j 0)) := by
        intro j hj; rw [Addr.add_lit, hbel.cell (p := ⟨b, o + j, none⟩) hb]; exact hcell j hj
      have hfl := flat_snoc zss k (by omega)
      have hle := flat_le zss (k + 1)
      have hle2 : (zss.take k).flatten.length + (zss.getD k []).length ≤ 1048576 := by rw [hfl, List.length_append] at hle; omega
      have HF : Hid _ := hfl
      clear hfl hle hv hcell hc hz
      generalize zss.getD k [] = z at *
      generalize (zss.take k).flatten = y at *
      generalize hzl : z.length = zl at *
      have HL : Hid _ := hzl
      clear hzl
      have HN : Hid _ := hnews
      clear hnews
      go_wp2_with (at_builtin; refine wpList_app _ rfl _ _ rfl w.heap.size _ _ rfl hown ⟨b, o, none⟩ _ _ z rfl HL.out HN.out ?c2 ?c3 ?_)
      case c2 => omega
      case c3 => omega
      intro v' w1 hown' hbel' _
      have HO : Hid (Own w1 w.heap.size v' (zss.take (k + 1)).flatten) := by rw [HF.out]; exact hown'
      have HB : Hid (Below w.heap.size w w1) := hbel.trans hbel'
      clear hown hown' hbel hbel'
      go_wp2
      go_roundw
      case rel => exact ⟨k + 1, by omega, by go_num, HO.out, HB.out⟩
      case measure => simp [intOf]; omega
    · have hkn : zss.take k = zss := List.take_of_length_le (by omega)
      rw [hkn] at hown
      have HO : Hid _ := hown
      clear hown hkn
      go_wp2
      go_ret
      exact ⟨_, rfl, HO.out, hbel⟩
end Go.Proofs.Ytmnoelfabldpfaa
