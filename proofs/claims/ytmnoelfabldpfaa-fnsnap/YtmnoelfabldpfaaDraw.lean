/-
  Own work: the cursor of a draw: whatever it gives is in range, and it writes its own block alone.
-/
import Derived.Test.YtmnoelfabldpfaaMBase
import Derived.Deep.WholeRow
import Derived.Deep.MidRow
namespace Go.Proofs.Ytmnoelfabldpfaa
open Go.ChangeShapes Go.WideShapes Go.ChangeAt Go.RowKit
set_option linter.unusedVariables false

theorem i64_and255 (y : Int) : 0 ≤ bits .and .i64 y 255 ∧ bits .and .i64 y 255 ≤ 255 := by
  unfold bits
  simp only
  have h : ((BitVec.ofInt IntKind.i64.bits y &&& BitVec.ofInt IntKind.i64.bits 255).toNat) ≤ 255 := by
    rw [BitVec.toNat_and]
    have : (BitVec.ofInt IntKind.i64.bits 255).toNat = 255 := by decide
    rw [this]; exact Nat.and_le_right
  generalize (BitVec.ofInt IntKind.i64.bits y &&& BitVec.ofInt IntKind.i64.bits 255).toNat = m at *
  rw [IntKind.wrap_i64]; omega

/-- The cursor's block. -/
def CurB (w : World) (g : Nat) (a : Option Addr) (n cap : Nat) : Prop :=
  ∃ i h : Int, 0 ≤ i ∧ i ≤ n ∧ -9223372036854775808 ≤ h ∧ h ≤ 9223372036854775807 ∧ w.heap[g]? = some (.cells #[.slice a n cap, .int .i64 i, .int .i64 h] 71 (0, 0))
/-- What is read at a draw: a text that lies below the cursor. -/
def CurT (w : World) (g : Nat) (a : Option Addr) (n : Nat) : Prop := n ≤ 1048576 ∧ ∃ zs : List Int, zs.length = n ∧ Byte zs ∧ (zs = [] ∨ ∃ b off, a = some ⟨b, off, none⟩ ∧ b < g ∧ ∀ i, i < zs.length → w.cell? ⟨b, off + i, none⟩ = some (.int .u8 (zs.getD i 0)))

theorem CurT.wr {w w' : World} {g : Nat} {a : Option Addr} {n : Nat} (h : CurT w g a n) (hw : ∀ k, k < g → w'.heap[k]? = w.heap[k]?) : CurT w' g a n := by
  obtain ⟨h0, zs, h1, h2, h3⟩ := h
  refine ⟨h0, zs, h1, h2, ?_⟩
  rcases h3 with h3 | ⟨b, off, e, hb, hc⟩
  · exact .inl h3
  · exact .inr ⟨b, off, e, hb, fun i hi => by rw [World.cell?_of_block (a := ⟨b, off + i, none⟩) (w := w) (hw b hb)]; exact hc i hi⟩

/-- What a draw leaves of the world: at most the cursor's block has turned, and there may be new ones. -/
structure WrG (g : Nat) (w w' : World) : Prop where
  os : w'.os = w.os
  tape : w'.tape = w.tape
  output : w'.output = w.output
  size : w.heap.size ≤ w'.heap.size
  block : ∀ k, k < w.heap.size → k ≠ g → w'.heap[k]? = w.heap[k]?
theorem WrG.refl (g : Nat) (w : World) : WrG g w w := ⟨rfl, rfl, rfl, Nat.le_refl _, fun _ _ _ => rfl⟩
theorem WrG.trans {g : Nat} {a b c : World} (h : WrG g a b) (k : WrG g b c) : WrG g a c :=
  ⟨k.os.trans h.os, k.tape.trans h.tape, k.output.trans h.output, Nat.le_trans h.size k.size, fun i hi hg => (k.block i (Nat.lt_of_lt_of_le hi h.size) hg).trans (h.block i hi hg)⟩
theorem Wr.wrG {g : Nat} {w w' : World} (h : Wr g w w') : WrG g w w' := ⟨h.os, h.tape, h.output, by rw [h.size]; exact Nat.le_refl _, fun k _ hg => h.block k hg⟩
theorem WrG.of_below {g : Nat} {w w' : World} (h : Below w.heap.size w w') : WrG g w w' := ⟨h.os, h.tape, h.output, h.size, fun k hk _ => h.block k hk⟩
theorem WrG.below {g : Nat} {w w' : World} (h : WrG g w w') (B : Nat) (hB : B ≤ g) (hB' : B ≤ w.heap.size) : Below B w w' := ⟨h.os, h.tape, h.output, h.size, fun k hk => h.block k (by omega) (by omega)⟩

def BytePost (w : World) (g : Nat) (a : Option Addr) (n cap : Nat) (m : Int) (e : Ending) (w' : World) : Prop :=
  ∃ x : Int, e = .returned (.int .i64 x) ∧ 0 ≤ x ∧ x ≤ m ∧ CurB w' g a n cap ∧ Wr g w w'

theorem setRow3 {w : World} {g : Nat} {x y z v : Value} {t : TypeId} (h : w.heap[g]? = some (.cells #[x, y, z] t (0, 0))) :
    (w.setCell ⟨g, 2, none⟩ v).heap[g]? = some (.cells #[x, y, v] t (0, 0)) ∧ (w.setCell ⟨g, 1, none⟩ v).heap[g]? = some (.cells #[x, v, z] t (0, 0)) :=
  ⟨heap_setCell_same w g 2 _ t v h, heap_setCell_same w g 1 _ t v h⟩

theorem wrap64_bd (x : Int) : -9223372036854775808 ≤ wrap64 x ∧ wrap64 x ≤ 9223372036854775807 := by
  unfold wrap64; omega

/-- The rest of l1Byte, behind the first statement: the new number h2 is in the cursor. -/
def stepH (h : Int) : Int := wrap64 (wrap64 (h * 6364136223846793005) + 1442695040888963407)

set_option maxHeartbeats 1000000 in
theorem byte_any (g : Nat) (a : Option Addr) (n cap : Nat) (w : World) (hc : CurB w g a n cap) (ht : CurT w g a n) :
    Calls Try.prog 57 #[.pointer (some ⟨g, 0, none⟩)] w (BytePost w g a n cap 255) := by
  obtain ⟨i, h, hi0, hi1, hh0, hh1, hb⟩ := hc
  obtain ⟨hn, zs, hl, hz, htx⟩ := ht
  have c0 : w.cell? ⟨g, 0, none⟩ = some (.slice a n cap) := cell_of_row _ _ _ _ _ _ hb
  have c1 : w.cell? ⟨g, 1, none⟩ = some (.int .i64 i) := cell_of_row _ _ _ _ _ _ hb
  have c2 : w.cell? ⟨g, 2, none⟩ = some (.int .i64 h) := cell_of_row _ _ _ _ _ _ hb
  have f1 := frozen_of_row w g 1 _ _ hb
  have f2 := frozen_of_row w g 2 _ _ hb
  obtain ⟨hs0, hs1⟩ := wrap64_bd (wrap64 (h * 6364136223846793005) + 1442695040888963407)
  obtain ⟨r2, _⟩ := setRow3 (v := .int .i64 (wrap64 (wrap64 (h * 6364136223846793005) + 1442695040888963407))) hb
  have hw1 : Wr g w (w.setCell ⟨g, 2, none⟩ (.int .i64 (wrap64 (wrap64 (h * 6364136223846793005) + 1442695040888963407)))) := (Wr.refl _ _).setCell 2 _
  have HH : Hid (∃ h2, -9223372036854775808 ≤ h2 ∧ h2 ≤ 9223372036854775807 ∧ wrap64 (wrap64 (h * 6364136223846793005) + 1442695040888963407) = h2) := ⟨_, hs0, hs1, rfl⟩
  have HR2 : Hid _ := r2
  have HW1 : Hid _ := hw1
  clear hb hs0 hs1 r2 hw1
  obtain ⟨i, rfl⟩ := Int.eq_ofNat_of_zero_le hi0
  go_enter Try.func57, Try.ntmps57
  go_wp2
  clear c0 c1 c2 f1 f2
  have r2 := HR2.out
  have hw1 := HW1.out
  obtain ⟨h2, hs0, hs1, he⟩ := HH.out
  clear HR2 HW1 HH
  rw [he] at r2 hw1 ⊢
  generalize w.setCell ⟨g, 2, none⟩ (.int .i64 h2) = w1 at *
  have c0 : w1.cell? ⟨g, 0, none⟩ = some (.slice a n cap) := cell_of_row _ _ _ _ _ _ r2
  have c1 : w1.cell? ⟨g, 1, none⟩ = some (.int .i64 i) := cell_of_row _ _ _ _ _ _ r2
  have c2 : w1.cell? ⟨g, 2, none⟩ = some (.int .i64 h2) := cell_of_row _ _ _ _ _ _ r2
  have f1 := frozen_of_row w1 g 1 _ _ r2
  have HR2 : Hid _ := r2
  have HW1 : Hid _ := hw1
  clear r2 hw1 he
  go_quiet (fail)
  obtain ⟨x0, hx00, hx01, hxe⟩ : ∃ x0, 0 ≤ x0 ∧ x0 ≤ 255 ∧ bits .and .i64 (bits .xor .i64 (h2 / 8589934592) (h2 / 35184372088832)) 255 = x0 := ⟨_, (i64_and255 _).1, (i64_and255 _).2, rfl⟩
  rw [hxe]
  clear hxe
  have R2 : (w1.drewN nq).heap[g]? = some (.cells #[.slice a n cap, .int .i64 i, .int .i64 h2] 71 (0, 0)) := HR2.out
  have W2 : Wr g w (w1.drewN nq) := HW1.out.drewN nq
  clear HR2 HW1 c0 c1 c2 f1
  generalize w1.drewN nq = w2 at *
  have c0 : w2.cell? ⟨g, 0, none⟩ = some (.slice a n cap) := cell_of_row _ _ _ _ _ _ R2
  have c1 : w2.cell? ⟨g, 1, none⟩ = some (.int .i64 i) := cell_of_row _ _ _ _ _ _ R2
  have f1 := frozen_of_row w2 g 1 _ _ R2
  have HR2 : Hid _ := R2
  have HW2 : Hid _ := W2
  clear R2 W2
  by_cases hlt : (i : Int) < (n : Int)
  · rcases htx with h0 | ⟨b, off, rfl, hbg, hcell⟩
    · rw [h0] at hl; simp at hl; omega
    · have hck : w2.cell? ⟨b, off + i, none⟩ = some (.int .u8 (zs.getD i 0)) := by
        rw [World.cell?_of_block (a := ⟨b, off + i, none⟩) (w := w) (HW2.out.block b (by omega))]; exact hcell i (by omega)
      have hx := hz.get i
      generalize zs.getD i 0 = x at *
      obtain ⟨hx0, hx1⟩ := hx
      obtain ⟨_, r1⟩ := setRow3 (v := .int .i64 ((i : Int) + 1)) HR2.out
      have HR1 : Hid _ := r1
      have HW3 : Hid (Wr g w (w2.setCell ⟨g, 1, none⟩ (.int .i64 ((i : Int) + 1)))) := HW2.out.setCell 1 _
      clear hcell r1
      go_wp2
      go_quiet (fail)
      go_wp2
      go_quiet (fail)
      obtain ⟨x1, hx10, hx11, hxe⟩ : ∃ x1, 0 ≤ x1 ∧ x1 ≤ 255 ∧ bits .and .i64 (x0 + x) 255 = x1 := ⟨_, (i64_and255 _).1, (i64_and255 _).2, rfl⟩
      rw [hxe]
      clear hxe
      go_wp2
      go_ret
      refine ⟨x1, rfl, hx10, hx11, ⟨(i : Int) + 1, h2, by omega, by omega, hs0, hs1, HR1.out⟩, ?_⟩
      exact ⟨HW3.out.os, HW3.out.tape, HW3.out.output, HW3.out.size, HW3.out.block⟩
  · have hlt' : decide ((i : Int) < (n : Int)) = false := by simpa using hlt
    go_wp2
    go_quiet (fail)
    go_wp2
    go_ret
    exact ⟨x0, rfl, hx00, hx01, ⟨i, h2, by omega, by omega, hs0, hs1, HR2.out⟩, HW2.out.drewN _⟩

set_option maxHeartbeats 400000 in
theorem below_any (g : Nat) (a : Option Addr) (n cap : Nat) (m : Int) (w : World) (hc : CurB w g a n cap) (ht : CurT w g a n) (hm : 1 ≤ m) (hm' : m ≤ 16777216) :
    Calls Try.prog 39 #[.pointer (some ⟨g, 0, none⟩), .int .i64 m] w (BytePost w g a n cap (m - 1)) := by
  by_cases h256 : m ≤ 256
  · have hm0 : ¬ m = 0 := by omega
    go_enter Try.func39, Try.ntmps39
    go_wp2_with fail
    refine (byte_any g a n cap _ hc ht).mono ?_
    rintro e w1 ⟨x, rfl, hx0, hx1, hc1, hw1⟩
    have HC : Hid _ := hc1
    have HW : Hid _ := hw1
    clear hc ht hc1 hw1
    go_wp2
    go_ret
    have e1 := Int.emod_nonneg x hm0
    have e2 := Int.emod_lt_of_pos x (show 0 < m by omega)
    exact ⟨x % m, rfl, e1, by omega, HC.out, HW.out⟩
  · have hm0 : ¬ m = 0 := by omega
    go_enter Try.func39, Try.ntmps39
    go_wp2_with fail
    refine (byte_any g a n cap _ hc ht).mono ?_
    rintro e w1 ⟨x, rfl, hx0, hx1, hc1, hw1⟩
    have ht1 := ht.wr (fun k hk => hw1.block k (by omega))
    clear hc ht
    go_wp2_with fail
    refine (byte_any g a n cap _ hc1 ht1).mono ?_
    rintro e w2 ⟨y, rfl, hy0, hy1, hc2, hw2⟩
    have ht2 := ht1.wr (fun k hk => hw2.block k (by omega))
    have hw12 := hw1.trans hw2
    clear hc1 ht1 hw1 hw2
    go_wp2_with fail
    refine (byte_any g a n cap _ hc2 ht2).mono ?_
    rintro e w3 ⟨z, rfl, hz0, hz1, hc3, hw3⟩
    have HC : Hid _ := hc3
    have HW : Hid _ := hw12.trans hw3
    clear hc2 ht2 hw12 hw3 hc3
    have e1 := Int.emod_nonneg (x * 65536 + y * 256 + z) hm0
    have e2 := Int.emod_lt_of_pos (x * 65536 + y * 256 + z) (show 0 < m by omega)
    have E1 : Hid _ := e1
    have E2 : Hid _ := e2
    clear e1 e2
    go_wp2
    go_ret
    exact ⟨(x * 65536 + y * 256 + z) % m, rfl, E1.out, by have := E2.out; omega, HC.out, HW.out⟩

def OncePost (w : World) (g : Nat) (a : Option Addr) (n cap : Nat) (e : Ending) (w' : World) : Prop := ∃ x : Bool, e = .returned (.bool x) ∧ CurB w' g a n cap ∧ Wr g w w'
set_option maxHeartbeats 400000 in
theorem once_any (g : Nat) (a : Option Addr) (n cap : Nat) (m : Int) (w : World) (hc : CurB w g a n cap) (ht : CurT w g a n) (hm : 1 ≤ m) (hm' : m ≤ 16777216) :
    Calls Try.prog 27 #[.pointer (some ⟨g, 0, none⟩), .int .i64 m] w (OncePost w g a n cap) := by
  go_enter Try.func27, Try.ntmps27
  go_wp2_with fail
  refine (below_any g a n cap m _ hc ht hm hm').mono ?_
  rintro e w1 ⟨x, rfl, hx0, hx1, hc1, hw1⟩
  have HC : Hid _ := hc1
  have HW : Hid _ := hw1
  clear hc ht hc1 hw1
  go_wp2
  go_ret
  exact ⟨x == 0, rfl, HC.out, HW.out⟩

theorem bits_i64_bd (o : BinOp) (x y : Int) : -9223372036854775808 ≤ bits o .i64 x y ∧ bits o .i64 x y ≤ 9223372036854775807 := by
  have h : ∀ n : Int, -9223372036854775808 ≤ IntKind.i64.wrap n ∧ IntKind.i64.wrap n ≤ 9223372036854775807 := fun n => by rw [IntKind.wrap_i64]; omega
  unfold bits; cases o <;> exact h _

def NewPost (w : World) (a : Option Addr) (n cap : Nat) (e : Ending) (w' : World) : Prop := e = .returned (.pointer (some ⟨w.heap.size, 0, none⟩)) ∧ CurB w' w.heap.size a n cap ∧ Below w.heap.size w w' ∧ w'.heap.size = w.heap.size + 1
set_option maxHeartbeats 400000 in
theorem new_any (a : Option Addr) (n cap : Nat) (zs : List Int) (w : World) (hl : zs.length = n) (hn : n ≤ 1048576) (hz : Byte zs) (ha : At .u8 w a zs) :
    Calls Try.prog 25 #[.slice a n cap] w (NewPost w a n cap) := by
  go_enter Try.func25, Try.ntmps25
  go_wp2
  go_loop [3, 4] (fun h i => ∃ (k : Nat) (q : Int), k ≤ n ∧ i = .int .i64 k ∧ h = .int .i64 q ∧ -9223372036854775808 ≤ q ∧ q ≤ 9223372036854775807) (fun _ i => n - (intOf i).toNat)
  case atStart => exact ⟨0, _, Nat.zero_le _, rfl, rfl, by omega, by omega⟩
  case round =>
    obtain ⟨k, q, hk, rfl, rfl, hq0, hq1⟩ := hrel
    by_cases hlt : k < n
    · obtain ⟨b, off, rfl, hb, hc⟩ := ha.get (by omega)
      have hck := hc k (by omega)
      have hx := hz.get k
      generalize zs.getD k 0 = x at *
      obtain ⟨hx0, hx1⟩ := hx
      clear hc
      go_wp2
      go_round
      case rel => exact ⟨k + 1, _, by omega, by go_num, rfl, (bits_i64_bd _ _ _).1, (bits_i64_bd _ _ _).2⟩
      case measure => simp [intOf]; omega
    · go_wp2
      go_ret
      exact ⟨rfl, ⟨0, q, by omega, by omega, hq0, hq1, heap_alloc_new w _⟩, (Below.refl _ _).alloc (Nat.le_refl _) _, by simp⟩
end Go.Proofs.Ytmnoelfabldpfaa
