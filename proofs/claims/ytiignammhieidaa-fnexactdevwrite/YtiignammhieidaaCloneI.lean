/-
  Own work: bytes.Clone, a sector overwritten, a sector stored.
-/
import Derived.Test.YtiignammhieidaaOwnB
import Derived.Test.YtiignammhieidaaDur
import Derived.Test.YtiignammhieidaaOverS
import Derived.Test.YtiignammhieidaaDevMark
import Derived.Test.YtiignammhieidaaCopyG
import Derived.Test.YtiignammhieidaaReg2
import Derived.Deep.WholeRow
namespace Go.Proofs.Ytiignammhieidaa
open Go.ChangeShapes Go.WideShapes Go.ChangeAt Go.RowKit
set_option linter.unusedVariables false

/-- A slice of bytes of the call's own or nil. -/
def OwnN (w : World) (B : Nat) (v : Value) (zs : List Int) : Prop := (v = .slice none 0 0 ∧ zs = []) ∨ Own w B v zs

theorem run_nilSlice (w : World) (a : Option Addr) (n c : Nat) : (binOp .eql 22 (.slice a n c) (.slice none 0 0)).run Try.prog w = .ok (.bool a.isNone) w := by
  have h : ∀ d, (Op.equalIn (d + 1) 22 (.slice a n c) (.slice none 0 0)).run Try.prog w = .ok a.isNone w := fun d => by
    cases a <;> simp [Op.equalIn, run_underlying Try.underlying22]
  have h' : (Op.equal 22 (.slice a n c) (.slice none 0 0)).run Try.prog w = .ok a.isNone w := h 9999
  simp only [binOp]
  simp [h']

set_option maxHeartbeats 400000 in
set_option maxRecDepth 100000 in
theorem clone_any (a : Option Addr) (n cap : Nat) (zs : List Int) (w : World) (hn : zs.length = n) (hm : n ≤ 1048576) (ha : At .u8 w a zs) (hnil : a = none → n = 0 ∧ cap = 0) :
    Calls Try.prog 39 #[.slice a n cap] w fun e w' => ∃ v, e = .returned v ∧ OwnN w' w.heap.size v zs ∧ Below w.heap.size w w' := by
  cases a with
  | none =>
    obtain ⟨rfl, rfl⟩ := hnil rfl
    have E := run_nilSlice w none 0 0
    go_enter Try.func39, Try.ntmps39
    go_wp2
    go_ret
    exact ⟨_, rfl, .inl ⟨rfl, List.eq_nil_of_length_eq_zero hn⟩, Below.refl _ _⟩
  | some ad =>
    obtain ⟨b, off, sp⟩ := ad
    have hN : ∀ j, j < n → (w.alloc (.cells #[] 5)).cell? ((⟨b, off, sp⟩ : Addr).add j) = some (.int .u8 (zs.getD j 0)) := by
      intro j hj
      obtain ⟨b1, o1, e1, hb1, hc1⟩ := ha.get (by omega)
      cases e1
      rw [Addr.add_lit, ((Below.refl w.heap.size w).alloc (Nat.le_refl _) _).cell (p := ⟨b, off + j, none⟩) hb1]
      exact hc1 j (by omega)
    have HN : Hid _ := hN
    clear hN ha
    have E := run_nilSlice w (some ⟨b, off, sp⟩) n cap
    go_enter Try.func39, Try.ntmps39
    go_wp2_with (at_builtin; refine wpList_app _ rfl _ _ rfl w.heap.size _ _ rfl (Own.empty w w.heap.size (Nat.le_refl _)) ⟨b, off, sp⟩ n cap zs rfl hn HN.out ?c2 ?c3 ?_)
    (try (case c2 => first | omega | (simp; omega)))
    (try (case c3 => first | omega | (simp; try omega)))
    intro v' w3 hown' hbel' _
    have HO : Hid (Own w3 w.heap.size v' zs) := by unfold Hid; simpa using hown'
    have HB : Hid (Below w.heap.size w w3) := ((Below.refl _ _).alloc (Nat.le_refl _) _).trans hbel'
    clear hown' hbel'
    go_wp2
    go_ret
    exact ⟨_, rfl, .inr HO.out, HB.out⟩

def GW (S k : Nat) (x z : List Int) : Nat → World → (Nat → Value) → Prop
  | 0, _, u => u 0 = .int .i64 k
  | 1, _, u => u 1 = .slice (some ⟨S, 0, none⟩) k 64
  | 2, _, u => u 2 = .int .i64 k
  | 3, _, u => u 3 = .slice (some ⟨S + 1, 0, none⟩) k 64
  | _, w, _ => Row w S 50 (z.take k ++ x.drop k)
structure XW (w w' : World) (k : Nat) (x z : List Int) : Prop where
  below : Below w.heap.size w w'
  x : ∃ y, Row w' w.heap.size 50 y ∧ y.length = 64 ∧ y.drop k = x.drop k
  z : Row w' (w.heap.size + 1) 50 z
  r : Row w' (w.heap.size + 1 + 1) 50 (List.replicate 64 0)

theorem upd_ne2 {u : Nat → Value} {i j : Nat} {v : Value} (h : i ≠ j) : upd u i v j = u j := by unfold upd; rw [if_neg (Ne.symm h)]

end Go.Proofs.Ytiignammhieidaa
