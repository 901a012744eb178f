/-
  Own work: the model's carry.
-/
import Derived.Test.YthghkfncpdnpoabOwnK
import Derived.Test.YthghkfncpdnpoabFe
import Derived.BigRegion
namespace Go.Proofs.Ythghkfncpdnpoab
open Go.ChangeShapes Go.WideShapes Go.ChangeAt Go.RowKit
set_option linter.unusedVariables false

theorem ktI : KT .i64 2 52 8 := ⟨by kernel_rfl, Try.underlying52, by decide, by decide⟩
abbrev OwnI := OwnK .i64 2

/-- An answer: a row of sixteen digits of the call's own. -/
def FeR (w : World) (zs : List Int) (e : Ending) (w' : World) : Prop :=
  ∃ g c, e = .returned (.slice (some ⟨g, 0, none⟩) 16 c) ∧ OwnI w' w.heap.size (.slice (some ⟨g, 0, none⟩) 16 c) zs ∧ Below w.heap.size w w'

structure CarS (w : World) (g c : Nat) (zs : List Int) (wr : World) : Prop where
  own : OwnI wr w.heap.size (.slice (some ⟨g, 0, none⟩) 16 c) zs
  below : Below w.heap.size w wr

set_option maxHeartbeats 1000000 in
theorem carry_any (a : Option Addr) (cap : Nat) (xs : List Int) (w : World) (hx : xs.length = 16) (ha : At .i64 w a xs) (M C : Int) (hM : Bd M xs) (hM0 : 0 ≤ M) (hM1 : M ≤ 4611686018427387904) (hC : M ≤ 65535 * C) (hC1 : C ≤ 140737488355328) :
    Calls Try.prog 72 #[.slice a 16 cap] w (FeR w (carryL xs)) := by
  obtain ⟨b0, off, rfl, hb0, hc⟩ := ha.get (by omega)
  have HN : Hid (∀ i, i < 16 → (w.alloc (.cells #[] 2)).cell? ((⟨b0, off, none⟩ : Addr).add i) = some (.int .i64 (xs.getD i 0))) := fun i hi => by
    rw [Addr.add_lit, ((Below.refl w.heap.size w).alloc (Nat.le_refl _) (.cells #[] 2)).cell (p := ⟨b0, off + i, none⟩) hb0]; exact hc i (by omega)
  have HX : Hid (xs.length = 16) := hx
  have HBD : Hid (∀ i, -C ≤ cy xs i ∧ cy xs i ≤ C) := cy_bd hM hC hM0
  have HM : Hid (Bd M xs) := hM
  clear hc ha hx hM
  go_enter Try.func72, Try.ntmps72
  go_wp2_with (at_builtin; refine wpList_appK _ ktI rfl _ _ rfl w.heap.size _ [] rfl (OwnK.empty _ _ (Nat.le_refl _)) ⟨b0, off, none⟩ 16 _ xs rfl HX.out HN.out ?c2 ?c3 ?_)
  case c2 => decide
  case c3 => simp
  intro v' w1 hown' hbel' _
  have hB1 : Below w.heap.size w w1 := ((Below.refl _ _).alloc (Nat.le_refl _) _).trans hbel'
  obtain ⟨g, c, rfl, hg, hg', _⟩ := hown'.at_
  rw [HX.out] at hown' ⊢
  have HS : Hid (CarS w g c (cst xs 0) w1) := ⟨by rw [cst_zero xs HX.out]; exact hown', hB1⟩
  clear hown' hB1 hbel' HN
  go_wp2
  go_loopw [4] (fun i wr => ∃ k : Nat, k ≤ 16 ∧ i = .int .i64 k ∧ ((k < 16 ∧ CarS w g c (cst xs k) wr) ∨ (k = 16 ∧ CarS w g c (carryL xs) wr))) (fun i _ => 16 - (intOf i).toNat)
  case atStart => exact ⟨0, by decide, rfl, .inl ⟨by decide, HS.out⟩⟩
  case round =>
    clear HS
    obtain ⟨k, hk, rfl, hst⟩ := hrel
    by_cases hlt : k < 16
    · have hst' : CarS w g c (cst xs k) wr := by
        rcases hst with ⟨_, h⟩ | ⟨h, _⟩
        · exact h
        · omega
      obtain ⟨hown, hbel⟩ := hst'
      clear hst
      obtain ⟨hcl, hch⟩ := HBD.out k
      obtain ⟨hcl', hch'⟩ := HBD.out (k + 1)
      obtain ⟨hml, hmh⟩ := HM.out k
      obtain ⟨hml', hmh'⟩ := HM.out (k + 1)
      have hcs : cy xs (k + 1) = (xs.getD k 0 + cy xs k) / 65536 := rfl
      have hget : (cst xs k).getD k 0 = xs.getD k 0 + cy xs k := by rw [cst_get _ _ _ hlt]; unfold cdig; simp
      obtain ⟨c0, f0, o0⟩ := OwnK.set (cst_len xs k) hown k ((xs.getD k 0 + cy xs k) % 65536) hlt
      rw [hget] at c0
      by_cases hk15 : k < 15
      · have hget2 : ((cst xs k).set k ((xs.getD k 0 + cy xs k) % 65536)).getD (k + 1) 0 = xs.getD (k + 1) 0 := by
          rw [getD_set_eq _ _ _ _ (by rw [cst_len]; omega), if_neg (by omega), cst_get _ _ _ (by omega)]; unfold cdig; rw [if_neg (by omega), if_neg (by omega)]
        obtain ⟨c1, f1, o1⟩ := OwnK.set (by rw [List.length_set, cst_len]) o0 (k + 1) (xs.getD (k + 1) 0 + cy xs (k + 1)) (by omega)
        rw [hget2] at c1
        rw [cst_step xs k hk15] at o1
        have HO : Hid (CarS w g c (cst xs (k + 1)) ((wr.setCell ⟨g, k, none⟩ (.int .i64 ((xs.getD k 0 + cy xs k) % 65536))).setCell ⟨g, k + 1, none⟩ (.int .i64 (xs.getD (k + 1) 0 + cy xs (k + 1))))) := ⟨o1, (hbel.setCell hg _).setCell hg _⟩
        have HCS : Hid (cy xs (k + 1) = (xs.getD k 0 + cy xs k) / 65536) := hcs
        clear o0 o1 hget hget2 hown hbel hcs
        generalize cy xs (k + 1) = c' at *
        generalize cy xs k = cc at *
        generalize xs.getD k 0 = x at *
        generalize xs.getD (k + 1) 0 = x' at *
        have hq0 : x + cc - (x + cc) / 65536 * 65536 = (x + cc) % 65536 := by omega
        have hlt' : (k : Int) < 15 := by omega
        have hcs2 : c' = (x + cc) / 65536 := HCS.out
        clear HCS
        subst hcs2
        go_wp2
        exact ⟨⟨k + 1, by omega, by go_num, .inl ⟨by omega, HO.out⟩⟩, by simp [intOf]; omega⟩
      · have hke : k = 15 := by omega
        have hget0 : 0 ≤ ((cst xs 15).set 15 ((xs.getD 15 0 + cy xs 15) % 65536)).getD 0 0 ∧ ((cst xs 15).set 15 ((xs.getD 15 0 + cy xs 15) % 65536)).getD 0 0 < 65536 := by
          rw [getD_set_eq _ _ _ _ (by rw [cst_len]; decide), if_neg (by decide), cst_get _ _ _ (by decide)]; unfold cdig; rw [if_pos (by decide)]; omega
        obtain ⟨c1, f1, o1⟩ := OwnK.set (by rw [List.length_set, cst_len]) o0 0 (((cst xs k).set k ((xs.getD k 0 + cy xs k) % 65536)).getD 0 0 + 38 * cy xs (k + 1)) (by decide)
        have hl := cst_last xs
        have e16 : cy xs 16 = cy xs (k + 1) := by rw [hke]
        rw [e16] at hl
        have HK : Hid (k = 15) := hke
        rw [← hke] at hl hget0
        rw [hl] at o1
        have HO : Hid (CarS w g c (carryL xs) ((wr.setCell ⟨g, k, none⟩ (.int .i64 ((xs.getD k 0 + cy xs k) % 65536))).setCell ⟨g, 0, none⟩ (.int .i64 (((cst xs k).set k ((xs.getD k 0 + cy xs k) % 65536)).getD 0 0 + 38 * cy xs (k + 1))))) := ⟨o1, (hbel.setCell hg _).setCell hg _⟩
        have HCS : Hid (cy xs (k + 1) = (xs.getD k 0 + cy xs k) / 65536) := hcs
        clear o0 o1 hget hown hbel hcs hl e16 hke
        generalize ((cst xs k).set k ((xs.getD k 0 + cy xs k) % 65536)).getD 0 0 = y at *
        generalize cy xs (k + 1) = c' at *
        generalize cy xs k = cc at *
        generalize xs.getD k 0 = x at *
        obtain ⟨hy0, hy1⟩ := hget0
        have hq0 : x + cc - (x + cc) / 65536 * 65536 = (x + cc) % 65536 := by omega
        have hlt' : ¬ (k : Int) < 15 := by omega
        have hcs2 : c' = (x + cc) / 65536 := HCS.out
        clear HCS
        subst hcs2
        go_wp2
        exact ⟨⟨k + 1, by omega, by go_num, .inr ⟨by have := HK.out; omega, HO.out⟩⟩, by simp [intOf]; omega⟩
    · have hst' : CarS w g c (carryL xs) wr := by
        rcases hst with ⟨_, h⟩ | ⟨_, h⟩
        · omega
        · exact h
      have HP : Hid (FeR w (carryL xs) (.returned (.slice (some ⟨g, 0, none⟩) 16 c)) wr) := ⟨g, c, rfl, hst'.own, hst'.below⟩
      clear hst hst'
      go_wp2
      go_ret
      exact HP.out
end Go.Proofs.Ythghkfncpdnpoab
