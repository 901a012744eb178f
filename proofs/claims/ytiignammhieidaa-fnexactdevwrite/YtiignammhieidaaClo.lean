/-
  Own work: the closure of the program's DevWrite, and the guard round it.
-/
import Derived.Test.YtiignammhieidaaWri
namespace Go.Proofs.Ytiignammhieidaa
open Go.ChangeShapes Go.WideShapes Go.ChangeAt Go.RowKit
set_option linter.unusedVariables false

def GC4 (D : Nat) (s : Int) (xa : Option Addr) (xn xc : Nat) (dz : List Int) (FIN : World → Prop) : Nat → (Nat → Bool) → World → Value → Prop
  | 0, _, _, v => v = .int .i64 s
  | 1, _, _, v => v = .slice xa xn xc
  | 2, _, _, v => v = secV dz
  | _, _, _, _ => True

set_option maxHeartbeats 400000 in
set_option maxRecDepth 100000 in
/-- The closure, whatever the write does: it returns or it panics as the write does. -/
theorem clo_any (A sb db : Nat) (s : Int) (xa : Option Addr) (xn xc : Nat) (z : List Int) (w : World) (hs : w.cell? ⟨sb, 0, none⟩ = some (.int .i64 s)) (hd : w.cell? ⟨db, 0, none⟩ = some (.slice xa xn xc)) (hsl : sb < w.heap.size) (hdl : db < w.heap.size) (hx : At .u8 w xa z) (hxn : z.length = xn) (h64 : xn = 64) (chain : List PanicEntry) (R : World → Prop) (T : World → Prop)
    (hT : T w) (hTg : ∀ w1 w2, T w1 → Below w1.heap.size w1 w2 → T w2)
    (hW : ∀ w1, T w1 → Calls Try.prog 29 #[.pointer (some ⟨A, 0, none⟩), .int .i64 s, secV z] w1 fun e w' => (e = .returned (.tuple #[]) ∨ e = .panicked [{ v := lossV, recovered := false }]) ∧ R w') :
    Calls Try.prog 28 #[.pointer (some ⟨A, 0, none⟩), .pointer (some ⟨sb, 0, none⟩), .pointer (some ⟨db, 0, none⟩)] w fun e w' => (e = .returned (.tuple #[]) ∨ e = .panicked [{ v := lossV, recovered := false }]) ∧ R w' := by
  have HX : Hid (At .u8 w xa z) := hx
  have HSEC : Hid (∀ ww : World, At .u8 ww xa z → Calls Try.prog 30 #[.slice xa xn xc] ww fun e w' => e = .returned (secV z) ∧ Below ww.heap.size ww w') := fun ww h1 => by
    have h2 := sectorOf_any xa xn xc z ww hxn (by omega) h1
    rw [List.take_of_length_le (by omega)] at h2
    exact h2
  have HW : Hid _ := hW
  have HT : Hid (T w) := hT
  have HTG : Hid _ := hTg
  clear hx hxn h64 hW hT hTg
  go_enter Try.func28, Try.ntmps28
  go_wp2_with fail
  refine wp_region_any (by kernel_rfl) ?_
  refine wpAny_slotsJ 3 (fun i w w' => Below w.heap.size w w') (frame := (fun (c0 c1 c2 : Value) => fun (t : Nat → Value) => ({ tmps := List.toArray (c0 :: c1 :: c2 :: t 0 :: t 1 :: t 2 :: t 3 :: []), defers := [] } : Act)) _ _ _)
    (Ext := fun Ls w' => Below w.heap.size w w' ∧ T w') (Good := GC4 A s xa xn xc z R) (by rfl) (by kernel_rfl) ?hstab (by kernel_rfl) (by kernel_rfl) ?hop ?hend _ _ ((fun (x0 x1 x2 x3 : Value) => fun (i : Nat) => if i = 0 then x0 else if i = 1 then x1 else if i = 2 then x2 else if i = 3 then x3 else undef) _ _ _ _) _ (by simp) (by simp) ?ext ?start ?clo (by simp)
  case start => intro i hi h; exact absurd h (by rw [Array.getD_eq_getD_getElem?, Array.getElem?_replicate]; split <;> simp)
  case clo => intro i o ho h; exact absurd h (by rw [Array.getD_eq_getD_getElem?, Array.getElem?_replicate]; split <;> simp)
  case ext => exact ⟨(Below.refl _ _).drew, HTG.out _ _ HT.out (Below.refl _ _).drew⟩
  case hstab =>
    intro j L w1 w2 i v hM hij hL h
    match j, h with
    | 0, h => exact h
    | 1, h => exact h
    | 2, h => exact h
    | n + 3, h => exact trivial
  case hop =>
    intro i o Ls t w' hil ho hLi hx hdep K hK
    obtain ⟨hxb, hxt⟩ := hx
    have s0 : w'.cell? ⟨sb, 0, none⟩ = some (.int .i64 s) := by rw [hxb.cell (p := ⟨sb, 0, none⟩) hsl]; exact hs
    have d0 : w'.cell? ⟨db, 0, none⟩ = some (.slice xa xn xc) := by rw [hxb.cell (p := ⟨db, 0, none⟩) hdl]; exact hd
    obtain rfl | rfl | rfl : i = 0 ∨ i = 1 ∨ i = 2 := by omega
    all_goals (simp at ho; subst ho)
    · clear hdep
      go_simp
      exact hK w' (.int .i64 s) rfl ⟨hxb, hxt⟩ (Below.refl _ _)
    · clear hdep
      go_simp
      exact hK w' (.slice xa xn xc) rfl ⟨hxb, hxt⟩ (Below.refl _ _)
    · have d1 : t 1 = _ := hdep ⟨1, .data⟩ (by simp) rfl
      clear hdep
      have e := HSEC.out w' (At.below HX.out hxb)
      go_simp
      refine e.mono ?_
      rintro e w9 ⟨rfl, hb9⟩
      have hK' := hK w9 (secV z) rfl ⟨hxb.trans (hb9.mono hxb.size), HTG.out _ _ hxt hb9⟩ hb9
      clear hK
      go_simp
      simpa [upd, d1] using hK'
  case hend =>
    intro o Ls t w' ho hx hg K hK
    simp at ho; subst ho
    obtain ⟨hxb, hxt⟩ := hx
    have g0 : t 0 = _ := hg 0 (by decide)
    have g2 : t 2 = _ := hg 2 (by decide)
    clear hg
    have e := HW.out w' hxt
    go_simp
    refine e.mono ?_
    rintro e w9 ⟨rfl | rfl, hR⟩
    · have HR : Hid _ := hR
      clear hR
      go_simp
      apply hK
      go_wp2
      first | go_end0 | go_ret
      exact ⟨.inl rfl, HR.out⟩
    · exact ⟨rfl, .inr rfl, hR⟩
end Go.Proofs.Ytiignammhieidaa
