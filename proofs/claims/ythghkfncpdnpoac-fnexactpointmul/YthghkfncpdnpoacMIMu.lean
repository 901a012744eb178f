/-
  Own work: multiples of a point, by the program.
-/
import Derived.Test.YthghkfncpdnpoacMINm
import Derived.Test.YthghkfncpdnpoacResB
namespace Go.Proofs.Ythghkfncpdnpoac
open Go.ChangeShapes Go.WideShapes Go.ChangeAt Go.RowKit
set_option linter.unusedVariables false

theorem word_bit (ns : List Int) (hw : Wrd ns) (i : Nat) : ns.getD (i / 64) 0 / 2 ^ (i % 64) % 2 = val 18446744073709551616 ns / 2 ^ i % 2 := by
  have hd := val_digit (B := 18446744073709551616) (by decide) hw (i / 64)
  rw [← hd]
  generalize val 18446744073709551616 ns = V
  have e1 : (18446744073709551616 : Int) ^ (i / 64) = 2 ^ (64 * (i / 64)) := by rw [Int.pow_mul]; rfl
  have e2 : (2 : Int) ^ i = 2 ^ (64 * (i / 64)) * 2 ^ (i % 64) := by rw [← Int.pow_add]; congr 1; omega
  have hp : (0 : Int) ≤ 2 ^ (64 * (i / 64)) := Int.le_of_lt (Int.pow_pos (by decide))
  rw [e1, e2, ← Int.ediv_ediv_of_nonneg hp]
  generalize V / 2 ^ (64 * (i / 64)) = U
  have e3 : (18446744073709551616 : Int) = 2 ^ (i % 64) * 2 ^ (64 - i % 64) := by
    rw [← Int.pow_add, show i % 64 + (64 - i % 64) = 64 by omega]; rfl
  have h1 : 0 < 64 - i % 64 := by omega
  rw [e3]
  have hq : (0 : Int) < 2 ^ (i % 64) := Int.pow_pos (by decide)
  rw [Int.emod_def U, Int.mul_assoc, Int.sub_eq_add_neg, ← Int.mul_neg, Int.add_mul_ediv_left _ _ (by omega)]
  obtain ⟨m, hm⟩ : ∃ m, 64 - i % 64 = m + 1 := ⟨63 - i % 64, by omega⟩
  rw [hm, Int.pow_succ]
  generalize U / 2 ^ (i % 64) = A
  generalize U / (2 ^ (i % 64) * (2 ^ m * 2)) = B
  rw [show -(2 ^ m * 2 * B) = 2 * (-(2 ^ m * B)) by grind, Int.add_mul_emod_self_left]

set_option maxHeartbeats 1000000 in
theorem bit_any (g : Nat) (ns : List Int) (i : Nat) (w : World) (hl : ns.length = 4) (hi : i < 256) (hr : RowW w g 100 ns) (hw : Wrd ns) :
    Calls Try.prog 95 #[.pointer (some ⟨g, 0, none⟩), .int .i64 i] w fun e w' => e = .returned (.int .u64 (val 18446744073709551616 ns / 2 ^ i % 2)) ∧ w' = w := by
  have c3 := hr.cell (i / 64) (by omega)
  obtain ⟨h0, h1⟩ := hw.get (i / 64)
  have HB : Hid (ns.getD (i / 64) 0 / 2 ^ (i % 64) % 2 = val 18446744073709551616 ns / 2 ^ i % 2) := word_bit ns hw i
  have hp : (0 : Int) < 2 ^ (i % 64) := Int.pow_pos (by decide)
  have HA : Hid (bits .and .u64 (ns.getD (i / 64) 0 / 2 ^ (i % 64)) 1 = ns.getD (i / 64) 0 / 2 ^ (i % 64) % 2) := by
    have q0 : 0 ≤ ns.getD (i / 64) 0 / 2 ^ (i % 64) := Int.ediv_nonneg h0 (by omega)
    have q1 : ns.getD (i / 64) 0 / 2 ^ (i % 64) ≤ ns.getD (i / 64) 0 := Int.ediv_le_self _ h0
    exact u64_and_mask _ 1 q0 (by omega) 1 (by decide) (by decide)
  have hlt : (i : Int) / 64 < 4 := by omega
  have hi' : (i : Int) < 256 := by omega
  clear hr hw hl hp
  generalize ns.getD (i / 64) 0 = x at *
  go_enter Try.func95, Try.ntmps95
  go_wp2
  rw [HA.out, HB.out]
  go_ret
  exact ⟨rfl, rfl⟩

theorem AddP.q4 {w : World} {g : Nat} {X1 Y1 Z1 T1 X2 Y2 Z2 T2 : Int} {e : Ending} {w' : World} (h : AddP w g X1 Y1 Z1 T1 X2 Y2 Z2 T2 e w') :
    ∃ x y z t, Pt w' g x y z t ∧ WrH g w w' ∧ e = .returned (.tuple #[]) ∧ ((ev x, ev y, ev z, ev t) : Q4) = F4 (X1, Y1, Z1, T1) (X2, Y2, Z2, T2) := by
  obtain ⟨x, y, z, t, h1, h2, h3, h4, h5, h6, h7⟩ := h
  exact ⟨x, y, z, t, h1, h2, h3, by rw [h4, h5, h6, h7]; rfl⟩
theorem Pt.wrh2 {w w' : World} {g V : Nat} {x y z t : List Int} (h : Pt w g x y z t) (hw : WrH V w w') (hne : g ≠ V) : Pt w' g x y z t := ⟨hw.rowW h.row hne, h.x, h.y, h.z, h.t⟩
/-- What multiply leaves. -/
def MulP (w : World) (g : Nat) (Q : Q4) (e : Ending) (w' : World) : Prop :=
  ∃ x y z t, Pt w' g x y z t ∧ WrH g w w' ∧ e = .returned (.tuple #[]) ∧ ((ev x, ev y, ev z, ev t) : Q4) = Q
structure MuS (w : World) (g : Nat) (x y z t ns : List Int) (Q : Q4) (wr : World) : Prop where
  below : Below w.heap.size w wr
  num : RowW wr w.heap.size 100 ns
  pt : Pt wr g x y z t
  lt : g < w.heap.size
  sum : ∃ a b c d, Pt wr (w.heap.size + 1 + 1) a b c d ∧ ((ev a, ev b, ev c, ev d) : Q4) = Q
theorem ev_id : ((ev [0, 0, 0, 0, 0], ev [1, 0, 0, 0, 0], ev [1, 0, 0, 0, 0], ev [0, 0, 0, 0, 0]) : Q4) = idQ := by decide
theorem heap_third (w : World) (o1 o2 o3 : Obj) : (((w.alloc o1).alloc o2).alloc o3).heap[w.heap.size + 1 + 1]? = some o3 := by
  have := heap_alloc_new ((w.alloc o1).alloc o2) o3
  rwa [show ((w.alloc o1).alloc o2).heap.size = w.heap.size + 1 + 1 by simp] at this
def z20 : List Int := [0, 0, 0, 0, 0, 0, 0, 0, 0, 0, 0, 0, 0, 0, 0, 0, 0, 0, 0, 0]
theorem one_ok2 : EOk [1, 0, 0, 0, 0] := one_ok
theorem Try.sizePoint2 : (Try.prog.info? 84).map (·.size) = some 20 := by kernel_rfl

set_option maxRecDepth 100000 in
set_option maxHeartbeats 4000000 in
theorem multiply_gen (S : Nat → Q4) (g : Nat) (x y z t ns : List Int) (w : World) (hp : Pt w g x y z t) (hl : ns.length = 4) (hw : Wrd ns) (hS0 : Hid (S 0 = idQ))
    (hSs : Hid (∀ n, S (n + 1) = bif vbit (val 18446744073709551616 ns) (255 - n) then F4 (F4 (S n) (S n)) (ev x, ev y, ev z, ev t) else F4 (S n) (S n))) :
    Calls Try.prog 70 #[.pointer (some ⟨g, 0, none⟩), .agg (ns.map (Value.int .u64)).toArray] w (MulP w g (S 256)) := by
  match ns, hl with
  | [n0, n1, n2, n3], _ =>
  have HB : Hid (Below w.heap.size w (((w.alloc (.cells #[.int .u64 n0, .int .u64 n1, .int .u64 n2, .int .u64 n3] 100)).alloc (.cells #[.int .u64 1, .int .u64 0, .int .u64 0, .int .u64 0, .int .u64 0] 82)).alloc (.cells #[.int .u64 0, .int .u64 0, .int .u64 0, .int .u64 0, .int .u64 0, .int .u64 0, .int .u64 0, .int .u64 0, .int .u64 0, .int .u64 0, .int .u64 0, .int .u64 0, .int .u64 0, .int .u64 0, .int .u64 0, .int .u64 0, .int .u64 0, .int .u64 0, .int .u64 0, .int .u64 0] 84))) := (((Below.refl _ _).alloc (Nat.le_refl _) _).alloc (by simp) _).alloc (by simp; omega) _
  have HNR : Hid (RowW (((w.alloc (.cells #[.int .u64 n0, .int .u64 n1, .int .u64 n2, .int .u64 n3] 100)).alloc (.cells #[.int .u64 1, .int .u64 0, .int .u64 0, .int .u64 0, .int .u64 0] 82)).alloc (.cells #[.int .u64 0, .int .u64 0, .int .u64 0, .int .u64 0, .int .u64 0, .int .u64 0, .int .u64 0, .int .u64 0, .int .u64 0, .int .u64 0, .int .u64 0, .int .u64 0, .int .u64 0, .int .u64 0, .int .u64 0, .int .u64 0, .int .u64 0, .int .u64 0, .int .u64 0, .int .u64 0] 84)) w.heap.size 100 [n0, n1, n2, n3]) := by
    show _ = _
    rw [Below.heap_alloc _ _ w.heap.size (by simp; omega), Below.heap_alloc _ _ w.heap.size (by simp)]; exact heap_alloc_new w _
  have HZR : Hid (RowW (((w.alloc (.cells #[.int .u64 n0, .int .u64 n1, .int .u64 n2, .int .u64 n3] 100)).alloc (.cells #[.int .u64 1, .int .u64 0, .int .u64 0, .int .u64 0, .int .u64 0] 82)).alloc (.cells #[.int .u64 0, .int .u64 0, .int .u64 0, .int .u64 0, .int .u64 0, .int .u64 0, .int .u64 0, .int .u64 0, .int .u64 0, .int .u64 0, .int .u64 0, .int .u64 0, .int .u64 0, .int .u64 0, .int .u64 0, .int .u64 0, .int .u64 0, .int .u64 0, .int .u64 0, .int .u64 0] 84)) (w.heap.size + 1 + 1) 84 z20) := heap_third w _ _ _
  have HER : Hid (EAt ((w.alloc (.cells #[.int .u64 n0, .int .u64 n1, .int .u64 n2, .int .u64 n3] 100)).alloc (.cells #[.int .u64 1, .int .u64 0, .int .u64 0, .int .u64 0, .int .u64 0] 82)) (w.heap.size + 1) 0 [1, 0, 0, 0, 0]) := by
    have r : RowW ((w.alloc (.cells #[.int .u64 n0, .int .u64 n1, .int .u64 n2, .int .u64 n3] 100)).alloc (.cells #[.int .u64 1, .int .u64 0, .int .u64 0, .int .u64 0, .int .u64 0] 82)) (w.heap.size + 1) 82 [1, 0, 0, 0, 0] := by
      have := heap_alloc_new (w.alloc (.cells #[.int .u64 n0, .int .u64 n1, .int .u64 n2, .int .u64 n3] 100)) (.cells #[.int .u64 1, .int .u64 0, .int .u64 0, .int .u64 0, .int .u64 0] 82)
      rwa [show (w.alloc (.cells #[.int .u64 n0, .int .u64 n1, .int .u64 n2, .int .u64 n3] 100)).heap.size = w.heap.size + 1 by simp] at this
    exact EAt.of_row r one_ok2
  have HPT : Hid (Pt w g x y z t) := hp
  have HWD : Hid (Wrd [n0, n1, n2, n3]) := hw
  clear hp hw
  simp only [List.map_cons, List.map_nil]
  go_enter Try.func70, Try.ntmps70
  go_wp2_with (first
    | (refine wpList_loadE rfl (.tmp 4) rfl (w.heap.size + 1) 0 [1, 0, 0, 0, 0] rfl HER.out ?_)
    | (refine wpList_storeP rfl (.tmp 5) (.tmp 10) rfl (w.heap.size + 1 + 1) [0, 0, 0, 0, 0] [1, 0, 0, 0, 0] [1, 0, 0, 0, 0] [0, 0, 0, 0, 0] z20 rfl rfl zero_ok one_ok2 one_ok2 zero_ok rfl HZR.out ?_)
    | fail)
  intro w0 hp0 hw0
  have HS : Hid (MuS w g x y z t [n0, n1, n2, n3] (S 0) w0) := by
    have b0 : Below w.heap.size w w0 := HB.out.trans (hw0.below (by omega))
    exact ⟨b0, hw0.rowW HNR.out (by omega), HPT.out.below b0 HPT.out.row.lt, HPT.out.row.lt, [0, 0, 0, 0, 0], [1, 0, 0, 0, 0], [1, 0, 0, 0, 0], [0, 0, 0, 0, 0], hp0, by rw [hS0.out]; exact ev_id⟩
  clear hp0 hw0 HB HNR HZR HER
  go_wp2_with fail
  go_loopw [6] (fun i wr => ∃ j : Nat, j ≤ 256 ∧ i = .int .i64 ((j : Int) - 1) ∧ MuS w g x y z t [n0, n1, n2, n3] (S (256 - j)) wr) (fun i _ => (intOf i + 1).toNat)
  case atStart => exact ⟨256, Nat.le_refl _, by go_num, by rw [Nat.sub_self]; exact HS.out⟩
  case round =>
    clear HS
    obtain ⟨j, hj, rfl, hst⟩ := hrel
    by_cases hj0 : 0 < j
    · obtain ⟨i, rfl⟩ : ∃ i, j = i + 1 := ⟨j - 1, by omega⟩
      have ei : ((i + 1 : Nat) : Int) - 1 = (i : Int) := by omega
      rw [ei]
      clear ei
      obtain ⟨hbel, hnum, hpt, hlt, a, b, c, d, hsum, hq⟩ := hst
      have HST : Hid (Below w.heap.size w wr ∧ RowW wr w.heap.size 100 [n0, n1, n2, n3] ∧ Pt wr g x y z t ∧ g < w.heap.size ∧ Pt wr (w.heap.size + 1 + 1) a b c d ∧ ((ev a, ev b, ev c, ev d) : Q4) = S (256 - (i + 1))) := ⟨hbel, hnum, hpt, hlt, hsum, hq⟩
      clear hbel hnum hpt hlt hsum hq
      go_wp2_with fail
      refine (add_any (w.heap.size + 1 + 1) (w.heap.size + 1 + 1) a b c d a b c d _ HST.out.2.2.2.2.1 HST.out.2.2.2.2.1).mono ?_
      intro e w2 h2
      obtain ⟨a2, b2, c2, d2, p2, hw2, rfl, q2⟩ := h2.q4
      obtain ⟨s1, s2, s3, s4, s5, s6⟩ := HST.out
      have HST2 : Hid (Below w.heap.size w w2 ∧ RowW w2 w.heap.size 100 [n0, n1, n2, n3] ∧ Pt w2 g x y z t ∧ g < w.heap.size ∧ Pt w2 (w.heap.size + 1 + 1) a2 b2 c2 d2 ∧ ((ev a2, ev b2, ev c2, ev d2) : Q4) = F4 (S (256 - (i + 1))) (S (256 - (i + 1)))) :=
        ⟨s1.trans (hw2.below w.heap.size (by omega) s1.size), hw2.rowW s2 (by omega), s3.wrh2 hw2 (by omega), s4, p2, by rw [q2, s6]⟩
      clear h2 p2 hw2 q2 s1 s2 s3 s4 s5 s6 HST
      go_wp2_with fail
      refine (bit_any w.heap.size [n0, n1, n2, n3] i _ rfl (by omega) HST2.out.2.1 HWD.out).mono ?_
      rintro e w3 ⟨rfl, rfl⟩
      have hv : val 18446744073709551616 [n0, n1, n2, n3] / 2 ^ i % 2 = 0 ∨ val 18446744073709551616 [n0, n1, n2, n3] / 2 ^ i % 2 = 1 := by omega
      have en : 256 - i = 256 - (i + 1) + 1 := by omega
      have en2 : 255 - (256 - (i + 1)) = i := by omega
      rcases hv with hv | hv
      · have hvb : vbit (val 18446744073709551616 [n0, n1, n2, n3]) i = false := by unfold vbit; rw [hv]; rfl
        have HN : Hid (MuS w g x y z t [n0, n1, n2, n3] (S (256 - i)) w3) := by
          obtain ⟨s1, s2, s3, s4, s5, s6⟩ := HST2.out
          refine ⟨s1, s2, s3, s4, a2, b2, c2, d2, s5, ?_⟩
          rw [s6, en, hSs.out, en2, hvb]; rfl
        rw [hv]
        clear hv HST2 en en2 hvb
        go_wp2
        go_roundw
        case rel => exact ⟨i, by omega, by go_num, HN.out⟩
        case measure => simp [intOf]
      · have hvb : vbit (val 18446744073709551616 [n0, n1, n2, n3]) i = true := by unfold vbit; rw [hv]; rfl
        rw [hv]
        clear hv
        go_wp2_with fail
        refine (add_any (w.heap.size + 1 + 1) g a2 b2 c2 d2 x y z t _ HST2.out.2.2.2.2.1 HST2.out.2.2.1).mono ?_
        intro e w4 h4
        obtain ⟨a4, b4, c4, d4, p4, hw4, rfl, q4⟩ := h4.q4
        have HN : Hid (MuS w g x y z t [n0, n1, n2, n3] (S (256 - i)) w4) := by
          obtain ⟨s1, s2, s3, s4, s5, s6⟩ := HST2.out
          refine ⟨s1.trans (hw4.below w.heap.size (by omega) s1.size), hw4.rowW s2 (by omega), s3.wrh2 hw4 (by omega), s4, a4, b4, c4, d4, p4, ?_⟩
          rw [q4, s6, en, hSs.out, en2, hvb]; rfl
        clear HST2 en en2 hvb h4 p4 hw4 q4
        go_wp2
        go_roundw
        case rel => exact ⟨i, by omega, by go_num, HN.out⟩
        case measure => simp [intOf]
    · have hj00 : j = 0 := by omega
      subst hj00
      obtain ⟨hbel, hnum, hpt, hlt, a, b, c, d, hsum, hq⟩ := hst
      rw [Nat.sub_zero] at hq
      have HL : Hid (wr.heap[w.heap.size + 1 + 1]? = some (.cells ((pl a b c d).map (Value.int .u64)).toArray 84 (0, 0))) := hsum.row
      have HPX : Hid ((pl x y z t).length = 20) := by show _ = _; unfold pl; simp [HPT.out.x.1, HPT.out.y.1, HPT.out.z.1, HPT.out.t.1]
      have HSZ : Hid ((Try.prog.info? 84).map (·.size) = some ((pl a b c d).map (Value.int .u64)).toArray.size) := by
        show _ = _
        rw [Try.sizePoint2]; unfold pl; simp [hsum.x.1, hsum.y.1, hsum.z.1, hsum.t.1]
      have HOK : Hid (EOk a ∧ EOk b ∧ EOk c ∧ EOk d) := ⟨hsum.x, hsum.y, hsum.z, hsum.t⟩
      have HPR : Hid (RowW wr g 84 (pl x y z t)) := hpt.row
      have HFF : Hid (Below w.heap.size w wr ∧ ((ev a, ev b, ev c, ev d) : Q4) = S 256) := ⟨hbel, hq⟩
      clear hbel hnum hpt hsum hq
      go_wp2_with (first
        | (refine wpList_load_row rfl 84 (.tmp 5) rfl (w.heap.size + 1 + 1) rfl 84 _ (0, 0) _ HL.out Try.underlying84 rfl HSZ.out ?_)
        | (refine wpList_storeP rfl (.tmp 23) (.tmp 22) rfl g a b c d _ rfl rfl HOK.out.1 HOK.out.2.1 HOK.out.2.2.1 HOK.out.2.2.2 HPX.out HPR.out ?_)
        | fail)
      intro w5 hp5 hw5
      have HF : Hid (MulP w g (S 256) (.returned (.tuple #[])) w5) :=
        ⟨a, b, c, d, hp5, (WrH.of_below HFF.out.1).trans hw5.wrH, rfl, HFF.out.2⟩
      clear hp5 hw5 HFF HPR HOK HSZ HPX HL
      go_wp2
      go_end0
      exact HF.out
theorem multiply_any (g : Nat) (x y z t ns : List Int) (w : World) (hp : Pt w g x y z t) (hl : ns.length = 4) (hw : Wrd ns) :
    Calls Try.prog 70 #[.pointer (some ⟨g, 0, none⟩), .agg (ns.map (Value.int .u64)).toArray] w (MulP w g (pS (val 18446744073709551616 ns) (ev x, ev y, ev z, ev t) 256)) :=
  multiply_gen (pS (val 18446744073709551616 ns) (ev x, ev y, ev z, ev t)) g x y z t ns w hp hl hw rfl (fun _ => rfl)
end Go.Proofs.Ythghkfncpdnpoac
namespace Go.Proofs.Ythghkfncpdnpoac
open Go.ChangeShapes Go.WideShapes Go.ChangeAt Go.RowKit
set_option linter.unusedVariables false

theorem byte_bit (ks : List Int) (hw : Byte ks) (i : Nat) : ks.getD (i / 8) 0 / 2 ^ (i % 8) % 2 = val 256 ks / 2 ^ i % 2 := by
  have hd := val_digit (B := 256) (by decide) (fun z hz => hw z hz) (i / 8)
  rw [← hd]
  generalize val 256 ks = V
  have e1 : (256 : Int) ^ (i / 8) = 2 ^ (8 * (i / 8)) := by rw [Int.pow_mul]; rfl
  have e2 : (2 : Int) ^ i = 2 ^ (8 * (i / 8)) * 2 ^ (i % 8) := by rw [← Int.pow_add]; congr 1; omega
  have hp : (0 : Int) ≤ 2 ^ (8 * (i / 8)) := Int.le_of_lt (Int.pow_pos (by decide))
  rw [e1, e2, ← Int.ediv_ediv_of_nonneg hp]
  generalize V / 2 ^ (8 * (i / 8)) = U
  have e3 : (256 : Int) = 2 ^ (i % 8) * 2 ^ (8 - i % 8) := by
    rw [← Int.pow_add, show i % 8 + (8 - i % 8) = 8 by omega]; rfl
  have h1 : 0 < 8 - i % 8 := by omega
  rw [e3]
  have hq : (0 : Int) < 2 ^ (i % 8) := Int.pow_pos (by decide)
  rw [Int.emod_def U, Int.mul_assoc, Int.sub_eq_add_neg, ← Int.mul_neg, Int.add_mul_ediv_left _ _ (by omega)]
  obtain ⟨m, hm⟩ : ∃ m, 8 - i % 8 = m + 1 := ⟨7 - i % 8, by omega⟩
  rw [hm, Int.pow_succ]
  generalize U / 2 ^ (i % 8) = A
  generalize U / (2 ^ (i % 8) * (2 ^ m * 2)) = B
  rw [show -(2 ^ m * 2 * B) = 2 * (-(2 ^ m * B)) by grind, Int.add_mul_emod_self_left]

theorem FeA.lt {w : World} {g : Nat} {x : Int} (h : FeA w (some ⟨g, 0, none⟩) x) : g < w.heap.size := by
  obtain ⟨zs, h1, h2, h3⟩ := h
  obtain ⟨b, o, e, hb, hc⟩ := h1.get (by have := h2.1; omega)
  cases e; exact hb
/-- The sum so far, in block G. -/
def OutS (B : Nat) (wr : World) (G : Nat) (Q : Q4) : Prop :=
  ∃ h0 k0 h1 k1 h2 k2 h3 k3, PtW wr G #[.slice (some ⟨h0, 0, none⟩) 16 k0, .slice (some ⟨h1, 0, none⟩) 16 k1, .slice (some ⟨h2, 0, none⟩) 16 k2, .slice (some ⟨h3, 0, none⟩) 16 k3] ∧ FeA wr (some ⟨h0, 0, none⟩) Q.1 ∧ FeA wr (some ⟨h1, 0, none⟩) Q.2.1 ∧ FeA wr (some ⟨h2, 0, none⟩) Q.2.2.1 ∧ FeA wr (some ⟨h3, 0, none⟩) Q.2.2.2 ∧ (h0 ≠ G ∧ h1 ≠ G ∧ h2 ≠ G ∧ h3 ≠ G) ∧ (B < h0 ∧ B < h1 ∧ B < h2 ∧ B < h3)
/-- What stays. -/
structure TmE (w : World) (pc : Array Value) (G : Nat) (wr : World) : Prop where
  below : Below w.heap.size w wr
  pb : PtW wr w.heap.size pc
  rs : PtW wr (w.heap.size + 1) #[.slice none 0 0, .slice none 0 0, .slice none 0 0, .slice none 0 0]
  gt : w.heap.size + 1 < G
theorem TmE.call {w wr w' : World} {pc : Array Value} {G : Nat} (h : TmE w pc G wr) (b : Below wr.heap.size wr w') : TmE w pc G w' :=
  ⟨h.below.trans (b.mono h.below.size), h.pb.below b h.pb.lt, h.rs.below b h.rs.lt, h.gt⟩
theorem PtW.wr2 {w w' : World} {g V : Nat} {cs : Array Value} (h : PtW w g cs) (hw : Wr V w w') (hne : g ≠ V) : PtW w' g cs := by unfold PtW; rw [hw.block g hne]; exact h
theorem TmE.wr {w wr w' : World} {pc : Array Value} {G : Nat} (h : TmE w pc G wr) (hw : Wr G wr w') : TmE w pc G w' :=
  ⟨h.below.trans (hw.below (by have := h.gt; omega)), h.pb.wr2 hw (by have := h.gt; omega), h.rs.wr2 hw (by have := h.gt; omega), h.gt⟩
/-- What l4Times answers. -/
def TimP (w : World) (Q : Q4) (e : Ending) (w' : World) : Prop :=
  ∃ h0 k0 h1 k1 h2 k2 h3 k3, e = .returned (.agg #[.slice (some ⟨h0, 0, none⟩) 16 k0, .slice (some ⟨h1, 0, none⟩) 16 k1, .slice (some ⟨h2, 0, none⟩) 16 k2, .slice (some ⟨h3, 0, none⟩) 16 k3]) ∧ FeA w' (some ⟨h0, 0, none⟩) Q.1 ∧ FeA w' (some ⟨h1, 0, none⟩) Q.2.1 ∧ FeA w' (some ⟨h2, 0, none⟩) Q.2.2.1 ∧ FeA w' (some ⟨h3, 0, none⟩) Q.2.2.2 ∧ Below w.heap.size w w'
theorem OutS.put {B : Nat} {wr w5 w6 : World} {G : Nat} {P Q : Q4} {v : Value} (hG : G < wr.heap.size) (hB : B < G)
    (h : SumP wr (smA P.1 P.2.1 Q.1 Q.2.1) (smB P.1 P.2.1 Q.1 Q.2.1) (smC mdD P.2.2.2 Q.2.2.2) (smG P.2.2.1 Q.2.2.1) (.returned v) w5) :
    ∃ s0 s1 s2 s3, v = .agg #[s0, s1, s2, s3] ∧ (s0.oneCell' = true ∧ s1.oneCell' = true ∧ s2.oneCell' = true ∧ s3.oneCell' = true) ∧ (PtW w6 G #[s0, s1, s2, s3] → Wr G w5 w6 → OutS B w6 G (F4 P Q)) := by
  obtain ⟨g1, k1, g2, k2, g3, k3, g4, k4, e, f1, f2, f3, f4, b, q1, q2, q3, q4⟩ := h
  cases e
  refine ⟨_, _, _, _, rfl, ⟨rfl, rfl, rfl, rfl⟩, fun hp hw => ⟨g1, k1, g2, k2, g3, k3, g4, k4, hp, f1.wr hw (by omega), f2.wr hw (by omega), f3.wr hw (by omega), f4.wr hw (by omega), ⟨by omega, by omega, by omega, by omega⟩, by omega, by omega, by omega, by omega⟩⟩

set_option maxRecDepth 100000 in
set_option maxHeartbeats 8000000 in
theorem ltimes_gen (M : Nat → Q4 × Bool) (kp : Option Addr) (kc : Nat) (ks : List Int) (p0 p1 p2 p3 gd c0 c1 c2 c3 cd : Nat) (P : Q4) (w : World) (hk : ks.length = 32) (hb : Byte ks) (ha : At .u8 w kp ks)
    (h0 : FeA w (some ⟨p0, 0, none⟩) P.1) (h1 : FeA w (some ⟨p1, 0, none⟩) P.2.1) (h2 : FeA w (some ⟨p2, 0, none⟩) P.2.2.1) (h3 : FeA w (some ⟨p3, 0, none⟩) P.2.2.2) (hd : FeA w (some ⟨gd, 0, none⟩) mdD) (hM0 : Hid (M 0 = (idQ, false)))
    (hMs : Hid (∀ n Q b, M n = (Q, b) → M (n + 1) = bif vbit (val 256 ks) (255 - n) then (F4 (bif b then F4 Q Q else Q) P, true) else (bif b then F4 Q Q else Q, b))) :
    Calls Try.prog 69 #[.slice kp 32 kc, .agg #[.slice (some ⟨p0, 0, none⟩) 16 c0, .slice (some ⟨p1, 0, none⟩) 16 c1, .slice (some ⟨p2, 0, none⟩) 16 c2, .slice (some ⟨p3, 0, none⟩) 16 c3], .slice (some ⟨gd, 0, none⟩) 16 cd] w (TimP w (M 256).1) := by
  have bb : Below w.heap.size w ((w.alloc (.cells #[.slice (some ⟨p0, 0, none⟩) 16 c0, .slice (some ⟨p1, 0, none⟩) 16 c1, .slice (some ⟨p2, 0, none⟩) 16 c2, .slice (some ⟨p3, 0, none⟩) 16 c3] 76)).alloc (.cells #[.slice none 0 0, .slice none 0 0, .slice none 0 0, .slice none 0 0] 76)) := ((Below.refl _ _).alloc (Nat.le_refl _) _).alloc (by simp) _
  have HP0 : Hid (PtW ((w.alloc (.cells #[.slice (some ⟨p0, 0, none⟩) 16 c0, .slice (some ⟨p1, 0, none⟩) 16 c1, .slice (some ⟨p2, 0, none⟩) 16 c2, .slice (some ⟨p3, 0, none⟩) 16 c3] 76)).alloc (.cells #[.slice none 0 0, .slice none 0 0, .slice none 0 0, .slice none 0 0] 76)) w.heap.size #[.slice (some ⟨p0, 0, none⟩) 16 c0, .slice (some ⟨p1, 0, none⟩) 16 c1, .slice (some ⟨p2, 0, none⟩) 16 c2, .slice (some ⟨p3, 0, none⟩) 16 c3]) := by
    show _ = _
    rw [Below.heap_alloc _ _ w.heap.size (by simp)]; exact heap_alloc_new w _
  have HZ0 : Hid (PtW ((w.alloc (.cells #[.slice (some ⟨p0, 0, none⟩) 16 c0, .slice (some ⟨p1, 0, none⟩) 16 c1, .slice (some ⟨p2, 0, none⟩) 16 c2, .slice (some ⟨p3, 0, none⟩) 16 c3] 76)).alloc (.cells #[.slice none 0 0, .slice none 0 0, .slice none 0 0, .slice none 0 0] 76)) (w.heap.size + 1) #[.slice none 0 0, .slice none 0 0, .slice none 0 0, .slice none 0 0]) := by
    show _ = _
    have := heap_alloc_new (w.alloc (.cells #[.slice (some ⟨p0, 0, none⟩) 16 c0, .slice (some ⟨p1, 0, none⟩) 16 c1, .slice (some ⟨p2, 0, none⟩) 16 c2, .slice (some ⟨p3, 0, none⟩) 16 c3] 76)) (.cells #[.slice none 0 0, .slice none 0 0, .slice none 0 0, .slice none 0 0] 76)
    simpa using this
  have HB0 : Hid (Below w.heap.size w ((w.alloc (.cells #[.slice (some ⟨p0, 0, none⟩) 16 c0, .slice (some ⟨p1, 0, none⟩) 16 c1, .slice (some ⟨p2, 0, none⟩) 16 c2, .slice (some ⟨p3, 0, none⟩) 16 c3] 76)).alloc (.cells #[.slice none 0 0, .slice none 0 0, .slice none 0 0, .slice none 0 0] 76))) := bb
  have HF0 : Hid (FeA w (some ⟨p0, 0, none⟩) P.1) := h0
  have HF1 : Hid (FeA w (some ⟨p1, 0, none⟩) P.2.1) := h1
  have HF2 : Hid (FeA w (some ⟨p2, 0, none⟩) P.2.2.1) := h2
  have HF3 : Hid (FeA w (some ⟨p3, 0, none⟩) P.2.2.2) := h3
  have HFD : Hid (FeA w (some ⟨gd, 0, none⟩) mdD) := hd
  obtain ⟨kb, ko, rfl, hkb, hkc⟩ := ha.get (by omega)
  have HKB : Hid (kb < w.heap.size) := hkb
  have HKC : Hid (∀ q, q < 32 → w.cell? ⟨kb, ko + q, none⟩ = some (.int .u8 (ks.getD q 0))) := fun q hq => hkc q (by omega)
  have HBY : Hid (Byte ks) := hb
  have HKL : Hid (ks.length = 32) := hk
  clear bb h0 h1 h2 h3 hd ha hb hk hkb hkc
  go_enter Try.func69, Try.ntmps69
  go_wp2_with fail
  generalize ((w.alloc (.cells #[.slice (some ⟨p0, 0, none⟩) 16 c0, .slice (some ⟨p1, 0, none⟩) 16 c1, .slice (some ⟨p2, 0, none⟩) 16 c2, .slice (some ⟨p3, 0, none⟩) 16 c3] 76)).alloc (.cells #[.slice none 0 0, .slice none 0 0, .slice none 0 0, .slice none 0 0] 76)) = w0 at *
  refine (small_any 0 _ (by decide) (by decide)).mono ?_
  rintro e w1 ⟨g1, k1, rfl, hr1, _, hf, hb⟩
  have hg1 : w.heap.size + 1 < g1 := by have := HZ0.out.lt; omega
  have HX : Hid (FeA w1 (some ⟨g1, 0, none⟩) (0 % fp)) := hf
  have b1 : Below w.heap.size w w1 := HB0.out.trans (hb.mono HB0.out.size)
  have HP1 : Hid (PtW w1 w.heap.size #[.slice (some ⟨p0, 0, none⟩) 16 c0, .slice (some ⟨p1, 0, none⟩) 16 c1, .slice (some ⟨p2, 0, none⟩) 16 c2, .slice (some ⟨p3, 0, none⟩) 16 c3]) := HP0.out.below hb HP0.out.lt
  have HZ1 : Hid (PtW w1 (w.heap.size + 1) #[.slice none 0 0, .slice none 0 0, .slice none 0 0, .slice none 0 0]) := HZ0.out.below hb HZ0.out.lt
  have HB1 : Hid (Below w.heap.size w w1) := b1
  clear hf hb HB0 HP0 HZ0 b1
  go_wp2_with fail
  refine (small_any 1 _ (by decide) (by decide)).mono ?_
  rintro e w2 ⟨g2, k2, rfl, hr2, _, hf, hb⟩
  have hg2 : w.heap.size + 1 < g2 := by have := HZ1.out.lt; omega
  have HX2 : Hid (FeA w2 (some ⟨g1, 0, none⟩) (0 % fp)) := HX.out.below hb
  have HY2 : Hid (FeA w2 (some ⟨g2, 0, none⟩) (1 % fp)) := hf
  have HP2 : Hid (PtW w2 w.heap.size #[.slice (some ⟨p0, 0, none⟩) 16 c0, .slice (some ⟨p1, 0, none⟩) 16 c1, .slice (some ⟨p2, 0, none⟩) 16 c2, .slice (some ⟨p3, 0, none⟩) 16 c3]) := HP1.out.below hb HP1.out.lt
  have HZ2 : Hid (PtW w2 (w.heap.size + 1) #[.slice none 0 0, .slice none 0 0, .slice none 0 0, .slice none 0 0]) := HZ1.out.below hb HZ1.out.lt
  have HB2 : Hid (Below w.heap.size w w2) := HB1.out.trans (hb.mono HB1.out.size)
  clear hf hb HB1 HP1 HZ1 HX
  go_wp2_with fail
  refine (affine_any (some ⟨g1, 0, none⟩) (some ⟨g2, 0, none⟩) k1 k2 _ _ _ HX2.out HY2.out).mono ?_
  rintro e w3 ⟨gz, cz, gt, ct, rfl, f3, f4, hb, hr3, hr4⟩
  have hgz : w.heap.size + 1 < gz := by have := HZ2.out.lt; omega
  have hgt : w.heap.size + 1 < gt := by have := HZ2.out.lt; omega
  have HX3 : Hid (FeA w3 (some ⟨g1, 0, none⟩) (0 % fp) ∧ FeA w3 (some ⟨g2, 0, none⟩) (1 % fp) ∧ FeA w3 (some ⟨gz, 0, none⟩) (1 % fp) ∧ FeA w3 (some ⟨gt, 0, none⟩) (0 % fp * (1 % fp) % fp)) := ⟨HX2.out.below hb, HY2.out.below hb, f3, f4⟩
  have HP3 : Hid (PtW w3 w.heap.size #[.slice (some ⟨p0, 0, none⟩) 16 c0, .slice (some ⟨p1, 0, none⟩) 16 c1, .slice (some ⟨p2, 0, none⟩) 16 c2, .slice (some ⟨p3, 0, none⟩) 16 c3]) := HP2.out.below hb HP2.out.lt
  have HZ3 : Hid (PtW w3 (w.heap.size + 1) #[.slice none 0 0, .slice none 0 0, .slice none 0 0, .slice none 0 0]) := HZ2.out.below hb HZ2.out.lt
  have HB3 : Hid (Below w.heap.size w w3) := HB2.out.trans (hb.mono HB2.out.size)
  have HPN : Hid (PtW (w3.alloc (.cells #[.slice none 0 0, .slice none 0 0, .slice none 0 0, .slice none 0 0] 76)) w3.heap.size #[.slice none 0 0, .slice none 0 0, .slice none 0 0, .slice none 0 0]) := PtW.new w3
  clear f3 f4 hb HB2 HP2 HZ2 HX2 HY2
  go_wp2_with (first
    | (refine wpList_storePt rfl (.tmp 7) (.tmp 12) rfl w3.heap.size _ _ _ _ _ rfl rfl rfl rfl rfl rfl rfl HPN.out ?_)
    | fail)
  intro w4 hp4 hw4
  have b34 : Below w3.heap.size w3 w4 := (below_new3 _ _).trans (hw4.below (Nat.le_refl _))
  have HE : Hid (TmE w #[.slice (some ⟨p0, 0, none⟩) 16 c0, .slice (some ⟨p1, 0, none⟩) 16 c1, .slice (some ⟨p2, 0, none⟩) 16 c2, .slice (some ⟨p3, 0, none⟩) 16 c3] w3.heap.size w4) := ⟨HB3.out.trans (b34.mono HB3.out.size), HP3.out.below b34 HP3.out.lt, HZ3.out.below b34 HZ3.out.lt, HZ3.out.lt⟩
  have HO : Hid (OutS (w.heap.size + 1) w4 w3.heap.size (M 0).1) := by
    show OutS _ _ _ _
    rw [hM0.out]
    obtain ⟨q1, q2, q3, q4⟩ := HX3.out
    refine ⟨g1, k1, g2, k2, gz, cz, gt, ct, hp4, ?_, ?_, ?_, ?_, ⟨?_, ?_, ?_, ?_⟩, hg1, hg2, hgz, hgt⟩
    · exact q1.below b34
    · exact q2.below b34
    · exact q3.below b34
    · exact q4.below b34
    · have := q1.lt; omega
    · have := q2.lt; omega
    · have := q3.lt; omega
    · have := q4.lt; omega
  clear hp4 hw4 b34 HPN HX3 HP3 HZ3 HB3
  generalize w3.heap.size = G at *
  go_wp2_with fail
  go_loopw [8, 9] (fun b i wr => ∃ j : Nat, j ≤ 256 ∧ i = .int .i64 ((j : Int) - 1) ∧ b = .bool (M (256 - j)).2 ∧ TmE w #[.slice (some ⟨p0, 0, none⟩) 16 c0, .slice (some ⟨p1, 0, none⟩) 16 c1, .slice (some ⟨p2, 0, none⟩) 16 c2, .slice (some ⟨p3, 0, none⟩) 16 c3] G wr ∧ OutS (w.heap.size + 1) wr G (M (256 - j)).1) (fun _ i _ => (intOf i + 1).toNat)
  case atStart => exact ⟨256, Nat.le_refl _, by go_num, by rw [Nat.sub_self, hM0.out], HE.out, by rw [Nat.sub_self]; exact HO.out⟩
  case round =>
    clear HE HO
    obtain ⟨j, hj, rfl, rfl, hE, hO⟩ := hrel
    by_cases hj0 : 0 < j
    · obtain ⟨i, rfl⟩ : ∃ i, j = i + 1 := ⟨j - 1, by omega⟩
      have ei : ((i + 1 : Nat) : Int) - 1 = (i : Int) := by omega
      rw [ei]
      clear ei
      have en : 256 - i = 256 - (i + 1) + 1 := by omega
      have en2 : 255 - (256 - (i + 1)) = i := by omega
      have hi8 : i < 256 := by omega
      generalize hM : M (256 - (i + 1)) = mq at *
      obtain ⟨Q, bg⟩ := mq
      simp only at hO ⊢
      cases bg with
      | false =>
        have hge : ¬ ((i : Int) < 0) := by omega
        have cK : wr.cell? ⟨kb, ko + i / 8, none⟩ = some (.int .u8 (ks.getD (i / 8) 0)) := by rw [hE.below.cell (p := ⟨kb, ko + i / 8, none⟩) HKB.out]; exact HKC.out (i / 8) (by omega)
        have hx := HBY.out.get (i / 8)
        have HBIT : Hid (ks.getD (i / 8) 0 / 2 ^ (i % 8) % 2 = (val 256 ks) / 2 ^ i % 2) := byte_bit ks HBY.out i
        have hlt : (i : Int) / 8 < 32 := by omega
        have HE : Hid (TmE w #[.slice (some ⟨p0, 0, none⟩) 16 c0, .slice (some ⟨p1, 0, none⟩) 16 c1, .slice (some ⟨p2, 0, none⟩) 16 c2, .slice (some ⟨p3, 0, none⟩) 16 c3] G wr) := hE
        have HO : Hid (OutS (w.heap.size + 1) wr G (Q)) := hO
        clear hE hO
        generalize ks.getD (i / 8) 0 = x at *
        obtain ⟨hx0, hx1⟩ := hx
        have hv : (val 256 ks) / 2 ^ i % 2 = 0 ∨ (val 256 ks) / 2 ^ i % 2 = 1 := by omega
        have hpp : (0 : Int) < 2 ^ (i % 8) := Int.pow_pos (by decide)
        have hy0 : 0 ≤ x / 2 ^ (i % 8) := Int.ediv_nonneg hx0 (by omega)
        have hy1 : x / 2 ^ (i % 8) ≤ x := Int.ediv_le_self _ hx0
        rcases hv with hv | hv
        · have hvb : vbit (val 256 ks) i = false := by unfold vbit; rw [hv]; rfl
          have hb0 : x / 2 ^ (i % 8) % 2 = 0 := by rw [HBIT.out, hv]
          have HN : Hid ((M (256 - i)) = (Q, false)) := by
            show _ = _
            rw [en, hMs.out _ _ _ hM, en2, hvb]; rfl
          clear hv HBIT hvb
          have ht : (x / 2 ^ (i % 8)).tmod 2 = 0 := by rw [Int.tmod_eq_emod_of_nonneg hy0, hb0]
          clear hb0
          go_wp2
          go_roundw
          case rel => exact ⟨i, by omega, by go_num, by rw [HN.out], HE.out, by rw [HN.out]; exact HO.out⟩
          case measure => simp [intOf]
        · have hvb : vbit (val 256 ks) i = true := by unfold vbit; rw [hv]; rfl
          have hb0 : x / 2 ^ (i % 8) % 2 = 1 := by rw [HBIT.out, hv]
          have HN : Hid ((M (256 - i)) = (F4 (Q) P, true)) := by
            show _ = _
            rw [en, hMs.out _ _ _ hM, en2, hvb]; rfl
          clear hv HBIT hvb
          have ht : (x / 2 ^ (i % 8)).tmod 2 = 1 := by rw [Int.tmod_eq_emod_of_nonneg hy0, hb0]
          clear hb0
          obtain ⟨h0, k0, h1, k1, h2, k2, h3, k3, hp, hf0, hf1, hf2, hf3, hne⟩ := HO.out
          have hE := HE.out
          have CS := sum_any (some ⟨h0, 0, none⟩) (some ⟨h1, 0, none⟩) (some ⟨h2, 0, none⟩) (some ⟨h3, 0, none⟩) (some ⟨p0, 0, none⟩) (some ⟨p1, 0, none⟩) (some ⟨p2, 0, none⟩) (some ⟨p3, 0, none⟩) (some ⟨gd, 0, none⟩) k0 k1 k2 k3 c0 c1 c2 c3 cd _ _ _ _ _ _ _ _ mdD wr (fun e he => by
                  simp only [List.mem_cons, List.not_mem_nil, or_false] at he
                  rcases he with rfl | rfl | rfl | rfl | rfl | rfl | rfl | rfl | rfl
                  · exact hf0
                  · exact hf1
                  · exact hf2
                  · exact hf3
                  · exact (HF0.out.below hE.below)
                  · exact (HF1.out.below hE.below)
                  · exact (HF2.out.below hE.below)
                  · exact (HF3.out.below hE.below)
                  · exact (HFD.out.below hE.below))
          have HPO : Hid (PtW wr G #[.slice (some ⟨h0, 0, none⟩) 16 k0, .slice (some ⟨h1, 0, none⟩) 16 k1, .slice (some ⟨h2, 0, none⟩) 16 k2, .slice (some ⟨h3, 0, none⟩) 16 k3]) := hp
          have HPB : Hid (PtW wr w.heap.size #[.slice (some ⟨p0, 0, none⟩) 16 c0, .slice (some ⟨p1, 0, none⟩) 16 c1, .slice (some ⟨p2, 0, none⟩) 16 c2, .slice (some ⟨p3, 0, none⟩) 16 c3]) := hE.pb
          clear hp hf0 hf1 hf2 hf3 hne hE HO
          go_wp2_with (first
            | (refine wpList_load_row rfl 76 (.tmp 7) rfl G rfl 76 _ (0, 0) _ HPO.out Try.underlying76 rfl Try.sizePt ?_)
            | (refine wpList_load_row rfl 76 (.tmp 4) rfl w.heap.size rfl 76 _ (0, 0) _ HPB.out Try.underlying76 rfl Try.sizePt ?_)
            | fail)
          refine CS.mono ?_
          intro e w8 h8
          have h8b : Below wr.heap.size wr w8 := by obtain ⟨_, _, _, _, _, _, _, _, _, _, _, _, _, b, _⟩ := h8; exact b
          have h8e : ∃ v, e = .returned v := by obtain ⟨_, _, _, _, _, _, _, _, r, _⟩ := h8; exact ⟨_, r⟩
          obtain ⟨v8, rfl⟩ := h8e
          have hput := fun w9 => OutS.put (B := w.heap.size + 1) (w6 := w9) (P := Q) (Q := P) HPO.out.lt HE.out.gt h8
          obtain ⟨s0, s1, s2, s3, rfl, hone, _⟩ := hput w8
          have HPT : Hid (∀ w9, PtW w9 G #[s0, s1, s2, s3] → Wr G w8 w9 → OutS (w.heap.size + 1) w9 G (F4 (Q) P)) := fun w9 hp hw => by
            obtain ⟨q0, q1, q2, q3, e, _, k⟩ := hput w9
            cases e; exact k hp hw
          have HON : Hid (s0.oneCell' = true ∧ s1.oneCell' = true ∧ s2.oneCell' = true ∧ s3.oneCell' = true) := hone
          have HP8 : Hid (PtW w8 G #[.slice (some ⟨h0, 0, none⟩) 16 k0, .slice (some ⟨h1, 0, none⟩) 16 k1, .slice (some ⟨h2, 0, none⟩) 16 k2, .slice (some ⟨h3, 0, none⟩) 16 k3]) := HPO.out.below h8b HPO.out.lt
          have HE8 : Hid (TmE w #[.slice (some ⟨p0, 0, none⟩) 16 c0, .slice (some ⟨p1, 0, none⟩) 16 c1, .slice (some ⟨p2, 0, none⟩) 16 c2, .slice (some ⟨p3, 0, none⟩) 16 c3] G w8) := HE.out.call h8b
          clear h8 h8b hput hone CS HE HPO HPB
          go_wp2_with (first
            | (refine wpList_storePt rfl (.tmp 7) (.tmp 40) rfl G s0 s1 s2 s3 _ HON.out.1 HON.out.2.1 HON.out.2.2.1 HON.out.2.2.2 rfl rfl rfl HP8.out ?_)
            | fail)
          intro w9 hp9 hw9
          have HO9 : Hid (OutS (w.heap.size + 1) w9 G (F4 (Q) P)) := HPT.out w9 hp9 hw9
          have HE9 : Hid (TmE w #[.slice (some ⟨p0, 0, none⟩) 16 c0, .slice (some ⟨p1, 0, none⟩) 16 c1, .slice (some ⟨p2, 0, none⟩) 16 c2, .slice (some ⟨p3, 0, none⟩) 16 c3] G w9) := HE8.out.wr hw9
          clear hp9 hw9 HPT HON HP8 HE8
          go_wp2
          go_roundw
          case rel => exact ⟨i, by omega, by go_num, by rw [HN.out], HE9.out, by rw [HN.out]; exact HO9.out⟩
          case measure => simp [intOf]
      | true =>
        obtain ⟨h0, k0, h1, k1, h2, k2, h3, k3, hp, hf0, hf1, hf2, hf3, hne⟩ := hO
        have CS := sum_any (some ⟨h0, 0, none⟩) (some ⟨h1, 0, none⟩) (some ⟨h2, 0, none⟩) (some ⟨h3, 0, none⟩) (some ⟨h0, 0, none⟩) (some ⟨h1, 0, none⟩) (some ⟨h2, 0, none⟩) (some ⟨h3, 0, none⟩) (some ⟨gd, 0, none⟩) k0 k1 k2 k3 k0 k1 k2 k3 cd _ _ _ _ _ _ _ _ mdD wr (fun e he => by
          simp only [List.mem_cons, List.not_mem_nil, or_false] at he
          rcases he with rfl | rfl | rfl | rfl | rfl | rfl | rfl | rfl | rfl
          · exact hf0
          · exact hf1
          · exact hf2
          · exact hf3
          · exact hf0
          · exact hf1
          · exact hf2
          · exact hf3
          · exact (HFD.out.below hE.below))
        have HPO : Hid (PtW wr G #[.slice (some ⟨h0, 0, none⟩) 16 k0, .slice (some ⟨h1, 0, none⟩) 16 k1, .slice (some ⟨h2, 0, none⟩) 16 k2, .slice (some ⟨h3, 0, none⟩) 16 k3]) := hp
        have HE : Hid (TmE w #[.slice (some ⟨p0, 0, none⟩) 16 c0, .slice (some ⟨p1, 0, none⟩) 16 c1, .slice (some ⟨p2, 0, none⟩) 16 c2, .slice (some ⟨p3, 0, none⟩) 16 c3] G wr) := hE
        clear hp hf0 hf1 hf2 hf3 hne hE
        go_wp2_with (first
          | (refine wpList_load_row rfl 76 (.tmp 7) rfl G rfl 76 _ (0, 0) _ HPO.out Try.underlying76 rfl Try.sizePt ?_)
          | fail)
        refine CS.mono ?_
        intro e w5 h5
        have h5b : Below wr.heap.size wr w5 := by obtain ⟨_, _, _, _, _, _, _, _, _, _, _, _, _, b, _⟩ := h5; exact b
        have h5e : ∃ v, e = .returned v := by obtain ⟨_, _, _, _, _, _, _, _, r, _⟩ := h5; exact ⟨_, r⟩
        obtain ⟨v5, rfl⟩ := h5e
        have hput := fun w9 => OutS.put (B := w.heap.size + 1) (w6 := w9) (P := Q) (Q := Q) HPO.out.lt HE.out.gt h5
        obtain ⟨s0, s1, s2, s3, rfl, hone, _⟩ := hput w5
        have HPT : Hid (∀ w9, PtW w9 G #[s0, s1, s2, s3] → Wr G w5 w9 → OutS (w.heap.size + 1) w9 G (F4 Q Q)) := fun w9 hp hw => by
          obtain ⟨q0, q1, q2, q3, e, _, k⟩ := hput w9
          cases e; exact k hp hw
        have HON : Hid (s0.oneCell' = true ∧ s1.oneCell' = true ∧ s2.oneCell' = true ∧ s3.oneCell' = true) := hone
        have HP5 : Hid (PtW w5 G #[.slice (some ⟨h0, 0, none⟩) 16 k0, .slice (some ⟨h1, 0, none⟩) 16 k1, .slice (some ⟨h2, 0, none⟩) 16 k2, .slice (some ⟨h3, 0, none⟩) 16 k3]) := HPO.out.below h5b HPO.out.lt
        have HE5 : Hid (TmE w #[.slice (some ⟨p0, 0, none⟩) 16 c0, .slice (some ⟨p1, 0, none⟩) 16 c1, .slice (some ⟨p2, 0, none⟩) 16 c2, .slice (some ⟨p3, 0, none⟩) 16 c3] G w5) := HE.out.call h5b
        clear h5 h5b hput hone CS HE HPO
        go_wp2_with (first
          | (refine wpList_storePt rfl (.tmp 7) (.tmp 25) rfl G s0 s1 s2 s3 _ HON.out.1 HON.out.2.1 HON.out.2.2.1 HON.out.2.2.2 rfl rfl rfl HP5.out ?_)
          | fail)
        intro w6 hp6 hw6
        have hO : OutS (w.heap.size + 1) w6 G (F4 Q Q) := HPT.out w6 hp6 hw6
        have hE : TmE w #[.slice (some ⟨p0, 0, none⟩) 16 c0, .slice (some ⟨p1, 0, none⟩) 16 c1, .slice (some ⟨p2, 0, none⟩) 16 c2, .slice (some ⟨p3, 0, none⟩) 16 c3] G w6 := HE5.out.wr hw6
        clear hp6 hw6 HPT HON HP5 HE5
        have cK : w6.cell? ⟨kb, ko + i / 8, none⟩ = some (.int .u8 (ks.getD (i / 8) 0)) := by rw [hE.below.cell (p := ⟨kb, ko + i / 8, none⟩) HKB.out]; exact HKC.out (i / 8) (by omega)
        have hx := HBY.out.get (i / 8)
        have HBIT : Hid (ks.getD (i / 8) 0 / 2 ^ (i % 8) % 2 = (val 256 ks) / 2 ^ i % 2) := byte_bit ks HBY.out i
        have hlt : (i : Int) / 8 < 32 := by omega
        have HE : Hid (TmE w #[.slice (some ⟨p0, 0, none⟩) 16 c0, .slice (some ⟨p1, 0, none⟩) 16 c1, .slice (some ⟨p2, 0, none⟩) 16 c2, .slice (some ⟨p3, 0, none⟩) 16 c3] G w6) := hE
        have HO : Hid (OutS (w.heap.size + 1) w6 G (F4 Q Q)) := hO
        clear hE hO
        generalize ks.getD (i / 8) 0 = x at *
        obtain ⟨hx0, hx1⟩ := hx
        have hv : (val 256 ks) / 2 ^ i % 2 = 0 ∨ (val 256 ks) / 2 ^ i % 2 = 1 := by omega
        have hpp : (0 : Int) < 2 ^ (i % 8) := Int.pow_pos (by decide)
        have hy0 : 0 ≤ x / 2 ^ (i % 8) := Int.ediv_nonneg hx0 (by omega)
        have hy1 : x / 2 ^ (i % 8) ≤ x := Int.ediv_le_self _ hx0
        rcases hv with hv | hv
        · have hvb : vbit (val 256 ks) i = false := by unfold vbit; rw [hv]; rfl
          have hb0 : x / 2 ^ (i % 8) % 2 = 0 := by rw [HBIT.out, hv]
          have HN : Hid ((M (256 - i)) = (F4 Q Q, true)) := by
            show _ = _
            rw [en, hMs.out _ _ _ hM, en2, hvb]; rfl
          clear hv HBIT hvb
          have ht : (x / 2 ^ (i % 8)).tmod 2 = 0 := by rw [Int.tmod_eq_emod_of_nonneg hy0, hb0]
          clear hb0
          go_wp2
          go_roundw
          case rel => exact ⟨i, by omega, by go_num, by rw [HN.out], HE.out, by rw [HN.out]; exact HO.out⟩
          case measure => simp [intOf]
        · have hvb : vbit (val 256 ks) i = true := by unfold vbit; rw [hv]; rfl
          have hb0 : x / 2 ^ (i % 8) % 2 = 1 := by rw [HBIT.out, hv]
          have HN : Hid ((M (256 - i)) = (F4 (F4 Q Q) P, true)) := by
            show _ = _
            rw [en, hMs.out _ _ _ hM, en2, hvb]; rfl
          clear hv HBIT hvb
          have ht : (x / 2 ^ (i % 8)).tmod 2 = 1 := by rw [Int.tmod_eq_emod_of_nonneg hy0, hb0]
          clear hb0
          obtain ⟨h0, k0, h1, k1, h2, k2, h3, k3, hp, hf0, hf1, hf2, hf3, hne⟩ := HO.out
          have hE := HE.out
          have CS := sum_any (some ⟨h0, 0, none⟩) (some ⟨h1, 0, none⟩) (some ⟨h2, 0, none⟩) (some ⟨h3, 0, none⟩) (some ⟨p0, 0, none⟩) (some ⟨p1, 0, none⟩) (some ⟨p2, 0, none⟩) (some ⟨p3, 0, none⟩) (some ⟨gd, 0, none⟩) k0 k1 k2 k3 c0 c1 c2 c3 cd _ _ _ _ _ _ _ _ mdD w6 (fun e he => by
                  simp only [List.mem_cons, List.not_mem_nil, or_false] at he
                  rcases he with rfl | rfl | rfl | rfl | rfl | rfl | rfl | rfl | rfl
                  · exact hf0
                  · exact hf1
                  · exact hf2
                  · exact hf3
                  · exact (HF0.out.below hE.below)
                  · exact (HF1.out.below hE.below)
                  · exact (HF2.out.below hE.below)
                  · exact (HF3.out.below hE.below)
                  · exact (HFD.out.below hE.below))
          have HPO : Hid (PtW w6 G #[.slice (some ⟨h0, 0, none⟩) 16 k0, .slice (some ⟨h1, 0, none⟩) 16 k1, .slice (some ⟨h2, 0, none⟩) 16 k2, .slice (some ⟨h3, 0, none⟩) 16 k3]) := hp
          have HPB : Hid (PtW w6 w.heap.size #[.slice (some ⟨p0, 0, none⟩) 16 c0, .slice (some ⟨p1, 0, none⟩) 16 c1, .slice (some ⟨p2, 0, none⟩) 16 c2, .slice (some ⟨p3, 0, none⟩) 16 c3]) := hE.pb
          clear hp hf0 hf1 hf2 hf3 hne hE HO
          go_wp2_with (first
            | (refine wpList_load_row rfl 76 (.tmp 7) rfl G rfl 76 _ (0, 0) _ HPO.out Try.underlying76 rfl Try.sizePt ?_)
            | (refine wpList_load_row rfl 76 (.tmp 4) rfl w.heap.size rfl 76 _ (0, 0) _ HPB.out Try.underlying76 rfl Try.sizePt ?_)
            | fail)
          refine CS.mono ?_
          intro e w8 h8
          have h8b : Below w6.heap.size w6 w8 := by obtain ⟨_, _, _, _, _, _, _, _, _, _, _, _, _, b, _⟩ := h8; exact b
          have h8e : ∃ v, e = .returned v := by obtain ⟨_, _, _, _, _, _, _, _, r, _⟩ := h8; exact ⟨_, r⟩
          obtain ⟨v8, rfl⟩ := h8e
          have hput := fun w9 => OutS.put (B := w.heap.size + 1) (w6 := w9) (P := F4 Q Q) (Q := P) HPO.out.lt HE.out.gt h8
          obtain ⟨s0, s1, s2, s3, rfl, hone, _⟩ := hput w8
          have HPT : Hid (∀ w9, PtW w9 G #[s0, s1, s2, s3] → Wr G w8 w9 → OutS (w.heap.size + 1) w9 G (F4 (F4 Q Q) P)) := fun w9 hp hw => by
            obtain ⟨q0, q1, q2, q3, e, _, k⟩ := hput w9
            cases e; exact k hp hw
          have HON : Hid (s0.oneCell' = true ∧ s1.oneCell' = true ∧ s2.oneCell' = true ∧ s3.oneCell' = true) := hone
          have HP8 : Hid (PtW w8 G #[.slice (some ⟨h0, 0, none⟩) 16 k0, .slice (some ⟨h1, 0, none⟩) 16 k1, .slice (some ⟨h2, 0, none⟩) 16 k2, .slice (some ⟨h3, 0, none⟩) 16 k3]) := HPO.out.below h8b HPO.out.lt
          have HE8 : Hid (TmE w #[.slice (some ⟨p0, 0, none⟩) 16 c0, .slice (some ⟨p1, 0, none⟩) 16 c1, .slice (some ⟨p2, 0, none⟩) 16 c2, .slice (some ⟨p3, 0, none⟩) 16 c3] G w8) := HE.out.call h8b
          clear h8 h8b hput hone CS HE HPO HPB
          go_wp2_with (first
            | (refine wpList_storePt rfl (.tmp 7) (.tmp 40) rfl G s0 s1 s2 s3 _ HON.out.1 HON.out.2.1 HON.out.2.2.1 HON.out.2.2.2 rfl rfl rfl HP8.out ?_)
            | fail)
          intro w9 hp9 hw9
          have HO9 : Hid (OutS (w.heap.size + 1) w9 G (F4 (F4 Q Q) P)) := HPT.out w9 hp9 hw9
          have HE9 : Hid (TmE w #[.slice (some ⟨p0, 0, none⟩) 16 c0, .slice (some ⟨p1, 0, none⟩) 16 c1, .slice (some ⟨p2, 0, none⟩) 16 c2, .slice (some ⟨p3, 0, none⟩) 16 c3] G w9) := HE8.out.wr hw9
          clear hp9 hw9 HPT HON HP8 HE8
          go_wp2
          go_roundw
          case rel => exact ⟨i, by omega, by go_num, by rw [HN.out], HE9.out, by rw [HN.out]; exact HO9.out⟩
          case measure => simp [intOf]
    · have hj00 : j = 0 := by omega
      subst hj00
      obtain ⟨h0, k0, h1, k1, h2, k2, h3, k3, hp, hf0, hf1, hf2, hf3, hne⟩ := hO
      have HNE : Hid (h0 ≠ w.heap.size + 1 ∧ h1 ≠ w.heap.size + 1 ∧ h2 ≠ w.heap.size + 1 ∧ h3 ≠ w.heap.size + 1) := by obtain ⟨_, q1, q2, q3, q4⟩ := hne; exact ⟨by omega, by omega, by omega, by omega⟩
      clear hne
      have HPO : Hid (PtW wr G #[.slice (some ⟨h0, 0, none⟩) 16 k0, .slice (some ⟨h1, 0, none⟩) 16 k1, .slice (some ⟨h2, 0, none⟩) 16 k2, .slice (some ⟨h3, 0, none⟩) 16 k3]) := hp
      have HRS : Hid (PtW wr (w.heap.size + 1) #[.slice none 0 0, .slice none 0 0, .slice none 0 0, .slice none 0 0]) := hE.rs
      have HFF : Hid (FeA wr (some ⟨h0, 0, none⟩) (M 256).1.1 ∧ FeA wr (some ⟨h1, 0, none⟩) (M 256).1.2.1 ∧ FeA wr (some ⟨h2, 0, none⟩) (M 256).1.2.2.1 ∧ FeA wr (some ⟨h3, 0, none⟩) (M 256).1.2.2.2 ∧ Below w.heap.size w wr) := ⟨hf0, hf1, hf2, hf3, hE.below⟩
      clear hp hf0 hf1 hf2 hf3
      go_wp2_with (first
        | (refine wpList_load_row rfl 76 (.tmp 7) rfl G rfl 76 _ (0, 0) _ HPO.out Try.underlying76 rfl Try.sizePt ?_)
        | (refine wpList_storePt rfl (.tmp 6) (.tmp 41) rfl (w.heap.size + 1) _ _ _ _ _ rfl rfl rfl rfl rfl rfl rfl HRS.out ?_)
        | fail)
      intro w7 hp7 hw7
      have HP7 : Hid (PtW w7 (w.heap.size + 1) #[.slice (some ⟨h0, 0, none⟩) 16 k0, .slice (some ⟨h1, 0, none⟩) 16 k1, .slice (some ⟨h2, 0, none⟩) 16 k2, .slice (some ⟨h3, 0, none⟩) 16 k3]) := hp7
      have HF7 : Hid (TimP w (M 256).1 (.returned (.agg #[.slice (some ⟨h0, 0, none⟩) 16 k0, .slice (some ⟨h1, 0, none⟩) 16 k1, .slice (some ⟨h2, 0, none⟩) 16 k2, .slice (some ⟨h3, 0, none⟩) 16 k3])) w7) := by
        obtain ⟨q1, q2, q3, q4, q5⟩ := HFF.out
        exact ⟨h0, k0, h1, k1, h2, k2, h3, k3, rfl, q1.wr hw7 HNE.out.1, q2.wr hw7 HNE.out.2.1, q3.wr hw7 HNE.out.2.2.1, q4.wr hw7 HNE.out.2.2.2, q5.trans (hw7.below (by omega))⟩
      clear hp7 hw7 HPO HRS HFF HNE
      go_wp2
      exact bodyPost_ret (v := .agg #[.slice (some ⟨h0, 0, none⟩) 16 k0, .slice (some ⟨h1, 0, none⟩) 16 k1, .slice (some ⟨h2, 0, none⟩) 16 k2, .slice (some ⟨h3, 0, none⟩) 16 k3]) (results_cell_row rfl _ _ (w.heap.size + 1) 76 _ (0, 0) _ rfl HP7.out Try.underlying76 rfl Try.sizePt) rfl HF7.out
theorem ltimes_any (kp : Option Addr) (kc : Nat) (ks : List Int) (p0 p1 p2 p3 gd c0 c1 c2 c3 cd : Nat) (P : Q4) (w : World) (hk : ks.length = 32) (hb : Byte ks) (ha : At .u8 w kp ks)
    (h0 : FeA w (some ⟨p0, 0, none⟩) P.1) (h1 : FeA w (some ⟨p1, 0, none⟩) P.2.1) (h2 : FeA w (some ⟨p2, 0, none⟩) P.2.2.1) (h3 : FeA w (some ⟨p3, 0, none⟩) P.2.2.2) (hd : FeA w (some ⟨gd, 0, none⟩) mdD) :
    Calls Try.prog 69 #[.slice kp 32 kc, .agg #[.slice (some ⟨p0, 0, none⟩) 16 c0, .slice (some ⟨p1, 0, none⟩) 16 c1, .slice (some ⟨p2, 0, none⟩) 16 c2, .slice (some ⟨p3, 0, none⟩) 16 c3], .slice (some ⟨gd, 0, none⟩) 16 cd] w (TimP w (mS (val 256 ks) P 256).1) :=
  ltimes_gen (mS (val 256 ks) P) kp kc ks p0 p1 p2 p3 gd c0 c1 c2 c3 cd P w hk hb ha h0 h1 h2 h3 hd rfl (fun n Q b h => by simp only [mS, h])
end Go.Proofs.Ythghkfncpdnpoac
namespace Go.Proofs.Ythghkfncpdnpoac
open Go.ChangeShapes Go.WideShapes Go.ChangeAt Go.RowKit
set_option linter.unusedVariables false

def ptQ (zs : List Int) : Q4 := (mX zs mdD, mY zs, 1 % fp, mX zs mdD * mY zs % fp)
open Classical in
/-- The answer's bytes. -/
noncomputable def muZ (ks zs : List Int) : List Int := if h : ∃ rs : List Int, (ks.length = 32 ∧ mB zs mdD = true) ∧ Byte rs ∧ rs.length = 32 ∧ val 256 rs = muV (val 256 ks) (ptQ zs) then h.choose else []
theorem muZ_eq {ks zs rs : List Int} (hn : ks.length = 32 ∧ mB zs mdD = true) (hb : Byte rs) (hl : rs.length = 32) (hv : val 256 rs = muV (val 256 ks) (ptQ zs)) : muZ ks zs = rs := by
  have hex : ∃ rs : List Int, (ks.length = 32 ∧ mB zs mdD = true) ∧ Byte rs ∧ rs.length = 32 ∧ val 256 rs = muV (val 256 ks) (ptQ zs) := ⟨rs, hn, hb, hl, hv⟩
  unfold muZ
  rw [dif_pos hex]
  obtain ⟨h0, h1, h2, h3⟩ := hex.choose_spec
  exact val_inj (B := 256) (by decide) h1 hb (by omega) (by rw [h3, hv])
theorem muZ_no {ks zs : List Int} (hn : ¬ (ks.length = 32 ∧ mB zs mdD = true)) : muZ ks zs = [] := by
  unfold muZ; rw [dif_neg]; rintro ⟨rs, h, _⟩; exact hn h
theorem muZ_len (ks zs : List Int) : (muZ ks zs).length ≤ 32 := by
  unfold muZ; split
  · next h => exact Nat.le_of_eq h.choose_spec.2.2.1
  · simp
/-- What the program's PointMul answers. -/
def PmuP (w : World) (ks zs : List Int) (e : Ending) (w' : World) : Prop := ∃ v, e = .returned v ∧ ResO w.heap.size w' v (muZ ks zs) ∧ Below w.heap.size w w'
/-- What the model's PointMul answers. -/
def SmP (w : World) (ks zs : List Int) (e : Ending) (w' : World) : Prop := ∃ b o c, e = .returned (.slice (some ⟨b, o, none⟩) (muZ ks zs).length c) ∧ b < w'.heap.size ∧ At .u8 w' (some ⟨b, o, none⟩) (muZ ks zs) ∧ Below w.heap.size w w'

set_option maxRecDepth 100000 in
set_option maxHeartbeats 4000000 in
theorem smul_any (q p : Option Addr) (m cap' n cap : Nat) (ks zs : List Int) (w : World) (hn' : ks.length = m) (hm' : m ≤ 1048576) (ha' : At .u8 w q ks) (hy : Byte ks) (hn : zs.length = n) (hm : n ≤ 1048576) (ha : At .u8 w p zs) (hz : Byte zs) :
    Calls Try.prog 29 #[.slice q m cap', .slice p n cap] w (SmP w ks zs) := by
  have HA : Hid (At .u8 w p zs) := ha
  have HA' : Hid (At .u8 w q ks) := ha'
  clear ha ha'
  go_enter Try.func29, Try.ntmps29
  go_wp2_with fail
  refine (d_any _).mono ?_
  rintro e w1 ⟨g1, c1, rfl, k1, l1, hf, hb⟩
  have HB : Hid (Below w.heap.size w w1) := hb
  have ha1 := HA.out.below hb
  have HA1 : Hid (At .u8 w1 q ks) := HA'.out.below hb
  have HD1 : Hid (FeA w1 (some ⟨g1, 0, none⟩) mdD) := hf
  clear hb HA HA'
  go_wp2_with fail
  refine (decodeS_any p _ n cap c1 zs mdD _ hn hm ha1 hz hf).mono ?_
  rintro e w2 ⟨s1, s2, s3, s4, rfl, hb2, hone, hok⟩
  have HON : Hid (s1.oneCell' = true ∧ s2.oneCell' = true ∧ s3.oneCell' = true ∧ s4.oneCell' = true) := hone
  have HOK : Hid (mB zs mdD = true → ∃ g1 c1 g2 c2 g3 c3 g4 c4, s1 = .slice (some ⟨g1, 0, none⟩) 16 c1 ∧ s2 = .slice (some ⟨g2, 0, none⟩) 16 c2 ∧ s3 = .slice (some ⟨g3, 0, none⟩) 16 c3 ∧ s4 = .slice (some ⟨g4, 0, none⟩) 16 c4 ∧
      FeA w2 (some ⟨g1, 0, none⟩) (mX zs mdD) ∧ FeA w2 (some ⟨g2, 0, none⟩) (mY zs) ∧ FeA w2 (some ⟨g3, 0, none⟩) (1 % fp) ∧ FeA w2 (some ⟨g4, 0, none⟩) (mX zs mdD * mY zs % fp)) := hok
  have HPN : Hid (PtW (w2.alloc (.cells #[.slice none 0 0, .slice none 0 0, .slice none 0 0, .slice none 0 0] 76)) w2.heap.size #[.slice none 0 0, .slice none 0 0, .slice none 0 0, .slice none 0 0]) := PtW.new w2
  have HB2 : Hid (Below w.heap.size w w2) := HB.out.trans (hb2.mono HB.out.size)
  have HA2 : Hid (At .u8 w2 q ks) := HA1.out.below hb2
  have HD2 : Hid (FeA w2 (some ⟨g1, 0, none⟩) mdD) := HD1.out.below hb2
  clear hb2 HB ha1 hf hone hok HA1 HD1
  generalize hq : mB zs mdD = q1 at *
  have HQ : Hid (mB zs mdD = q1) := hq
  clear hq
  go_wp2_with (first
    | (refine wpList_storePt rfl (.tmp 7) (.tmp 14) rfl w2.heap.size s1 s2 s3 s4 _ HON.out.1 HON.out.2.1 HON.out.2.2.1 HON.out.2.2.2 rfl rfl rfl HPN.out ?_)
    | fail)
  intro w3 hp3 hw3
  have b23 : Below w2.heap.size w2 w3 := (below_new3 _ _).trans (hw3.below (Nat.le_refl _))
  have HB3 : Hid (Below w.heap.size w w3) := HB2.out.trans (b23.mono HB2.out.size)
  have HP3 : Hid (PtW w3 w2.heap.size #[s1, s2, s3, s4]) := hp3
  have HA3 : Hid (At .u8 w3 q ks) := HA2.out.below b23
  have HD3 : Hid (FeA w3 (some ⟨g1, 0, none⟩) mdD) := HD2.out.below b23
  have HOK3 : Hid (q1 = true → ∃ g1 c1 g2 c2 g3 c3 g4 c4, s1 = .slice (some ⟨g1, 0, none⟩) 16 c1 ∧ s2 = .slice (some ⟨g2, 0, none⟩) 16 c2 ∧ s3 = .slice (some ⟨g3, 0, none⟩) 16 c3 ∧ s4 = .slice (some ⟨g4, 0, none⟩) 16 c4 ∧
      FeA w3 (some ⟨g1, 0, none⟩) (mX zs mdD) ∧ FeA w3 (some ⟨g2, 0, none⟩) (mY zs) ∧ FeA w3 (some ⟨g3, 0, none⟩) (1 % fp) ∧ FeA w3 (some ⟨g4, 0, none⟩) (mX zs mdD * mY zs % fp)) := fun h => by
    obtain ⟨h1, c1, h2, c2, h3, c3, h4, c4, e1, e2, e3, e4, f1, f2, f3, f4⟩ := HOK.out h
    exact ⟨h1, c1, h2, c2, h3, c3, h4, c4, e1, e2, e3, e4, f1.below b23, f2.below b23, f3.below b23, f4.below b23⟩
  clear hw3 HB2 HPN hp3 HOK HA2 HD2 b23 HON
  generalize w2.heap.size = Ga at *
  have HEM : (¬ (m = 32 ∧ q1 = true)) → Hid (SmP w ks zs (.returned (.slice (some ⟨w3.heap.size, 0, none⟩) 0 0)) (w3.alloc (.cells #[] 5))) := fun h => by
    show SmP _ _ _ _ _
    unfold SmP
    rw [muZ_no (by rw [hn', HQ.out]; exact h)]
    exact ⟨w3.heap.size, 0, 0, rfl, by simp, .inl rfl, HB3.out.trans ((below_new3 _ _).mono HB3.out.size)⟩
  by_cases hm32 : m = 32
  · subst hm32
    cases q1 with
    | false =>
      have H := HEM (by simp)
      clear HEM
      go_wp2
      go_ret
      exact H.out
    | true =>
      clear HEM
      obtain ⟨x1, i1, x2, i2, x3, i3, x4, i4, rfl, rfl, rfl, rfl, f1, f2, f3, f4⟩ := HOK3.out rfl
      have CS := ltimes_any q cap' ks x1 x2 x3 x4 g1 i1 i2 i3 i4 c1 (ptQ zs) w3 hn' hy HA3.out f1 f2 f3 f4 HD3.out
      clear f1 f2 f3 f4 HOK3 HD3 HA3
      go_wp2_with (first
        | (refine wpList_load_row rfl 76 (.tmp 7) rfl Ga rfl 76 _ (0, 0) _ HP3.out Try.underlying76 rfl Try.sizePt ?_)
        | fail)
      refine CS.mono ?_
      rintro e w6 ⟨a1, k1, a2, k2, a3, k3, a4, k4, rfl, f1, f2, f3, f4, b6⟩
      have HC := code_any (some ⟨a1, 0, none⟩) (some ⟨a2, 0, none⟩) (some ⟨a3, 0, none⟩) (some ⟨a4, 0, none⟩) k1 k2 k3 k4 _ _ _ w6 f1 f2 f3
      have HB6 : Hid (Below w.heap.size w w6) := HB3.out.trans (b6.mono HB3.out.size)
      clear f1 f2 f3 f4 b6 CS HB3 HP3
      go_wp2_with fail
      refine HC.mono ?_
      rintro e w7 ⟨v, bs, rfl, O, hbb, hbl, hbv, b7⟩
      have hpz := muZ_eq ⟨hn', HQ.out⟩ hbb hbl (show val 256 bs = muV (val 256 ks) (ptQ zs) from hbv)
      obtain ⟨g, c, rfl, hB, hg, hA⟩ := O.at2
      have HF : Hid (SmP w ks zs (.returned (.slice (some ⟨g, 0, none⟩) bs.length c)) w7) := by
        show SmP _ _ _ _ _
        unfold SmP
        rw [hpz]
        exact ⟨g, 0, c, rfl, hg, hA, HB6.out.trans (b7.mono HB6.out.size)⟩
      clear O hbb hbl hbv b7 hpz hA HC HB6
      go_wp2
      go_ret
      exact HF.out
  · have H := HEM (fun h => hm32 h.1)
    have hm33 : ¬ ((m : Int) = 32) := by omega
    have hm34 : ((m : Int) != 32) = true := by simpa using hm33
    clear HEM HOK3
    go_wp2
    go_ret
    exact H.out

theorem mB_len2 {zs : List Int} (h : mB zs mdD = true) : zs.length = 32 ∧ mY zs < fp := by
  unfold mB at h
  simp only [Bool.and_eq_true] at h
  exact ⟨by simpa using h.1.1.1, by simpa using h.1.1.2⟩
set_option maxRecDepth 100000 in
set_option maxHeartbeats 4000000 in
theorem imul_any (q p : Option Addr) (m cap' n cap : Nat) (ks zs : List Int) (w : World) (hn' : ks.length = m) (hm' : m ≤ 1048576) (ha' : At .u8 w q ks) (hy : Byte ks) (hn : zs.length = n) (hm : n ≤ 1048576) (ha : At .u8 w p zs) (hz : Byte zs) :
    Calls Try.prog 30 #[.slice q m cap', .slice p n cap] w (PmuP w ks zs) := by
  have HB0 : Below w.heap.size w (w.alloc (.cells #[.int .u64 0, .int .u64 0, .int .u64 0, .int .u64 0, .int .u64 0, .int .u64 0, .int .u64 0, .int .u64 0, .int .u64 0, .int .u64 0, .int .u64 0, .int .u64 0, .int .u64 0, .int .u64 0, .int .u64 0, .int .u64 0, .int .u64 0, .int .u64 0, .int .u64 0, .int .u64 0] 84)) := below_new3 _ _
  have HP1 : Pt (w.alloc (.cells #[.int .u64 0, .int .u64 0, .int .u64 0, .int .u64 0, .int .u64 0, .int .u64 0, .int .u64 0, .int .u64 0, .int .u64 0, .int .u64 0, .int .u64 0, .int .u64 0, .int .u64 0, .int .u64 0, .int .u64 0, .int .u64 0, .int .u64 0, .int .u64 0, .int .u64 0, .int .u64 0] 84)) w.heap.size [0, 0, 0, 0, 0] [0, 0, 0, 0, 0] [0, 0, 0, 0, 0] [0, 0, 0, 0, 0] := ⟨heap_alloc_new w _, zero_ok, zero_ok, zero_ok, zero_ok⟩
  have ha1 := ha.below HB0
  have HNO : (¬ (ks.length = 32 ∧ mB zs mdD = true)) → ∀ wz, Below w.heap.size w wz → Hid (PmuP w ks zs (.returned (.slice none 0 0)) wz) := fun h wz hb => by
    show PmuP _ _ _ _ _
    unfold PmuP
    rw [muZ_no h]
    exact ⟨_, rfl, ⟨none, 0, rfl, .inl rfl, .inl rfl, fun ad h => by cases h⟩, hb⟩
  by_cases hm32 : m = 32
  · subst hm32
    go_enter Try.func30, Try.ntmps30
    go_wp2_with fail
    generalize w.alloc (.cells #[.int .u64 0, .int .u64 0, .int .u64 0, .int .u64 0, .int .u64 0, .int .u64 0, .int .u64 0, .int .u64 0, .int .u64 0, .int .u64 0, .int .u64 0, .int .u64 0, .int .u64 0, .int .u64 0, .int .u64 0, .int .u64 0, .int .u64 0, .int .u64 0, .int .u64 0, .int .u64 0] 84) = w0 at *
    refine (decode_any w.heap.size _ _ _ _ p n cap zs _ hn hm ha1 hz HP1).mono ?_
    rintro e w1 ⟨x1, y1, z1, t1, P1, hw1, rfl, hv1⟩
    have HB1 : Hid (Below w.heap.size w w1) := HB0.trans (hw1.below w.heap.size (Nat.le_refl _) HB0.size)
    have HA1 : Hid (At .u8 w1 q ks) := ha'.below HB1.out
    have HP1' : Hid (Pt w1 w.heap.size x1 y1 z1 t1) := P1
    have HV1 : Hid (dcR zs = true → ev x1 = dcX zs ∧ ev y1 = dcY zs ∧ ev z1 = 1 ∧ ev t1 = dcX zs * dcY zs % fp) := hv1
    clear hw1 HP1 HB0 ha1 P1 hv1 ha ha'
    have HDS : Hid (dcR zs = mB zs mdD) := dec_same zs hz
    rw [HDS.out]
    cases hb : mB zs mdD with
    | false =>
      have H := HNO (by rw [hb]; simp) w1 HB1.out
      clear HNO HB1 HA1 HP1' HV1
      go_wp2
      go_ret
      exact H.out
    | true =>
      obtain ⟨e1, e2, e3, e4⟩ := HV1.out (by rw [HDS.out]; exact hb)
      have q1 := decX_same zs (mB_len2 hb).1 hz (mB_len2 hb).2
      have HE : Hid (((ev x1, ev y1, ev z1, ev t1) : Q4) = ptQ zs) := by
        show _ = _
        unfold ptQ
        rw [e1, q1, e2, e3, e4, q1]; rfl
      clear e1 e2 e3 e4 q1 HV1 HNO
      go_wp2_with fail
      refine (nof_any q 32 cap' ks _ hn' (by decide) (by decide) HA1.out hy).mono ?_
      rintro e w2 ⟨ms, hl, hw, hv, rfl, b2⟩
      rw [List.take_of_length_le (by omega)] at hv
      have HB2 : Hid (Below w.heap.size w w2) := HB1.out.trans (b2.mono HB1.out.size)
      have HP2 : Hid (Pt w2 w.heap.size x1 y1 z1 t1) := HP1'.out.below b2 HP1'.out.row.lt
      have CM := multiply_any w.heap.size x1 y1 z1 t1 ms w2 HP2.out hl hw
      rw [HE.out, hv] at CM
      have hrd : Rd (ptQ zs) := by rw [← HE.out]; exact ⟨ev_bd _, ev_bd _, ev_bd _, ev_bd _⟩
      have HMV : Hid (cdV (pS (val 256 ks) (ptQ zs) 256).1 (pS (val 256 ks) (ptQ zs) 256).2.1 (pS (val 256 ks) (ptQ zs) 256).2.2.1 = muV (val 256 ks) (ptQ zs)) := muV_prog _ _ hrd
      clear b2 HB1 HA1 HP1' hl hw hv HE hrd
      go_wp2_with fail
      refine CM.mono ?_
      rintro e w3 ⟨x, y, z, t, P3, hw3, rfl, hq⟩
      have HB3 : Hid (Below w.heap.size w w3) := HB2.out.trans (hw3.below w.heap.size (Nat.le_refl _) HB2.out.size)
      have HP3 : Hid (Pt w3 w.heap.size x y z t) := P3
      have HCV : Hid (cdV (ev x) (ev y) (ev z) = muV (val 256 ks) (ptQ zs)) := by
        show _ = _
        rw [← HMV.out, ← hq]
      clear P3 hw3 HB2 HP2 CM hq HMV
      go_wp2_with fail
      refine (pcode_any w.heap.size x y z t _ HP3.out).mono ?_
      rintro e w4 ⟨ms, hl, hw, hv, rfl, b4⟩
      rw [HCV.out] at hv
      have HB4 : Hid (Below w.heap.size w w4) := HB3.out.trans (b4.mono HB3.out.size)
      match ms, hl with
      | [n0, n1, n2, n3], _ =>
      have HN : Hid (RowW (w4.alloc (.cells #[.int .u64 n0, .int .u64 n1, .int .u64 n2, .int .u64 n3] 100)) w4.heap.size 100 [n0, n1, n2, n3]) := heap_alloc_new w4 _
      have HB5 : Hid (Below w.heap.size w (w4.alloc (.cells #[.int .u64 n0, .int .u64 n1, .int .u64 n2, .int .u64 n3] 100))) := HB4.out.trans ((below_new3 _ _).mono HB4.out.size)
      have HW : Hid (Wrd [n0, n1, n2, n3] ∧ val 18446744073709551616 [n0, n1, n2, n3] = muV (val 256 ks) (ptQ zs)) := ⟨hw, hv⟩
      clear b4 HB3 HP3 hw hv HCV HB4
      simp only [List.map_cons, List.map_nil]
      go_wp2_with fail
      generalize w4.alloc (.cells #[.int .u64 n0, .int .u64 n1, .int .u64 n2, .int .u64 n3] 100) = w5 at *
      refine (text_any w4.heap.size [n0, n1, n2, n3] _ rfl HN.out HW.out.1).mono ?_
      rintro e w6 ⟨bs, hbl, hbb, hbv, rfl, O, b6⟩
      have HF : Hid (PmuP w ks zs (.returned (.slice (some ⟨w5.heap.size, 0, none⟩) 32 32)) w6) := by
        show PmuP _ _ _ _ _
        unfold PmuP
        rw [muZ_eq ⟨hn', hb⟩ hbb hbl (by rw [hbv]; exact HW.out.2)]
        have R := own_res O
        obtain ⟨a, c, e, r1, r2, r3⟩ := R
        exact ⟨_, rfl, ⟨a, c, e, r1, r2, fun ad h => Nat.le_trans HB5.out.size (r3 ad h)⟩, HB5.out.trans (b6.mono HB5.out.size)⟩
      clear hbl hbb hbv O b6 HN HW HB5
      go_wp2
      go_ret
      exact HF.out
  · have H := HNO (fun h => hm32 (by omega)) _ HB0
    have hm33 : ¬ ((m : Int) = 32) := by omega
    have hm34 : ((m : Int) != 32) = true := by simpa using hm33
    clear HNO HP1 ha1 HB0
    go_enter Try.func30, Try.ntmps30
    go_wp2
    go_ret
    exact H.out
end Go.Proofs.Ythghkfncpdnpoac
