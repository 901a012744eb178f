/-
  Own work: multiples of a point, by the program.
-/
import Derived.Test.YtdaglofgioehhaaMuM
import Derived.Test.YtdaglofgioehhaaMVal
import Derived.Test.YtdaglofgioehhaaMBytes
namespace Go.Proofs.Ytdaglofgioehhaa
open Go.ChangeShapes Go.WideShapes Go.ChangeAt Go.RowKit
set_option linter.unusedVariables false

theorem word_bit (ns : List Int) (hw : Wrd ns) (i : Nat) : ns.getD (i / 64) 0 / 2 ^ (i % 64) % 2 = val 18446744073709551616 ns / 2 ^ i % 2 := by
  have hd := val_digit (B := 18446744073709551616) (by decide) hw (i / 64)
  rw [← hd]
  generalize val 18446744073709551616 ns = V
  have e1 : (18446744073709551616 : Int) ^ (i / 64) = 2 ^ (64 * (i / 64)) := by rw [Int.pow_mul]; rfl
  have e2 : (2 : Int) ^ i = 2 ^ (64 * (i / 64)) * 2 ^ (i % 64) := by rw [← Int.pow_add]; congr 1; omega
  have hp : (0 : Int) ≤ 2 ^ (64 * (i / 64)) := Int.le_of_lt (Int.pow_pos (by decide))
  rw [e1, e2, ← Int.ediv_ediv_of_nonneg hp]
  generalize V / 2 ^ (64 * (i / 64)) = U
  have e3 : (18446744073709551616 : Int) = 2 ^ (i % 64) * 2 ^ (64 - i % 64) := by
    rw [← Int.pow_add, show i % 64 + (64 - i % 64) = 64 by omega]; rfl
  have h1 : 0 < 64 - i % 64 := by omega
  rw [e3]
  have hq : (0 : Int) < 2 ^ (i % 64) := Int.pow_pos (by decide)
  rw [Int.emod_def U, Int.mul_assoc, Int.sub_eq_add_neg, ← Int.mul_neg, Int.add_mul_ediv_left _ _ (by omega)]
  obtain ⟨m, hm⟩ : ∃ m, 64 - i % 64 = m + 1 := ⟨63 - i % 64, by omega⟩
  rw [hm, Int.pow_succ]
  generalize U / 2 ^ (i % 64) = A
  generalize U / (2 ^ (i % 64) * (2 ^ m * 2)) = B
  rw [show -(2 ^ m * 2 * B) = 2 * (-(2 ^ m * B)) by grind, Int.add_mul_emod_self_left]

set_option maxHeartbeats 1000000 in
theorem bit_any (g : Nat) (ns : List Int) (i : Nat) (w : World) (hl : ns.length = 4) (hi : i < 256) (hr : RowW w g 36 ns) (hw : Wrd ns) :
    Calls Try.prog 53 #[.pointer (some ⟨g, 0, none⟩), .int .i64 i] w fun e w' => e = .returned (.int .u64 (val 18446744073709551616 ns / 2 ^ i % 2)) ∧ w' = w := by
  have c3 := hr.cell (i / 64) (by omega)
  obtain ⟨h0, h1⟩ := hw.get (i / 64)
  have HB : Hid (ns.getD (i / 64) 0 / 2 ^ (i % 64) % 2 = val 18446744073709551616 ns / 2 ^ i % 2) := word_bit ns hw i
  have hp : (0 : Int) < 2 ^ (i % 64) := Int.pow_pos (by decide)
  have HA : Hid (bits .and .u64 (ns.getD (i / 64) 0 / 2 ^ (i % 64)) 1 = ns.getD (i / 64) 0 / 2 ^ (i % 64) % 2) := by
    have q0 : 0 ≤ ns.getD (i / 64) 0 / 2 ^ (i % 64) := Int.ediv_nonneg h0 (by omega)
    have q1 : ns.getD (i / 64) 0 / 2 ^ (i % 64) ≤ ns.getD (i / 64) 0 := Int.ediv_le_self _ h0
    exact u64_and_mask _ 1 q0 (by omega) 1 (by decide) (by decide)
  have hlt : (i : Int) / 64 < 4 := by omega
  have hi' : (i : Int) < 256 := by omega
  clear hr hw hl hp
  generalize ns.getD (i / 64) 0 = x at *
  go_enter Try.func53, Try.ntmps53
  go_wp2
  rw [HA.out, HB.out]
  go_ret
  exact ⟨rfl, rfl⟩

theorem AddP.q4 {w : World} {g : Nat} {X1 Y1 Z1 T1 X2 Y2 Z2 T2 : Int} {e : Ending} {w' : World} (h : AddP w g X1 Y1 Z1 T1 X2 Y2 Z2 T2 e w') :
    ∃ x y z t, Pt w' g x y z t ∧ WrH g w w' ∧ e = .returned (.tuple #[]) ∧ ((ev x, ev y, ev z, ev t) : Q4) = F4 (X1, Y1, Z1, T1) (X2, Y2, Z2, T2) := by
  obtain ⟨x, y, z, t, h1, h2, h3, h4, h5, h6, h7⟩ := h
  exact ⟨x, y, z, t, h1, h2, h3, by rw [h4, h5, h6, h7]; rfl⟩
theorem Pt.wrh2 {w w' : World} {g V : Nat} {x y z t : List Int} (h : Pt w g x y z t) (hw : WrH V w w') (hne : g ≠ V) : Pt w' g x y z t := ⟨hw.rowW h.row hne, h.x, h.y, h.z, h.t⟩
/-- What multiply leaves. -/
def MulP (w : World) (g : Nat) (Q : Q4) (e : Ending) (w' : World) : Prop :=
  ∃ x y z t, Pt w' g x y z t ∧ WrH g w w' ∧ e = .returned (.tuple #[]) ∧ ((ev x, ev y, ev z, ev t) : Q4) = Q
structure MuS (w : World) (g : Nat) (x y z t ns : List Int) (Q : Q4) (wr : World) : Prop where
  below : Below w.heap.size w wr
  num : RowW wr w.heap.size 36 ns
  pt : Pt wr g x y z t
  lt : g < w.heap.size
  sum : ∃ a b c d, Pt wr (w.heap.size + 1 + 1) a b c d ∧ ((ev a, ev b, ev c, ev d) : Q4) = Q
theorem ev_id : ((ev [0, 0, 0, 0, 0], ev [1, 0, 0, 0, 0], ev [1, 0, 0, 0, 0], ev [0, 0, 0, 0, 0]) : Q4) = idQ := by decide
theorem heap_third (w : World) (o1 o2 o3 : Obj) : (((w.alloc o1).alloc o2).alloc o3).heap[w.heap.size + 1 + 1]? = some o3 := by
  have := heap_alloc_new ((w.alloc o1).alloc o2) o3
  rwa [show ((w.alloc o1).alloc o2).heap.size = w.heap.size + 1 + 1 by simp] at this
def z20 : List Int := [0, 0, 0, 0, 0, 0, 0, 0, 0, 0, 0, 0, 0, 0, 0, 0, 0, 0, 0, 0]
theorem one_ok2 : EOk [1, 0, 0, 0, 0] := one_ok
theorem Try.sizePoint2 : (Try.prog.info? 45).map (·.size) = some 20 := by kernel_rfl

set_option maxRecDepth 100000 in
set_option maxHeartbeats 4000000 in
theorem multiply_gen (S : Nat → Q4) (g : Nat) (x y z t ns : List Int) (w : World) (hp : Pt w g x y z t) (hl : ns.length = 4) (hw : Wrd ns) (hS0 : Hid (S 0 = idQ))
    (hSs : Hid (∀ n, S (n + 1) = bif vbit (val 18446744073709551616 ns) (255 - n) then F4 (F4 (S n) (S n)) (ev x, ev y, ev z, ev t) else F4 (S n) (S n))) :
    Calls Try.prog 36 #[.pointer (some ⟨g, 0, none⟩), .agg (ns.map (Value.int .u64)).toArray] w (MulP w g (S 256)) := by
  match ns, hl with
  | [n0, n1, n2, n3], _ =>
  have HB : Hid (Below w.heap.size w (((w.alloc (.cells #[.int .u64 n0, .int .u64 n1, .int .u64 n2, .int .u64 n3] 36)).alloc (.cells #[.int .u64 1, .int .u64 0, .int .u64 0, .int .u64 0, .int .u64 0] 43)).alloc (.cells #[.int .u64 0, .int .u64 0, .int .u64 0, .int .u64 0, .int .u64 0, .int .u64 0, .int .u64 0, .int .u64 0, .int .u64 0, .int .u64 0, .int .u64 0, .int .u64 0, .int .u64 0, .int .u64 0, .int .u64 0, .int .u64 0, .int .u64 0, .int .u64 0, .int .u64 0, .int .u64 0] 45))) := (((Below.refl _ _).alloc (Nat.le_refl _) _).alloc (by simp) _).alloc (by simp; omega) _
  have HNR : Hid (RowW (((w.alloc (.cells #[.int .u64 n0, .int .u64 n1, .int .u64 n2, .int .u64 n3] 36)).alloc (.cells #[.int .u64 1, .int .u64 0, .int .u64 0, .int .u64 0, .int .u64 0] 43)).alloc (.cells #[.int .u64 0, .int .u64 0, .int .u64 0, .int .u64 0, .int .u64 0, .int .u64 0, .int .u64 0, .int .u64 0, .int .u64 0, .int .u64 0, .int .u64 0, .int .u64 0, .int .u64 0, .int .u64 0, .int .u64 0, .int .u64 0, .int .u64 0, .int .u64 0, .int .u64 0, .int .u64 0] 45)) w.heap.size 36 [n0, n1, n2, n3]) := by
    show _ = _
    rw [Below.heap_alloc _ _ w.heap.size (by simp; omega), Below.heap_alloc _ _ w.heap.size (by simp)]; exact heap_alloc_new w _
  have HZR : Hid (RowW (((w.alloc (.cells #[.int .u64 n0, .int .u64 n1, .int .u64 n2, .int .u64 n3] 36)).alloc (.cells #[.int .u64 1, .int .u64 0, .int .u64 0, .int .u64 0, .int .u64 0] 43)).alloc (.cells #[.int .u64 0, .int .u64 0, .int .u64 0, .int .u64 0, .int .u64 0, .int .u64 0, .int .u64 0, .int .u64 0, .int .u64 0, .int .u64 0, .int .u64 0, .int .u64 0, .int .u64 0, .int .u64 0, .int .u64 0, .int .u64 0, .int .u64 0, .int .u64 0, .int .u64 0, .int .u64 0] 45)) (w.heap.size + 1 + 1) 45 z20) := heap_third w _ _ _
  have HER : Hid (EAt ((w.alloc (.cells #[.int .u64 n0, .int .u64 n1, .int .u64 n2, .int .u64 n3] 36)).alloc (.cells #[.int .u64 1, .int .u64 0, .int .u64 0, .int .u64 0, .int .u64 0] 43)) (w.heap.size + 1) 0 [1, 0, 0, 0, 0]) := by
    have r : RowW ((w.alloc (.cells #[.int .u64 n0, .int .u64 n1, .int .u64 n2, .int .u64 n3] 36)).alloc (.cells #[.int .u64 1, .int .u64 0, .int .u64 0, .int .u64 0, .int .u64 0] 43)) (w.heap.size + 1) 43 [1, 0, 0, 0, 0] := by
      have := heap_alloc_new (w.alloc (.cells #[.int .u64 n0, .int .u64 n1, .int .u64 n2, .int .u64 n3] 36)) (.cells #[.int .u64 1, .int .u64 0, .int .u64 0, .int .u64 0, .int .u64 0] 43)
      rwa [show (w.alloc (.cells #[.int .u64 n0, .int .u64 n1, .int .u64 n2, .int .u64 n3] 36)).heap.size = w.heap.size + 1 by simp] at this
    exact EAt.of_row r one_ok2
  have HPT : Hid (Pt w g x y z t) := hp
  have HWD : Hid (Wrd [n0, n1, n2, n3]) := hw
  clear hp hw
  simp only [List.map_cons, List.map_nil]
  go_enter Try.func36, Try.ntmps36
  go_wp2_with (first
    | (refine wpList_loadE rfl (.tmp 4) rfl (w.heap.size + 1) 0 [1, 0, 0, 0, 0] rfl HER.out ?_)
    | (refine wpList_storeP rfl (.tmp 5) (.tmp 10) rfl (w.heap.size + 1 + 1) [0, 0, 0, 0, 0] [1, 0, 0, 0, 0] [1, 0, 0, 0, 0] [0, 0, 0, 0, 0] z20 rfl rfl zero_ok one_ok2 one_ok2 zero_ok rfl HZR.out ?_)
    | fail)
  intro w0 hp0 hw0
  have HS : Hid (MuS w g x y z t [n0, n1, n2, n3] (S 0) w0) := by
    have b0 : Below w.heap.size w w0 := HB.out.trans (hw0.below (by omega))
    exact ⟨b0, hw0.rowW HNR.out (by omega), HPT.out.below b0 HPT.out.row.lt, HPT.out.row.lt, [0, 0, 0, 0, 0], [1, 0, 0, 0, 0], [1, 0, 0, 0, 0], [0, 0, 0, 0, 0], hp0, by rw [hS0.out]; exact ev_id⟩
  clear hp0 hw0 HB HNR HZR HER
  go_wp2_with fail
  go_loopw [6] (fun i wr => ∃ j : Nat, j ≤ 256 ∧ i = .int .i64 ((j : Int) - 1) ∧ MuS w g x y z t [n0, n1, n2, n3] (S (256 - j)) wr) (fun i _ => (intOf i + 1).toNat)
  case atStart => exact ⟨256, Nat.le_refl _, by go_num, by rw [Nat.sub_self]; exact HS.out⟩
  case round =>
    clear HS
    obtain ⟨j, hj, rfl, hst⟩ := hrel
    by_cases hj0 : 0 < j
    · obtain ⟨i, rfl⟩ : ∃ i, j = i + 1 := ⟨j - 1, by omega⟩
      have ei : ((i + 1 : Nat) : Int) - 1 = (i : Int) := by omega
      rw [ei]
      clear ei
      obtain ⟨hbel, hnum, hpt, hlt, a, b, c, d, hsum, hq⟩ := hst
      have HST : Hid (Below w.heap.size w wr ∧ RowW wr w.heap.size 36 [n0, n1, n2, n3] ∧ Pt wr g x y z t ∧ g < w.heap.size ∧ Pt wr (w.heap.size + 1 + 1) a b c d ∧ ((ev a, ev b, ev c, ev d) : Q4) = S (256 - (i + 1))) := ⟨hbel, hnum, hpt, hlt, hsum, hq⟩
      clear hbel hnum hpt hlt hsum hq
      go_wp2_with fail
      refine (add_any (w.heap.size + 1 + 1) (w.heap.size + 1 + 1) a b c d a b c d _ HST.out.2.2.2.2.1 HST.out.2.2.2.2.1).mono ?_
      intro e w2 h2
      obtain ⟨a2, b2, c2, d2, p2, hw2, rfl, q2⟩ := h2.q4
      obtain ⟨s1, s2, s3, s4, s5, s6⟩ := HST.out
      have HST2 : Hid (Below w.heap.size w w2 ∧ RowW w2 w.heap.size 36 [n0, n1, n2, n3] ∧ Pt w2 g x y z t ∧ g < w.heap.size ∧ Pt w2 (w.heap.size + 1 + 1) a2 b2 c2 d2 ∧ ((ev a2, ev b2, ev c2, ev d2) : Q4) = F4 (S (256 - (i + 1))) (S (256 - (i + 1)))) :=
        ⟨s1.trans (hw2.below w.heap.size (by omega) s1.size), hw2.rowW s2 (by omega), s3.wrh2 hw2 (by omega), s4, p2, by rw [q2, s6]⟩
      clear h2 p2 hw2 q2 s1 s2 s3 s4 s5 s6 HST
      go_wp2_with fail
      refine (bit_any w.heap.size [n0, n1, n2, n3] i _ rfl (by omega) HST2.out.2.1 HWD.out).mono ?_
      rintro e w3 ⟨rfl, rfl⟩
      have hv : val 18446744073709551616 [n0, n1, n2, n3] / 2 ^ i % 2 = 0 ∨ val 18446744073709551616 [n0, n1, n2, n3] / 2 ^ i % 2 = 1 := by omega
      have en : 256 - i = 256 - (i + 1) + 1 := by omega
      have en2 : 255 - (256 - (i + 1)) = i := by omega
      rcases hv with hv | hv
      · have hvb : vbit (val 18446744073709551616 [n0, n1, n2, n3]) i = false := by unfold vbit; rw [hv]; rfl
        have HN : Hid (MuS w g x y z t [n0, n1, n2, n3] (S (256 - i)) w3) := by
          obtain ⟨s1, s2, s3, s4, s5, s6⟩ := HST2.out
          refine ⟨s1, s2, s3, s4, a2, b2, c2, d2, s5, ?_⟩
          rw [s6, en, hSs.out, en2, hvb]; rfl
        rw [hv]
        clear hv HST2 en en2 hvb
        go_wp2
        go_roundw
        case rel => exact ⟨i, by omega, by go_num, HN.out⟩
        case measure => simp [intOf]
      · have hvb : vbit (val 18446744073709551616 [n0, n1, n2, n3]) i = true := by unfold vbit; rw [hv]; rfl
        rw [hv]
        clear hv
        go_wp2_with fail
        refine (add_any (w.heap.size + 1 + 1) g a2 b2 c2 d2 x y z t _ HST2.out.2.2.2.2.1 HST2.out.2.2.1).mono ?_
        intro e w4 h4
        obtain ⟨a4, b4, c4, d4, p4, hw4, rfl, q4⟩ := h4.q4
        have HN : Hid (MuS w g x y z t [n0, n1, n2, n3] (S (256 - i)) w4) := by
          obtain ⟨s1, s2, s3, s4, s5, s6⟩ := HST2.out
          refine ⟨s1.trans (hw4.below w.heap.size (by omega) s1.size), hw4.rowW s2 (by omega), s3.wrh2 hw4 (by omega), s4, a4, b4, c4, d4, p4, ?_⟩
          rw [q4, s6, en, hSs.out, en2, hvb]; rfl
        clear HST2 en en2 hvb h4 p4 hw4 q4
        go_wp2
        go_roundw
        case rel => exact ⟨i, by omega, by go_num, HN.out⟩
        case measure => simp [intOf]
    · have hj00 : j = 0 := by omega
      subst hj00
      obtain ⟨hbel, hnum, hpt, hlt, a, b, c, d, hsum, hq⟩ := hst
      rw [Nat.sub_zero] at hq
      have HL : Hid (wr.heap[w.heap.size + 1 + 1]? = some (.cells ((pl a b c d).map (Value.int .u64)).toArray 45 (0, 0))) := hsum.row
      have HPX : Hid ((pl x y z t).length = 20) := by show _ = _; unfold pl; simp [HPT.out.x.1, HPT.out.y.1, HPT.out.z.1, HPT.out.t.1]
      have HSZ : Hid ((Try.prog.info? 45).map (·.size) = some ((pl a b c d).map (Value.int .u64)).toArray.size) := by
        show _ = _
        rw [Try.sizePoint2]; unfold pl; simp [hsum.x.1, hsum.y.1, hsum.z.1, hsum.t.1]
      have HOK : Hid (EOk a ∧ EOk b ∧ EOk c ∧ EOk d) := ⟨hsum.x, hsum.y, hsum.z, hsum.t⟩
      have HPR : Hid (RowW wr g 45 (pl x y z t)) := hpt.row
      have HFF : Hid (Below w.heap.size w wr ∧ ((ev a, ev b, ev c, ev d) : Q4) = S 256) := ⟨hbel, hq⟩
      clear hbel hnum hpt hsum hq
      go_wp2_with (first
        | (refine wpList_load_row rfl 45 (.tmp 5) rfl (w.heap.size + 1 + 1) rfl 45 _ (0, 0) _ HL.out Try.underlying45 rfl HSZ.out ?_)
        | (refine wpList_storeP rfl (.tmp 23) (.tmp 22) rfl g a b c d _ rfl rfl HOK.out.1 HOK.out.2.1 HOK.out.2.2.1 HOK.out.2.2.2 HPX.out HPR.out ?_)
        | fail)
      intro w5 hp5 hw5
      have HF : Hid (MulP w g (S 256) (.returned (.tuple #[])) w5) :=
        ⟨a, b, c, d, hp5, (WrH.of_below HFF.out.1).trans hw5.wrH, rfl, HFF.out.2⟩
      clear hp5 hw5 HFF HPR HOK HSZ HPX HL
      go_wp2
      go_end0
      exact HF.out
theorem multiply_any (g : Nat) (x y z t ns : List Int) (w : World) (hp : Pt w g x y z t) (hl : ns.length = 4) (hw : Wrd ns) :
    Calls Try.prog 36 #[.pointer (some ⟨g, 0, none⟩), .agg (ns.map (Value.int .u64)).toArray] w (MulP w g (pS (val 18446744073709551616 ns) (ev x, ev y, ev z, ev t) 256)) :=
  multiply_gen (pS (val 18446744073709551616 ns) (ev x, ev y, ev z, ev t)) g x y z t ns w hp hl hw rfl (fun _ => rfl)
end Go.Proofs.Ytdaglofgioehhaa
namespace Go.Proofs.Ytdaglofgioehhaa
open Go.ChangeShapes Go.WideShapes Go.ChangeAt Go.RowKit
set_option linter.unusedVariables false

/-- A slice of the answer's own, from block B on. -/
def ResO (B : Nat) (w : World) (v : Value) (zs : List Int) : Prop :=
  ∃ a c, v = .slice a zs.length c ∧ At .u8 w a zs ∧ Open w a zs.length ∧ ∀ ad, a = some ad → B ≤ ad.block
theorem World.frozen?_of_block2 {w w' : World} {g i : Nat} (h : w'.heap[g]? = w.heap[g]?) : w'.frozen? ⟨g, i, none⟩ = w.frozen? ⟨g, i, none⟩ := by
  simp only [World.frozen?, h]
theorem Open.below2 {w w' : World} {a : Option Addr} {n : Nat} (h : Open w a n) (hb : Below w.heap.size w w') : Open w' a n := by
  rcases h with h | ⟨g, o, h1, h2, h3⟩
  · exact .inl h
  · refine .inr ⟨g, o, h1, by have := hb.size; omega, fun i hi => ?_⟩
    rw [hb.cell (p := ⟨g, o + i, none⟩) h2, World.frozen?_of_block2 (w := w) (hb.block g h2)]; exact h3 i hi
theorem Own.at2 {w : World} {B : Nat} {v : Value} {zs : List Int} (h : Own w B v zs) : ∃ g c, v = .slice (some ⟨g, 0, none⟩) zs.length c ∧ B ≤ g ∧ g < w.heap.size ∧ At .u8 w (some ⟨g, 0, none⟩) zs := by
  obtain ⟨g, c, rfl, hb, hg, hc⟩ := h.base
  exact ⟨g, c, rfl, hb, hg, .inr ⟨g, 0, rfl, hg, fun i hi => by rw [Nat.zero_add, h.1.cellAt i (by omega)]; simp [hi]⟩⟩
theorem own_res {w : World} {B : Nat} {v : Value} {zs : List Int} (h : Own w B v zs) : ResO B w v zs := by
  obtain ⟨g, c, rfl, hB, hg, hA⟩ := h.at2
  exact ⟨_, c, rfl, hA, .inr ⟨g, 0, rfl, hg, fun i hi => by rw [Nat.zero_add]; exact ⟨by rw [h.1.cellAt i (by omega)]; simp [hi], h.1.frozenAt i⟩⟩, fun ad e => by cases e; exact hB⟩
end Go.Proofs.Ytdaglofgioehhaa
