/-
  Own work: the program's elements of five limbs, as plain mathematics.
-/
import Derived.Test.YtdaglofgioehhaaFe
import Derived.Test.YtdaglofgioehhaaWrd
import Derived.BigRegion
namespace Go.Proofs.Ytdaglofgioehhaa
set_option linter.unusedVariables false

/-! Elements of five limbs of 51 bits. -/
def gcy (B : Int) (xs : List Int) : Nat → Int
  | 0 => 0
  | i + 1 => (xs.getD i 0 + gcy B xs i) / B
theorem gcarry_val (B : Int) (xs : List Int) (n : Nat) : val B ((List.range n).map fun i => (xs.getD i 0 + gcy B xs i) % B) + gcy B xs n * B ^ n = val B ((List.range n).map fun i => xs.getD i 0) := by
  induction n with
  | zero => simp [val, gcy]
  | succ n ih =>
    rw [val_range, val_range, ← ih, Int.pow_succ]
    simp only [gcy]
    have e : (xs.getD n 0 + gcy B xs n) % B + B * ((xs.getD n 0 + gcy B xs n) / B) = xs.getD n 0 + gcy B xs n := Int.emod_add_mul_ediv _ _
    have e2 : ((xs.getD n 0 + gcy B xs n) % B + B * ((xs.getD n 0 + gcy B xs n) / B)) * B ^ n = (xs.getD n 0 + gcy B xs n) * B ^ n := by rw [e]
    generalize B ^ n = P at *
    generalize (xs.getD n 0 + gcy B xs n) / B = q at *
    generalize (xs.getD n 0 + gcy B xs n) % B = r at *
    generalize val B (List.map (fun i => (xs.getD i 0 + gcy B xs i) % B) (List.range n)) = v at *
    grind
def B51 : Int := 2251799813685248
def sdig (xs : List Int) (k i : Nat) : Int := if i < k then (xs.getD i 0 + gcy B51 xs i) % B51 else xs.getD i 0
def sst (xs : List Int) (k : Nat) : List Int := (List.range 5).map (sdig xs k)
theorem sst_len (xs : List Int) (k : Nat) : (sst xs k).length = 5 := by simp [sst]
theorem rget5 (f : Nat → Int) (i : Nat) (h : i < 5) : ((List.range 5).map f).getD i 0 = f i := by simp [h]
theorem sst_get (xs : List Int) (k i : Nat) (h : i < 5) : (sst xs k).getD i 0 = sdig xs k i := rget5 _ i h
theorem list5 {a b : List Int} (ha : a.length = 5) (hb : b.length = 5) (h : ∀ i, i < 5 → a.getD i 0 = b.getD i 0) : a = b := by
  apply List.ext_getElem (by omega)
  intro i h1 h2
  have := h i (by omega)
  simpa [h1, h2] using this
theorem sst_zero (xs : List Int) (h : xs.length = 5) : sst xs 0 = xs := by
  apply list5 (sst_len _ _) h
  intro i hi
  rw [sst_get _ _ _ hi]; simp [sdig]
theorem sst_step (xs : List Int) (k : Nat) (h : k < 5) : (sst xs k).set k ((xs.getD k 0 + gcy B51 xs k) % B51) = sst xs (k + 1) := by
  apply list5 (by simp [sst_len]) (sst_len _ _)
  intro i hi
  rw [getD_set_eq _ _ _ _ (by simp [sst_len]; omega), sst_get _ _ _ hi, sst_get _ _ _ hi]
  unfold sdig
  by_cases h2 : i = k
  · subst h2; simp
  · have h3 : (i < k) ↔ (i < k + 1) := by omega
    simp [h2, h3]
theorem sst_val (xs : List Int) (h : xs.length = 5) : val B51 (sst xs 5) + gcy B51 xs 5 * (fp + 19) = val B51 xs := by
  have e := gcarry_val B51 xs 5
  rw [← val_eq_range B51 xs 5 h] at e
  have e1 : sst xs 5 = (List.range 5).map fun i => (xs.getD i 0 + gcy B51 xs i) % B51 := by
    apply list5 (sst_len _ _) (by simp)
    intro i hi
    rw [sst_get _ _ _ hi, rget5 _ _ hi]; simp [sdig, hi]
  have e2 : (B51 : Int) ^ 5 = fp + 19 := by decide
  rw [e1, ← e2]; exact e
/-- The limbs behind a carry. -/
def carryE (xs : List Int) : List Int := (sst xs 5).set 0 ((sst xs 5).getD 0 0 + 19 * gcy B51 xs 5)
theorem carryE_len (xs : List Int) : (carryE xs).length = 5 := by simp [carryE, sst_len]
theorem carryE_val (xs : List Int) (h : xs.length = 5) : val B51 (carryE xs) = val B51 xs - gcy B51 xs 5 * fp := by
  unfold carryE
  rw [val_set _ _ _ _ (by simp [sst_len]), ← sst_val xs h]
  simp only [Int.pow_zero]
  generalize (sst xs 5).getD 0 0 = y
  generalize gcy B51 xs 5 = c
  generalize val B51 (sst xs 5) = v
  grind
def ev (xs : List Int) : Int := val B51 xs % fp
theorem ev_carryE (xs : List Int) (h : xs.length = 5) : ev (carryE xs) = ev xs := by
  unfold ev
  rw [carryE_val xs h]
  have : val B51 xs - gcy B51 xs 5 * fp = val B51 xs + fp * (-(gcy B51 xs 5)) := by grind
  rw [this, Int.add_mul_emod_self_left]
/-- Limbs as they stand between calls. -/
def EOk (xs : List Int) : Prop := xs.length = 5 ∧ (∀ i, 0 ≤ xs.getD i 0) ∧ (∀ i, 1 ≤ i → xs.getD i 0 < 2251799813685248) ∧ xs.getD 0 0 < 2251799813685504
theorem sst_bd (xs : List Int) (i : Nat) : 0 ≤ (sst xs 5).getD i 0 ∧ (sst xs 5).getD i 0 < 2251799813685248 := by
  by_cases h : i < 5
  · rw [sst_get _ _ _ h]; unfold sdig B51; rw [if_pos h]; omega
  · rw [getD_past (by rw [sst_len]; omega)]; omega
theorem carryE_ok {xs : List Int} (h0 : 0 ≤ gcy B51 xs 5) (h1 : gcy B51 xs 5 ≤ 13) : EOk (carryE xs) := by
  have hl : 0 < (sst xs 5).length := by rw [sst_len]; decide
  have hb0 := sst_bd xs 0
  refine ⟨carryE_len _, fun i => ?_, fun i hi => ?_, ?_⟩
  · unfold carryE; rw [getD_set_eq _ _ _ _ hl]; have := sst_bd xs i; split <;> omega
  · unfold carryE; rw [getD_set_eq _ _ _ _ hl, if_neg (by omega)]; exact (sst_bd xs i).2
  · unfold carryE; rw [getD_set_eq _ _ _ _ hl, if_pos rfl]; omega
theorem gcy_nonneg {xs : List Int} (h : ∀ i, 0 ≤ xs.getD i 0) (i : Nat) : 0 ≤ gcy B51 xs i := by
  induction i with
  | zero => simp [gcy]
  | succ i ih => have := h i; simp only [gcy]; unfold B51 at *; omega
/-- With limbs below M the carry stays below C. -/
theorem gcy_le {xs : List Int} {M C : Int} (h : ∀ i, 0 ≤ xs.getD i 0 ∧ xs.getD i 0 < M) (hC : 0 ≤ C) (hM : M + C ≤ 2251799813685248 * (C + 1)) (i : Nat) : 0 ≤ gcy B51 xs i ∧ gcy B51 xs i ≤ C := by
  induction i with
  | zero => simp [gcy]; omega
  | succ i ih => have := h i; simp only [gcy]; unfold B51 at *; omega
end Go.Proofs.Ytdaglofgioehhaa
namespace Go.Proofs.Ytdaglofgioehhaa
open Go.ChangeShapes Go.WideShapes Go.ChangeAt Go.RowKit
set_option linter.unusedVariables false

def U62 (xs : List Int) : Prop := ∀ i, 0 ≤ xs.getD i 0 ∧ xs.getD i 0 < 9223372036854775808
structure StS (w : World) (g : Nat) (zs : List Int) (wr : World) : Prop where
  row : RowW wr g 43 zs
  wr : Wr g w wr
theorem StS.set {w : World} {g : Nat} {zs : List Int} {wr : World} (h : StS w g zs wr) (k : Nat) (x : Int) : StS w g (zs.set k x) ((wr.setCell ⟨g, k, none⟩ (.int .u64 x)).drew) :=
  ⟨h.row.set k x, (h.wr.setCell k _).drew⟩

set_option maxHeartbeats 1000000 in
theorem settle_any (g : Nat) (xs : List Int) (w : World) (hl : xs.length = 5) (hr : RowW w g 43 xs) (hx : U62 xs) :
    Calls Try.prog 77 #[.pointer (some ⟨g, 0, none⟩)] w fun e w' => e = .returned (.int .u64 (gcy B51 xs 5)) ∧ StS w g (sst xs 5) w' := by
  have HC : Hid (∀ i, 0 ≤ gcy B51 xs i ∧ gcy B51 xs i ≤ 4096) := fun i => gcy_le (M := 9223372036854775808) hx (by decide) (by decide) i
  have HX : Hid (U62 xs) := hx
  have HS : Hid (StS w g (sst xs 0) w) := ⟨by rw [sst_zero xs hl]; exact hr, Wr.refl _ _⟩
  clear hx hr
  go_enter Try.func77, Try.ntmps77
  go_wp2
  go_loopw [3, 5] (fun c i wr => ∃ k : Nat, k ≤ 5 ∧ i = .int .i64 k ∧ c = .int .u64 (gcy B51 xs k) ∧ StS w g (sst xs k) wr) (fun _ i _ => 5 - (intOf i).toNat)
  case atStart => exact ⟨0, by decide, rfl, rfl, HS.out⟩
  case round =>
    clear HS
    obtain ⟨k, hk, rfl, rfl, hst⟩ := hrel
    by_cases hlt : k < 5
    · have hlt' : (k : Int) < 5 := by omega
      obtain ⟨hc0, hc1⟩ := HC.out k
      obtain ⟨hx0, hx1⟩ := HX.out k
      have hget : (sst xs k).getD k 0 = xs.getD k 0 := by rw [sst_get _ _ _ hlt]; simp [sdig]
      have hlen := sst_len xs k
      have c0 := hst.row.cell k (by omega)
      have f0 := hst.row.frozen k
      rw [hget] at c0
      have s1 := hst.set k (xs.getD k 0 + gcy B51 xs k)
      have c1 := s1.row.cell k (by rw [List.length_set]; omega)
      have f1 := s1.row.frozen k
      rw [getD_set_eq _ _ _ _ (by omega), if_pos rfl] at c1
      have s2 := s1.set k ((xs.getD k 0 + gcy B51 xs k) % B51)
      rw [List.set_set, sst_step xs k hlt] at s2
      have HS2 : Hid (StS w g (sst xs (k + 1)) ((((wr.setCell ⟨g, k, none⟩ (.int .u64 (xs.getD k 0 + gcy B51 xs k))).drew).setCell ⟨g, k, none⟩ (.int .u64 ((xs.getD k 0 + gcy B51 xs k) % B51))).drew)) := s2
      have HCS : Hid (gcy B51 xs (k + 1) = (xs.getD k 0 + gcy B51 xs k) / 2251799813685248) := rfl
      have HAND : Hid (bits .and .u64 (xs.getD k 0 + gcy B51 xs k) 2251799813685247 = (xs.getD k 0 + gcy B51 xs k) % B51) := u64_and_mask _ 51 (by omega) (by omega) _ (by decide) (by decide)
      clear hget hlen s1 s2 hst
      generalize gcy B51 xs k = cc at *
      generalize xs.getD k 0 = x at *
      go_wp2
      go_region
      clear c0 f0
      generalize (wr.setCell ⟨g, k, none⟩ (.int .u64 (x + cc))).drew = w1 at *
      go_wp2
      go_region
      rw [HAND.out]
      clear c1 f1
      generalize (w1.setCell ⟨g, k, none⟩ (.int .u64 ((x + cc) % B51))).drew = w2 at *
      go_wp2
      go_roundw
      case rel => exact ⟨k + 1, by omega, by go_num, by rw [HCS.out], HS2.out⟩
      case measure => simp [intOf]; omega
    · obtain rfl : k = 5 := by omega
      have HP : Hid (StS w g (sst xs 5) wr) := hst
      clear hst
      go_wp2
      go_ret
      exact ⟨rfl, HP.out⟩

set_option maxHeartbeats 400000 in
theorem carryE_any (g : Nat) (xs : List Int) (w : World) (hl : xs.length = 5) (hr : RowW w g 43 xs) (hx : U62 xs) :
    Calls Try.prog 82 #[.pointer (some ⟨g, 0, none⟩)] w fun e w' => e = .returned (.tuple #[]) ∧ StS w g (carryE xs) w' := by
  have hc := gcy_le (M := 9223372036854775808) (C := 4096) hx (by decide) (by decide) 5
  go_enter Try.func82, Try.ntmps82
  go_wp2_with fail
  refine (settle_any g xs _ hl hr hx).mono ?_
  rintro e w1 ⟨rfl, st⟩
  have hb := sst_bd xs 0
  have c0 := st.row.cell 0 (by rw [sst_len]; decide)
  have f0 := st.row.frozen 0
  have HS : Hid (StS w g (carryE xs) ((w1.setCell ⟨g, 0, none⟩ (.int .u64 ((sst xs 5).getD 0 0 + 19 * gcy B51 xs 5))).drew)) := st.set 0 _
  clear st hr hx
  generalize (sst xs 5).getD 0 0 = y at *
  generalize gcy B51 xs 5 = c at *
  obtain ⟨hc0, hc1⟩ := hc
  obtain ⟨hb0, hb1⟩ := hb
  go_wp2
  go_region
  clear c0 f0
  generalize (w1.setCell ⟨g, 0, none⟩ (.int .u64 (y + 19 * c))).drew = w2 at *
  go_wp2
  go_end0
  exact ⟨rfl, HS.out⟩
end Go.Proofs.Ytdaglofgioehhaa
namespace Go.Proofs.Ytdaglofgioehhaa
open Go.ChangeShapes Go.WideShapes Go.ChangeAt Go.RowKit
set_option linter.unusedVariables false

theorem part_u64 (w : World) (xs : List Int) (i : Nat) (hi : i < xs.length) : (part 34 (xs.map (Value.int .u64)).toArray i).run Try.prog w = .ok (.int .u64 (xs.getD i 0)) w := by
  have hagg : (isAgg 34).run Try.prog w = .ok false w := by
    unfold isAgg
    rw [Sem.run_bind, run_underlying Try.underlying34 w]; rfl
  simp [part, hagg, hi]

theorem sizeU64 (w : World) : (sizeOf 34).run Try.prog w = .ok 1 w := by
  have h : (Try.prog.info? 34).map (·.size) = some 1 := by kernel_rfl
  cases hq : Try.prog.info? 34 with
  | none => simp [hq] at h
  | some i =>
    have hs : i.size = 1 := by simpa [hq] using h
    simp [sizeOf, typeInfo, hq, hs]

theorem run_eqW (w : World) (d n : Nat) (t : TypeId) (hu : Try.prog.underlying t = some (.array n 34)) (xs ys : List Int) (hx : xs.length = n) (hy : ys.length = n) :
    (Op.equalIn (d + 2) t (.agg (xs.map (Value.int .u64)).toArray) (.agg (ys.map (Value.int .u64)).toArray)).run Try.prog w = .ok (decide (xs = ys)) w := by
  have key : decide (xs = ys) = (List.range' 0 n).all (fun i => xs.getD i 0 == ys.getD i 0) := by
    rw [Bool.eq_iff_iff]
    simp only [decide_eq_true_eq, List.all_eq_true, List.mem_range', beq_iff_eq]
    constructor
    · rintro rfl _ _; rfl
    · intro h
      apply List.ext_getElem (by omega)
      intro i h1 h2
      have := h i ⟨i, by omega, by omega⟩
      simpa [h1, h2] using this
  rw [key]
  unfold Op.equalIn
  simp only [Sem.run_bind, run_underlying hu, Result.andThen_ok, sizeU64, Nat.mul_one, Std.Legacy.Range.forIn_eq_forIn_range', Std.Legacy.Range.size, Nat.sub_zero, Nat.add_sub_cancel, Nat.div_one]
  have hl : ∀ i ∈ List.range' 0 n, i < n := fun i hi => by rw [List.mem_range'] at hi; obtain ⟨j, _, rfl⟩ := hi; omega
  revert hl
  generalize List.range' 0 n = l
  intro hl
  induction l with
  | nil => simp
  | cons i l ih =>
    have hi := hl i (List.mem_cons_self ..)
    have ih' := ih (fun j hj => hl j (List.mem_cons_of_mem _ hj))
    simp only [List.forIn_cons, Sem.run_bind, part_u64 w xs i (by omega), part_u64 w ys i (by omega), Result.andThen_ok, run_equalIn_int w d 34 .u64 .u64 _ _ Try.underlying34, List.all_cons]
    cases hb : (xs.getD i 0 == ys.getD i 0)
    · simp
    · simp only [Bool.not_true, Bool.false_eq_true, if_false, Sem.run_pure, Result.andThen_ok, Bool.true_and]
      exact ih'
end Go.Proofs.Ytdaglofgioehhaa
