/-
  Own work: a torn sector decodes to one of the two frames or to none.
-/
import Derived.Test.YthghkfncpdnpoacDecAny
namespace Go.Proofs.Ythghkfncpdnpoac
open Go.ChangeShapes Go.WideShapes Go.ChangeAt Go.RowKit
set_option linter.unusedVariables false

theorem encS_lit (s k a b : Int) : ∃ c : Int, U32 c ∧ encS s k a b = four s ++ ([74, 49] ++ ([k % 256, 0] ++ (four a ++ (four b ++ (List.replicate 40 0 ++ (four c ++ four s)))))) :=
  ⟨crc (headS s k a b), crc_bd _, by
    unfold encS parts3
    have : headS s k a b = four s ++ ([74, 49] ++ ([k % 256, 0] ++ (four a ++ (four b ++ List.replicate 40 0)))) := by simp [headS, parts6]
    simp [this]⟩

theorem encS_dec (s k a b : Int) (us : U32 s) (ua : U32 a) (ub : U32 b) (hk : 1 ≤ k ∧ k ≤ 3) : decV (encS s k a b) = fOk s k a b := by
  have hb : Byte (encS s k a b) := by rw [← enc_eq s k a b us ua ub]; exact encI_byte _ _ _ _
  obtain ⟨c, uc, he⟩ := encS_lit s k a b
  obtain ⟨s0, s1⟩ := us
  obtain ⟨a0, a1⟩ := ua
  obtain ⟨b0, b1⟩ := ub
  have e0 : num4 (encS s k a b) 0 = s := by rw [he]; simp [num4, four]; omega
  have e6 : (encS s k a b).getD 6 0 = k := by rw [he]; simp [four]; omega
  have e8 : num4 (encS s k a b) 8 = a := by rw [he]; simp [num4, four]; omega
  have e12 : num4 (encS s k a b) 12 = b := by rw [he]; simp [num4, four]; omega
  have hok : decB (encS s k a b) = true := by
    unfold decB; rw [e0, e6, e8, e12]
    simp [encS_len, hk]
  rw [decV_yes hok, e0, e6, e8, e12]

theorem decB_seq {z : List Int} (hz : Byte z) (h : decB z = true) : num4 z 0 = num4 z 60 := by
  unfold decB at h
  simp only [Bool.and_eq_true, decide_eq_true_eq] at h
  have := encS_tail (num4 z 0) (z.getD 6 0) (num4 z 8) (num4 z 12) (num4_u32 z hz 0)
  rw [h.2.2] at this; exact this.symm

theorem num4_inj {x y : List Int} (hx : Byte x) (hy : Byte y) (p q : Nat) (h : num4 x p = num4 y q) : ∀ i, i < 4 → x.getD (p + i) 0 = y.getD (q + i) 0 := by
  have h0 := hx.get p
  have h1 := hx.get (p + 1)
  have h2 := hx.get (p + 2)
  have h3 := hx.get (p + 3)
  have g0 := hy.get q
  have g1 := hy.get (q + 1)
  have g2 := hy.get (q + 2)
  have g3 := hy.get (q + 3)
  unfold num4 at h
  intro i hi
  obtain rfl | rfl | rfl | rfl : i = 0 ∨ i = 1 ∨ i = 2 ∨ i = 3 := by omega
  · simp only [Nat.add_zero]; omega
  all_goals omega

theorem ext64 {x y : List Int} (hx : x.length = 64) (hy : y.length = 64) (h : ∀ i, i < 64 → x.getD i 0 = y.getD i 0) : x = y := by
  apply List.ext_getElem (by omega)
  intro i h1 h2
  have := h i (by omega)
  simpa [h1, h2] using this

/-- THE LAW of promise 3. -/
theorem torn (A B : List Int) (hA : A.length = 64) (hB : B.length = 64) (bA : Byte A) (bB : Byte B) (sA : num4 A 0 = num4 A 60) (sB : num4 B 0 = num4 B 60) (hne : num4 A 0 ≠ num4 B 0) (j : Nat) (hj : j ≤ 64)
    (h : decB (A.take j ++ B.drop j) = true) : A.take j ++ B.drop j = A ∨ A.take j ++ B.drop j = B := by
  have hz : Byte (A.take j ++ B.drop j) := fun v hv => by
    rcases List.mem_append.1 hv with h | h
    · exact bA v (List.mem_of_mem_take h)
    · exact bB v (List.mem_of_mem_drop h)
  have hl : (A.take j ++ B.drop j).length = 64 := by simp; omega
  have lo : ∀ i, i < j → (A.take j ++ B.drop j).getD i 0 = A.getD i 0 := fun i hi => by
    rw [List.getD_eq_getElem?_getD, List.getElem?_append_left (by simp; omega), List.getElem?_take_of_lt hi, List.getD_eq_getElem?_getD]
  have hi' : ∀ i, j ≤ i → i < 64 → (A.take j ++ B.drop j).getD i 0 = B.getD i 0 := fun i h1 h2 => by
    rw [List.getD_eq_getElem?_getD, List.getElem?_append_right (by simp; omega), List.getElem?_drop, List.getD_eq_getElem?_getD]
    congr 2; simp; omega
  have hs := decB_seq hz h
  have ij := num4_inj hz hz 0 60 hs
  have iA := num4_inj bA bA 0 60 sA
  have iB := num4_inj bB bB 0 60 sB
  generalize A.take j ++ B.drop j = z at *
  by_cases h4 : j < 4
  · right
    apply ext64 hl hB
    intro i hi
    by_cases hij : j ≤ i
    · exact hi' i hij hi
    · have e1 := ij i (by omega)
      have e2 := iB i (by omega)
      have e3 := hi' (60 + i) (by omega) (by omega)
      simp only [Nat.zero_add] at e1 e2
      rw [e1, e3, ← e2]
  · by_cases h60 : 60 < j
    · left
      apply ext64 hl hA
      intro i hi
      by_cases hij : i < j
      · exact lo i hij
      · have e1 := ij (i - 60) (by omega)
        have e2 := iA (i - 60) (by omega)
        have e3 := lo (0 + (i - 60)) (by omega)
        rw [show 60 + (i - 60) = i by omega] at e1 e2
        rw [← e1, e3, e2]
    · exfalso
      apply hne
      have f0 : num4 z 0 = num4 A 0 := by unfold num4; rw [lo 0 (by omega), lo (0 + 1) (by omega), lo (0 + 2) (by omega), lo (0 + 3) (by omega)]
      have f60 : num4 z 60 = num4 B 60 := by unfold num4; rw [hi' 60 (by omega) (by omega), hi' (60 + 1) (by omega) (by omega), hi' (60 + 2) (by omega) (by omega), hi' (60 + 3) (by omega) (by omega)]
      rw [← f0, hs, f60, sB]

theorem conv_any (a : Option Addr) (n cap : Nat) (xs : List Int) (w : World) (hn : xs.length = n) (ha : At .u8 w a xs) :
    (convert 22 9 (.slice a n cap)).run Try.prog w = .ok (.string (strOfNums xs)) w := by
  by_cases h0 : xs = []
  · subst h0
    obtain rfl : n = 0 := by simpa using hn.symm
    cases a with
    | none => exact run_convert_bytes_nil w 22 5 Try.underlying22 Try.underlying5 0 cap 9 Try.underlying9
    | some ad =>
      rw [run_convert_bytes_string w 22 9 5 _ 0 cap Try.underlying22 Try.underlying5 Try.underlying9]
      exact run_bytesToString w ad 0 cap [] (by simp [loadCells, loadCellsFrom])
  · rcases ha with h | ⟨b, off, rfl, hb, hc⟩
    · exact absurd h h0
    · exact run_convert_bytes_arg w 22 5 Try.underlying22 Try.underlying5 b off n cap xs hn (fun i hi => hc i (by omega)) 9 Try.underlying9

set_option maxHeartbeats 400000 in
theorem lwB_any (a a' : Option Addr) (n n' cap cap' : Nat) (xs ys : List Int) (w : World) (hn : xs.length = n) (hn' : ys.length = n') (ha : At .u8 w a xs) (ha' : At .u8 w a' ys) (bx : Byte xs) (by' : Byte ys) :
    Calls Try.prog 14 #[.slice a n cap, .slice a' n' cap'] w fun e w' => e = .returned (.bool (decide (xs = ys))) ∧ w' = w := by
  have c1 := conv_any a n cap xs w hn ha
  have c2 := conv_any a' n' cap' ys w hn' ha'
  have hi := str_inj bx by'
  clear ha ha'
  go_enter Try.func14, Try.ntmps14
  go_wp2
  go_ret
  exact ⟨rfl, rfl⟩
end Go.Proofs.Ythghkfncpdnpoac
