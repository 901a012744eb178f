/-
  Own work: EncodeFrame of the program.
-/
import Derived.Test.YthghkfncpdnpoaaEnc
import Derived.Test.YthghkfncpdnpoaaSEnc
namespace Go.Proofs.Ythghkfncpdnpoaa
open Go.ChangeShapes Go.WideShapes Go.ChangeAt Go.RowKit
set_option linter.unusedVariables false

theorem head_eq (s k a b : Int) (us : U32 s) (ua : U32 a) (ub : U32 b) : (enc0 s k a b).take 56 = headS s k a b := by
  obtain ⟨s0, s1⟩ := us
  obtain ⟨a0, a1⟩ := ua
  obtain ⟨b0, b1⟩ := ub
  have es : s / 16777216 % 256 = s / 16777216 := by omega
  have ea : a / 16777216 % 256 = a / 16777216 := by omega
  have eb : b / 16777216 % 256 = b / 16777216 := by omega
  simp [enc0, putK, headS, parts6, four, zer, es, ea, eb]
theorem put_end (l : List Int) (hl : l.length = 56) (v t : Int) (hv : U32 v) (ht : U32 t) : putK (putK (l ++ zer 8) 56 v 4) 60 t 4 = l ++ four v ++ four t := by
  obtain ⟨s0, s1⟩ := hv
  obtain ⟨a0, a1⟩ := ht
  have es : v / 16777216 % 256 = v / 16777216 := by omega
  have ea : t / 16777216 % 256 = t / 16777216 := by omega
  simp [putK, four, zer, hl, es, ea]
theorem enc_eq (s k a b : Int) (us : U32 s) (ua : U32 a) (ub : U32 b) : encI s k a b = encS s k a b := by
  have h0 : enc0 s k a b = (enc0 s k a b).take 56 ++ zer 8 := by rfl
  have h1 := head_eq s k a b us ua ub
  rw [h1] at h0
  unfold encI
  rw [h1, h0, put_end _ (headS_len s k a b) _ _ (crc_bd _) us]
  simp [encS, parts3]

set_option maxHeartbeats 400000 in
theorem hasKind_any (h : Nat) (k : Int) (w : World) (c1 : w.cell? ⟨h, 1, none⟩ = some (.int .i64 k)) :
    Calls Try.prog 34 #[.pointer (some ⟨h, 0, none⟩)] w fun e w' => e = .returned (.bool (decide (1 ≤ k ∧ k ≤ 3))) ∧ w' = w := by
  by_cases h1 : 1 ≤ k
  · by_cases h3 : k ≤ 3
    · have e : decide (1 ≤ k ∧ k ≤ 3) = true := by simp [h1, h3]
      rw [e]; clear e
      go_enter Try.func34, Try.ntmps34
      go_wp2
      go_ret
      exact ⟨rfl, rfl⟩
    · have e : decide (1 ≤ k ∧ k ≤ 3) = false := by simp [h1, h3]
      rw [e]; clear e
      go_enter Try.func34, Try.ntmps34
      go_wp2
      go_ret
      exact ⟨rfl, rfl⟩
  · have e : decide (1 ≤ k ∧ k ≤ 3) = false := by simp [h1]
    rw [e]; clear e
    have e2 : decide (1 ≤ k) = false := by simpa using h1
    go_enter Try.func34, Try.ntmps34
    go_wp2
    go_ret
    exact ⟨rfl, rfl⟩

theorem box4 (w : World) (v0 v1 v2 v3 : Value) (t : TypeId) : (w.alloc (.cells #[v0, v1, v2, v3] t)).cell? ⟨w.heap.size, 0, none⟩ = some v0 ∧ (w.alloc (.cells #[v0, v1, v2, v3] t)).cell? ⟨w.heap.size, 1, none⟩ = some v1 ∧
    (w.alloc (.cells #[v0, v1, v2, v3] t)).cell? ⟨w.heap.size, 2, none⟩ = some v2 ∧ (w.alloc (.cells #[v0, v1, v2, v3] t)).cell? ⟨w.heap.size, 3, none⟩ = some v3 := by
  refine ⟨?_, ?_, ?_, ?_⟩ <;> exact cell_of_row _ _ _ _ _ (0, 0) (heap_alloc_new w _)

set_option maxHeartbeats 400000 in
theorem ienc_yes (s k a b : Int) (w : World) (us : U32 s) (ua : U32 a) (ub : U32 b) (hk : 1 ≤ k ∧ k ≤ 3) :
    Calls Try.prog 23 #[.agg #[.int .u32 s, .int .i64 k, .int .u32 a, .int .u32 b]] w fun e w' => ∃ g, e = .returned (.slice (some ⟨g, 0, none⟩) 64 64) ∧ w.heap.size ≤ g ∧ Row w' g 55 (encI s k a b) ∧ Below w.heap.size w w' := by
  obtain ⟨b0, b1, b2, b3⟩ := box4 w (.int .u32 s) (.int .i64 k) (.int .u32 a) (.int .u32 b) 36
  have hb0 := below_new w (.cells #[.int .u32 s, .int .i64 k, .int .u32 a, .int .u32 b] 36)
  have hkd : decide (1 ≤ k ∧ k ≤ 3) = true := by simpa using hk
  have hsz : (w.alloc (.cells #[.int .u32 s, .int .i64 k, .int .u32 a, .int .u32 b] 36)).heap.size = w.heap.size + 1 := by simp
  go_enter Try.func23, Try.ntmps23
  go_wp2_with fail
  refine (hasKind_any w.heap.size k _ b1).mono ?_
  rintro e w1 ⟨rfl, rfl⟩
  rw [hkd]
  go_wp2_with fail
  refine (encoded_any w.heap.size s k a b _ (by simp) b0 b1 b2 b3 us ua ub).mono ?_
  rintro e w2 ⟨rfl, hbel⟩
  rw [hsz] at hbel
  have hlen := encI_len s k a b
  have hs1 : (Try.prog.info? 55).map (·.size) = some (((encI s k a b).map (Value.int .u8)).toArray).size := by
    have : (Try.prog.info? 55).map (·.size) = some 64 := by kernel_rfl
    rw [this]; simp [hlen]
  have hs2 : w.heap.size + 1 ≤ w2.heap.size := by have := hbel.size; rw [hsz] at this; exact this
  have HB : Hid (Below w.heap.size w w2) := hb0.trans (hbel.mono (by omega))
  generalize hz : encI s k a b = z at *
  have HZ : Hid _ := hz
  clear hz
  have HS1 : Hid _ := hs1
  clear hs1 hbel b0 b1 b2 b3 hb0 hkd hsz
  go_wp2_with (refine wpList_store_row rfl 55 _ _ rfl w2.heap.size ((z.map (Value.int .u8)).toArray) rfl rfl 55 _ (heap_alloc_new w2 _) HS1.out (by simp [hlen]) (all_oneCell_toArray (ints_oneCell _ _)) ?_)
  go_wp2
  go_ret
  refine ⟨w2.heap.size, rfl, by omega, ?_, ?_⟩
  · rw [HZ.out]; exact setRow_heap _ _ _ _ _ _ (heap_alloc_new w2 _)
  · exact (HB.out.alloc (by omega) _).trans ((Wr.setRow _ _ _).below (by omega))

set_option maxHeartbeats 400000 in
theorem ienc_no (s k a b : Int) (w : World) (hk : ¬ (1 ≤ k ∧ k ≤ 3)) :
    Calls Try.prog 23 #[.agg #[.int .u32 s, .int .i64 k, .int .u32 a, .int .u32 b]] w fun e w' => e = .returned (.slice none 0 0) ∧ Below w.heap.size w w' := by
  obtain ⟨b0, b1, b2, b3⟩ := box4 w (.int .u32 s) (.int .i64 k) (.int .u32 a) (.int .u32 b) 36
  have hb0 := below_new w (.cells #[.int .u32 s, .int .i64 k, .int .u32 a, .int .u32 b] 36)
  have hkd : decide (1 ≤ k ∧ k ≤ 3) = false := by simpa using hk
  go_enter Try.func23, Try.ntmps23
  go_wp2_with fail
  refine (hasKind_any w.heap.size k _ b1).mono ?_
  rintro e w1 ⟨rfl, rfl⟩
  rw [hkd]
  clear b0 b1 b2 b3
  have HB : Hid _ := hb0
  clear hb0
  go_wp2
  go_ret
  exact ⟨rfl, HB.out⟩
end Go.Proofs.Ythghkfncpdnpoaa
