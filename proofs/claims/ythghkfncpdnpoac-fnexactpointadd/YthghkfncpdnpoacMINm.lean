/-
  Own work: the number of an element, by the program.
-/
import Derived.Test.YthghkfncpdnpoacIAd
import Derived.Test.YthghkfncpdnpoacSCo
import Derived.Test.YthghkfncpdnpoacMReg9
namespace Go.Proofs.Ythghkfncpdnpoac
open Go.ChangeShapes Go.WideShapes Go.ChangeAt Go.RowKit
set_option linter.unusedVariables false

theorem nm_or (x y s q : Int) (k : Nat) (hx : 0 ≤ x) (hk : x < 2 ^ k) (hx' : x < 18446744073709551616) (hq : 0 ≤ q) (hq' : q * 2 ^ k < 18446744073709551616) (hs : IntKind.u64.wrap (y * s) = q * 2 ^ k) :
    bits .or .u64 x (IntKind.u64.wrap (y * s)) = x + q * 2 ^ k := by
  rw [hs]
  have hp : (0 : Int) < 2 ^ k := Int.pow_pos (by decide)
  exact u64_or_add' (q * 2 ^ k) x k (Int.mul_nonneg hq (by omega)) hq' hx hk hx' q rfl
theorem nm_0 (a b : Int) (ha : 0 ≤ a) (ha' : a < 2251799813685248) (hb : 0 ≤ b) (hb' : b < 2251799813685248) : bits .or .u64 a (IntKind.u64.wrap (b * 2251799813685248)) = a + b % 8192 * 2251799813685248 :=
  nm_or a b 2251799813685248 (b % 8192) 51 ha (by show a < 2251799813685248; omega) (by omega) (by omega) (by show b % 8192 * 2251799813685248 < _; omega) (by rw [IntKind.wrap_u64]; show _ = b % 8192 * 2251799813685248; omega)
theorem nm_1 (b c : Int) (ha : 0 ≤ b) (ha' : b < 2251799813685248) (hb : 0 ≤ c) (hb' : c < 2251799813685248) : bits .or .u64 (b / 8192) (IntKind.u64.wrap (c * 274877906944)) = b / 8192 + c % 67108864 * 274877906944 :=
  nm_or (b / 8192) c 274877906944 (c % 67108864) 38 (by omega) (by show b / 8192 < 274877906944; omega) (by omega) (by omega) (by show c % 67108864 * 274877906944 < _; omega) (by rw [IntKind.wrap_u64]; show _ = c % 67108864 * 274877906944; omega)
theorem nm_2 (c d : Int) (ha : 0 ≤ c) (ha' : c < 2251799813685248) (hb : 0 ≤ d) (hb' : d < 2251799813685248) : bits .or .u64 (c / 67108864) (IntKind.u64.wrap (d * 33554432)) = c / 67108864 + d % 549755813888 * 33554432 :=
  nm_or (c / 67108864) d 33554432 (d % 549755813888) 25 (by omega) (by show c / 67108864 < 33554432; omega) (by omega) (by omega) (by show d % 549755813888 * 33554432 < _; omega) (by rw [IntKind.wrap_u64]; show _ = d % 549755813888 * 33554432; omega)
theorem nm_3 (d e : Int) (ha : 0 ≤ d) (ha' : d < 2251799813685248) (hb : 0 ≤ e) (hb' : e < 2251799813685248) : bits .or .u64 (d / 549755813888) (IntKind.u64.wrap (e * 4096)) = d / 549755813888 + e * 4096 :=
  nm_or (d / 549755813888) e 4096 e 12 (by omega) (by show d / 549755813888 < 4096; omega) (by omega) (by omega) (by show e * 4096 < _; omega) (by rw [IntKind.wrap_u64]; show _ = e * 4096; omega)
theorem nm_val (a b c d e : Int) (a0 : 0 ≤ a) (a1 : a < 2251799813685248) (b0 : 0 ≤ b) (b1 : b < 2251799813685248) (c0 : 0 ≤ c) (c1 : c < 2251799813685248) (d0 : 0 ≤ d) (d1 : d < 2251799813685248) (e0 : 0 ≤ e) (e1 : e < 2251799813685248) :
    Wrd [a + b % 8192 * 2251799813685248, b / 8192 + c % 67108864 * 274877906944, c / 67108864 + d % 549755813888 * 33554432, d / 549755813888 + e * 4096] ∧
    val 18446744073709551616 [a + b % 8192 * 2251799813685248, b / 8192 + c % 67108864 * 274877906944, c / 67108864 + d % 549755813888 * 33554432, d / 549755813888 + e * 4096] = val B51 [a, b, c, d, e] := by
  constructor
  · intro z hz
    simp only [List.mem_cons, List.not_mem_nil, or_false] at hz
    rcases hz with rfl | rfl | rfl | rfl <;> omega
  · simp only [val]; unfold B51; omega

set_option maxHeartbeats 2000000 in
theorem number_any (g o : Nat) (xs : List Int) (w : World) (h : EAt w g o xs) :
    Calls Try.prog 111 #[.pointer (some ⟨g, o, none⟩)] w (NumPost w (ev xs)) := by
  have hk := h.2.1
  have hv := (lsE_all hk).2.2
  have hbd := sst_bd (xs.set 0 (xs.getD 0 0 + 19 * lsT xs))
  obtain ⟨a, b, c, d, e, hl⟩ := len5 (lsE_len xs)
  have q0 := hbd 0
  have q1 := hbd 1
  have q2 := hbd 2
  have q3 := hbd 3
  have q4 := hbd 4
  rw [show sst (xs.set 0 (xs.getD 0 0 + 19 * lsT xs)) 5 = [a, b, c, d, e] from hl] at q0 q1 q2 q3 q4
  simp only [List.getD_cons_zero, List.getD_cons_succ] at q0 q1 q2 q3 q4
  obtain ⟨a0, a1⟩ := q0
  obtain ⟨b0, b1⟩ := q1
  obtain ⟨c0, c1⟩ := q2
  obtain ⟨d0, d1⟩ := q3
  obtain ⟨e0, e1⟩ := q4
  rw [hl] at hv
  have HV := nm_val a b c d e a0 a1 b0 b1 c0 c1 d0 d1 e0 e1
  rw [hv] at HV
  have H0 : Hid (bits .or .u64 a (IntKind.u64.wrap (b * 2251799813685248)) = a + b % 8192 * 2251799813685248) := nm_0 a b a0 a1 b0 b1
  have H1 : Hid (bits .or .u64 (b / 8192) (IntKind.u64.wrap (c * 274877906944)) = b / 8192 + c % 67108864 * 274877906944) := nm_1 b c b0 b1 c0 c1
  have H2 : Hid (bits .or .u64 (c / 67108864) (IntKind.u64.wrap (d * 33554432)) = c / 67108864 + d % 549755813888 * 33554432) := nm_2 c d c0 c1 d0 d1
  have H3 : Hid (bits .or .u64 (d / 549755813888) (e * 4096) = d / 549755813888 + e * 4096) := by
    have h3 := nm_3 d e d0 d1 e0 e1
    rw [show IntKind.u64.wrap (e * 4096) = e * 4096 by rw [IntKind.wrap_u64]; omega] at h3
    exact h3
  have bw : Below w.heap.size w (w.alloc (.cells #[.int .u64 0, .int .u64 0, .int .u64 0, .int .u64 0] 100)) := below_new2 _ _
  have h0 := h.below bw
  have HR0 : (w.alloc (.cells #[.int .u64 0, .int .u64 0, .int .u64 0, .int .u64 0] 100)).heap[w.heap.size]? = some (.cells #[.int .u64 0, .int .u64 0, .int .u64 0, .int .u64 0] 100 (0, 0)) := heap_alloc_new w _
  have hs0 : w.heap.size < (w.alloc (.cells #[.int .u64 0, .int .u64 0, .int .u64 0, .int .u64 0] 100)).heap.size := by simp
  have HVV : Hid (Wrd [a + b % 8192 * 2251799813685248, b / 8192 + c % 67108864 * 274877906944, c / 67108864 + d % 549755813888 * 33554432, d / 549755813888 + e * 4096] ∧ val 18446744073709551616 [a + b % 8192 * 2251799813685248, b / 8192 + c % 67108864 * 274877906944, c / 67108864 + d % 549755813888 * 33554432, d / 549755813888 + e * 4096] = ev xs) := HV
  clear HV hv hbd hk h
  go_enter Try.func111, Try.ntmps111
  go_wp2_with fail
  generalize w.alloc (.cells #[.int .u64 0, .int .u64 0, .int .u64 0, .int .u64 0] 100) = w0 at *
  refine (leastE_any g o xs _ h0).mono ?_
  rintro e' w1 ⟨rfl, hb⟩
  rw [hl]
  have HR1 : Hid (w1.heap[w.heap.size]? = some (.cells #[.int .u64 0, .int .u64 0, .int .u64 0, .int .u64 0] 100 (0, 0))) := by show _ = _; rw [hb.block _ hs0]; exact HR0
  have HB1 : Hid (Below w.heap.size w w1) := bw.trans (hb.mono bw.size)
  have hs1 : w.heap.size < w1.heap.size := by have := hb.size; omega
  clear hb h0 HR0 hs0 bw hl
  have HR2 : Hid ((w1.alloc (.cells #[.int .u64 a, .int .u64 b, .int .u64 c, .int .u64 d, .int .u64 e] 82)).heap[w.heap.size]? = some (.cells #[.int .u64 0, .int .u64 0, .int .u64 0, .int .u64 0] 100 (0, 0))) := by show _ = _; rw [Below.heap_alloc _ _ w.heap.size hs1]; exact HR1.out
  have HB2 : Hid (Below w.heap.size w (w1.alloc (.cells #[.int .u64 a, .int .u64 b, .int .u64 c, .int .u64 d, .int .u64 e] 82))) := HB1.out.trans ((below_new2 _ _).mono HB1.out.size)
  have HSZ : Hid ((Try.prog.info? 100).map (·.size) = some 4) := by show _ = _; kernel_rfl
  simp only [List.map_cons, List.map_nil]
  go_wp2_with (first
    | (refine wpList_store_row rfl 100 (.tmp 2) (.tmp 33) rfl w.heap.size #[.int .u64 (bits .or .u64 a (IntKind.u64.wrap (b * 2251799813685248))), .int .u64 (bits .or .u64 (b / 8192) (IntKind.u64.wrap (c * 274877906944))), .int .u64 (bits .or .u64 (c / 67108864) (IntKind.u64.wrap (d * 33554432))), .int .u64 (bits .or .u64 (d / 549755813888) (e * 4096))] rfl rfl 100 _ HR2.out HSZ.out rfl (by simp [Value.oneCell']) ?_)
    | fail)
  refine bodyPost_ret (v := .agg #[.int .u64 (bits .or .u64 a (IntKind.u64.wrap (b * 2251799813685248))), .int .u64 (bits .or .u64 (b / 8192) (IntKind.u64.wrap (c * 274877906944))), .int .u64 (bits .or .u64 (c / 67108864) (IntKind.u64.wrap (d * 33554432))), .int .u64 (bits .or .u64 (d / 549755813888) (e * 4096))]) (results_cell_row rfl _ _ w.heap.size 100 _ (0, 0) _ rfl (setRow_heap _ _ _ _ _ _ HR2.out) Try.underlying100 rfl HSZ.out) rfl ?_
  refine ⟨[a + b % 8192 * 2251799813685248, b / 8192 + c % 67108864 * 274877906944, c / 67108864 + d % 549755813888 * 33554432, d / 549755813888 + e * 4096], rfl, HVV.out.1, HVV.out.2, ?_, HB2.out.trans ((Wr.setRow _ _ _).below (Nat.le_refl _))⟩
  rw [H0.out, H1.out, H2.out, H3.out]; rfl
end Go.Proofs.Ythghkfncpdnpoac
namespace Go.Proofs.Ythghkfncpdnpoac
open Go.ChangeShapes Go.WideShapes Go.ChangeAt Go.RowKit
set_option linter.unusedVariables false

theorem wrd4 {a b c d : Int} (a0 : 0 ≤ a) (a1 : a < 18446744073709551616) (b0 : 0 ≤ b) (b1 : b < 18446744073709551616) (c0 : 0 ≤ c) (c1 : c < 18446744073709551616) (d0 : 0 ≤ d) (d1 : d < 18446744073709551616) : Wrd [a, b, c, d] := by
  intro z hz
  simp only [List.mem_cons, List.not_mem_nil, or_false] at hz
  rcases hz with rfl | rfl | rfl | rfl <;> exact ⟨by assumption, by assumption⟩
set_option maxRecDepth 100000 in
set_option maxHeartbeats 16000000 in
theorem pcode_any (g : Nat) (x y z t : List Int) (w : World) (hp : Pt w g x y z t) :
    Calls Try.prog 67 #[.pointer (some ⟨g, 0, none⟩)] w (NumPost w (cdV (ev x) (ev y) (ev z))) := by
  have bw : Below w.heap.size w (w.alloc (.cells #[.int .u64 0, .int .u64 0, .int .u64 0, .int .u64 0] 100)) := below_new2 _ _
  have hp0 : Pt (w.alloc (.cells #[.int .u64 0, .int .u64 0, .int .u64 0, .int .u64 0] 100)) g x y z t := hp.below bw hp.row.lt
  have HS0 : Hid (RunD (w.alloc (.cells #[.int .u64 0, .int .u64 0, .int .u64 0, .int .u64 0] 100)) (w.alloc (.cells #[.int .u64 0, .int .u64 0, .int .u64 0, .int .u64 0] 100)) [] [(g, 0, x), (g, 5, y), (g, 10, z)]) := RunD.start _ _ (fun e he => by
    simp only [List.mem_cons, List.not_mem_nil, or_false] at he
    rcases he with rfl | rfl | rfl
    · exact hp0.ex
    · exact hp0.ey
    · exact hp0.ez)
  have HR0 : (w.alloc (.cells #[.int .u64 0, .int .u64 0, .int .u64 0, .int .u64 0] 100)).heap[w.heap.size]? = some (.cells #[.int .u64 0, .int .u64 0, .int .u64 0, .int .u64 0] 100 (0, 0)) := heap_alloc_new w _
  have hs0 : w.heap.size < (w.alloc (.cells #[.int .u64 0, .int .u64 0, .int .u64 0, .int .u64 0] 100)).heap.size := by simp
  clear hp hp0
  go_enter Try.func67, Try.ntmps67
  go_wp2_with fail
  generalize w.alloc (.cells #[.int .u64 0, .int .u64 0, .int .u64 0, .int .u64 0] 100) = w0 at *
  refine (inverse_any g 10 z _ (HS0.out.el 2 _ _ _ rfl)).mono ?_
  rintro e w1 ⟨iv, hk, hv, rfl, b⟩
  have HKiv : Hid (EOk iv ∧ ev iv = inv0 (ev z)) := ⟨hk, hv⟩
  have HS1 : Hid (RunD w0 w1 [] [(g, 0, x), (g, 5, y), (g, 10, z)]) := HS0.out.call b
  clear hk hv b HS0
  have HA2 : Hid (RunD w0 (w1.alloc (.cells #[.int .u64 0, .int .u64 0, .int .u64 0, .int .u64 0, .int .u64 0] 82)) [(w1.heap.size, [0, 0, 0, 0, 0])] [(g, 0, x), (g, 5, y), (g, 10, z)]) := HS1.out.room
  clear HS1
  go_wp2_with (first
    | (refine wpList_storeD HA2.out rfl (.tmp 3) (.tmp 10) rfl 0 (w1.heap.size) [0, 0, 0, 0, 0] iv rfl rfl rfl HKiv.out.1 rfl ?_)
    | fail)
  intro w3 S
  have HS3 : Hid (RunD w0 w3 [(w1.heap.size, iv)] [(g, 0, x), (g, 5, y), (g, 10, z)]) := S
  clear S HA2
  generalize w1.heap.size = G3a at *
  go_wp2_with fail
  refine wp_region_any (by kernel_rfl) ?_
  refine wpAny_slotsU (fun _ _ _ => True) (frame := (fun (c0 c1 c2 c3 c6 c7 c8 c9 c10 c19 c20 c21 c22 c23 c24 c25 : Value) => fun (t : Nat → Value) => ({ tmps := List.toArray (c0 :: c1 :: c2 :: c3 :: t 8 :: t 9 :: c6 :: c7 :: c8 :: c9 :: c10 :: t 0 :: t 1 :: t 2 :: t 3 :: t 4 :: t 5 :: t 6 :: t 7 :: c19 :: c20 :: c21 :: c22 :: c23 :: c24 :: c25 :: []), defers := [] } : Act)) _ _ _ _ _ _ _ _ _ _ _ _ _ _ _ _)
    (Ext := ExA w3 8 9 10 11 (ev x * ev iv % fp) (ev y * ev iv % fp)) (Good := fun i L _ v => if i = 0 then v = .pointer (some ⟨g, 0, none⟩) else if i = 1 then v = .pointer (some ⟨g, 0, none⟩) else if i = 2 then v = .pointer (some ⟨g, 0, none⟩) else if i = 3 then EV (ev x * ev iv % fp) v else if i = 4 then v = .pointer (some ⟨g, 0, none⟩) else if i = 5 then v = .pointer (some ⟨g, 0, none⟩) else if i = 6 then v = .pointer (some ⟨g, 5, none⟩) else if i = 7 then EV (ev y * ev iv % fp) v else if i = 8 then L 8 = true else if i = 9 then L 9 = true else if i = 10 then L 10 = true else if i = 11 then L 11 = true else True) ?hstab (by kernel_rfl) ?hop ?hdone _ _ ((fun (x0 x1 x2 x3 x4 x5 x6 x7 x8 x9 : Value) => fun (i : Nat) => if i = 0 then x0 else if i = 1 then x1 else if i = 2 then x2 else if i = 3 then x3 else if i = 4 then x4 else if i = 5 then x5 else if i = 6 then x6 else if i = 7 then x7 else if i = 8 then x8 else if i = 9 then x9 else undef) _ _ _ _ _ _ _ _ _ _) _ (by simp) ?ext ?start (by simp)
  case start => intro i hi h; exact absurd h (by rw [Array.getD_eq_getD_getElem?, Array.getElem?_replicate]; split <;> simp)
  case ext => exact ExA.start _ _ _ (by simp) (by simp) (by simp) (by simp) ⟨rfl, rfl, rfl, Nat.le_refl _, fun _ _ => rfl⟩
  case hstab =>
    intro j L w9 w' i v _ _ _ h
    by_cases h8 : j = 8
    · subst h8
      simp at h ⊢
      unfold updK; simp [h]
    by_cases h9 : j = 9
    · subst h9
      simp at h ⊢
      unfold updK; simp [h]
    by_cases h10 : j = 10
    · subst h10
      simp at h ⊢
      unfold updK; simp [h]
    by_cases h11 : j = 11
    · subst h11
      simp at h ⊢
      unfold updK; simp [h]
    simp only [if_neg h8, if_neg h9, if_neg h10, if_neg h11] at h ⊢
    exact h
  case hop =>
    intro i o L t w' ho hLi hx hdep K hK
    have hi : i < 12 := (Array.getElem?_eq_some_iff.1 ho).1
    obtain rfl | rfl | rfl | rfl | rfl | rfl | rfl | rfl | rfl | rfl | rfl | rfl : i = 0 ∨ i = 1 ∨ i = 2 ∨ i = 3 ∨ i = 4 ∨ i = 5 ∨ i = 6 ∨ i = 7 ∨ i = 8 ∨ i = 9 ∨ i = 10 ∨ i = 11 := by omega
    all_goals (simp at ho; subst ho)
    · clear hdep
      have hK' := hK w' (.pointer (some ⟨g, 0, none⟩)) (by simp) (hx.low 0 (by decide) (by decide) (by decide) (by decide) _ (Below.refl _ _)) trivial
      clear hK
      rw [if_pos (by rfl)]
      go_simp
      simpa [upd] using hK'
    · have d0 : t 0 = .pointer (some ⟨g, 0, none⟩) := by simpa using hdep ⟨0, .data⟩ (by simp) rfl
      clear hdep
      have hK' := hK w' (.pointer (some ⟨g, 0, none⟩)) (by simp) (hx.low 1 (by decide) (by decide) (by decide) (by decide) _ (Below.refl _ _)) trivial
      clear hK
      rw [if_pos (by rfl)]
      go_simp
      simpa [upd, d0] using hK'
    · have d1 : t 1 = .pointer (some ⟨g, 0, none⟩) := by simpa using hdep ⟨1, .data⟩ (by simp) rfl
      clear hdep
      have hK' := hK w' (.pointer (some ⟨g, 0, none⟩)) (by simp) (hx.low 2 (by decide) (by decide) (by decide) (by decide) _ (Below.refl _ _)) trivial
      clear hK
      rw [if_pos (by rfl)]
      go_simp
      simpa [upd, d1] using hK'
    · have d2 : t 2 = .pointer (some ⟨g, 0, none⟩) := by simpa using hdep ⟨2, .data⟩ (by simp) rfl
      clear hdep
      have A := times_any g 0 G3a 0 x iv w' ((HS3.out.el 0 _ _ _ rfl).below hx.below) ((HS3.out.re 0 _ _ rfl).below hx.below)
      have hK' : ∀ ww v, EV (ev x * ev iv % fp) v → Below w'.heap.size w' ww → K _ ww := fun ww v hv hb => hK ww v (by simpa using hv) (hx.low 3 (by decide) (by decide) (by decide) (by decide) _ hb) trivial
      clear hK
      rw [if_pos (by rfl)]
      go_simp
      try simp only [d2]
      refine A.mono ?_
      rintro e w9 ⟨es, hk, hv, rfl, hb⟩
      have hK2 := hK' w9 _ ⟨es, hk, hv, rfl⟩ hb
      clear hK' A hk hv hb
      go_simp
      simpa [upd, d2] using hK2
    · clear hdep
      have hK' := hK w' (.pointer (some ⟨g, 0, none⟩)) (by simp) (hx.low 4 (by decide) (by decide) (by decide) (by decide) _ (Below.refl _ _)) trivial
      clear hK
      rw [if_pos (by rfl)]
      go_simp
      simpa [upd] using hK'
    · have d4 : t 4 = .pointer (some ⟨g, 0, none⟩) := by simpa using hdep ⟨4, .data⟩ (by simp) rfl
      clear hdep
      have hK' := hK w' (.pointer (some ⟨g, 0, none⟩)) (by simp) (hx.low 5 (by decide) (by decide) (by decide) (by decide) _ (Below.refl _ _)) trivial
      clear hK
      rw [if_pos (by rfl)]
      go_simp
      simpa [upd, d4] using hK'
    · have d5 : t 5 = .pointer (some ⟨g, 0, none⟩) := by simpa using hdep ⟨5, .data⟩ (by simp) rfl
      clear hdep
      have hK' := hK w' (.pointer (some ⟨g, 5, none⟩)) (by simp) (hx.low 6 (by decide) (by decide) (by decide) (by decide) _ (Below.refl _ _)) trivial
      clear hK
      rw [if_pos (by rfl)]
      go_simp
      simpa [upd, d5] using hK'
    · have d6 : t 6 = .pointer (some ⟨g, 5, none⟩) := by simpa using hdep ⟨6, .data⟩ (by simp) rfl
      clear hdep
      have A := times_any g 5 G3a 0 y iv w' ((HS3.out.el 1 _ _ _ rfl).below hx.below) ((HS3.out.re 0 _ _ rfl).below hx.below)
      have hK' : ∀ ww v, EV (ev y * ev iv % fp) v → Below w'.heap.size w' ww → K _ ww := fun ww v hv hb => hK ww v (by simpa using hv) (hx.low 7 (by decide) (by decide) (by decide) (by decide) _ hb) trivial
      clear hK
      rw [if_pos (by rfl)]
      go_simp
      try simp only [d6]
      refine A.mono ?_
      rintro e w9 ⟨es, hk, hv, rfl, hb⟩
      have hK2 := hK' w9 _ ⟨es, hk, hv, rfl⟩ hb
      clear hK' A hk hv hb
      go_simp
      simpa [upd, d6] using hK2
    · clear hdep
      have hK' := hK _ (.pointer (some ⟨w'.heap.size, 0, none⟩)) (by simp [updK]) (hx.alloc1 hLi (by decide) (by decide) (by decide)) trivial
      clear hK
      rw [if_pos (by rfl)]
      go_simp
      simpa [upd] using hK'
    · clear hdep
      have hK' := hK _ (.pointer (some ⟨w'.heap.size, 0, none⟩)) (by simp [updK]) (hx.alloc2 hLi (by decide) (by decide) (by decide)) trivial
      clear hK
      rw [if_pos (by rfl)]
      go_simp
      simpa [upd] using hK'
    · have l8 : L 8 = true := by simpa using hdep ⟨8, .data⟩ (by simp) rfl
      have f3 : EV (ev x * ev iv % fp) (t 3) := by simpa using hdep ⟨3, .data⟩ (by simp) rfl
      clear hdep
      obtain ⟨g9, zs9, e9, r9, k9⟩ := hx.get1 l8
      refine f3.elim_ fun es9 ke ve ee => ?_
      have hK' : ∀ ww, RowW ww g9 82 es9 → Wr g9 w' ww → K _ ww := fun ww rr hw => hK ww undef (by simp [updK]) (hx.store1 l8 e9 (by decide) (by decide) (by decide) ke ve hw rr _) trivial
      clear hK
      rw [if_pos (by rfl)]
      refine wp_storeX (.tmp 4) (.tmp 14) rfl g9 zs9 es9 e9 ee ke k9 r9 fun ww rr hw => ?_
      have hK2 := hK' ww rr hw
      clear hK'
      simpa [upd, Act.put] using hK2
    · have l9 : L 9 = true := by simpa using hdep ⟨9, .data⟩ (by simp) rfl
      have f7 : EV (ev y * ev iv % fp) (t 7) := by simpa using hdep ⟨7, .data⟩ (by simp) rfl
      clear hdep
      obtain ⟨g9, zs9, e9, r9, k9⟩ := hx.swap.get1 l9
      refine f7.elim_ fun es9 ke ve ee => ?_
      have hK' : ∀ ww, RowW ww g9 82 es9 → Wr g9 w' ww → K _ ww := fun ww rr hw => hK ww undef (by simp [updK]) (hx.store2 l9 e9 (by decide) (by decide) (by decide) ke ve hw rr _) trivial
      clear hK
      rw [if_pos (by rfl)]
      refine wp_storeX (.tmp 5) (.tmp 18) rfl g9 zs9 es9 e9 ee ke k9 r9 fun ww rr hw => ?_
      have hK2 := hK' ww rr hw
      clear hK'
      simpa [upd, Act.put] using hK2
  case hdone =>
    intro L t4 w4 hx hg
    have l10 : L 10 = true := by simpa using hg 10 (by decide)
    have l11 : L 11 = true := by simpa using hg 11 (by decide)
    clear hg
    obtain ⟨G4a, xx, q1, qg1, qr1, qk1, qv1⟩ := hx.fin1 l10
    obtain ⟨G4b, yy, q2, qg2, qr2, qk2, qv2⟩ := hx.swap.fin1 l11
    have qne := hx.ne (hx.v1.1 l10) (hx.v2.1 l11) _ _ q1 q2
    have HS4 : Hid (RunD w0 w4 [(G4b, yy), (G4a, xx), (G3a, iv)] [(g, 0, x), (g, 5, y), (g, 10, z)]) := HS3.out.two hx.below qg1 qr1 qk1 qg2 qr2 qk2 qne
    have HKxx : Hid (EOk xx ∧ ev xx = ev x * ev iv % fp) := ⟨qk1, qv1⟩
    have HKyy : Hid (EOk yy ∧ ev yy = ev y * ev iv % fp) := ⟨qk2, qv2⟩
    simp only [q1, q2]
    clear hx q1 q2 qg1 qg2 qr1 qr2 qk1 qk2 qv1 qv2 qne HS3
    go_wp2_with fail
    refine (number_any G4b 0 yy _ (HS4.out.re 0 _ _ rfl)).mono ?_
    rintro e wn ⟨ms, hl, hw, hv, rfl, b⟩
    match ms, hl with
    | [n0, n1, n2, n3], _ =>
    obtain ⟨a0, a1⟩ := hw.get 0
    obtain ⟨b0, b1⟩ := hw.get 1
    obtain ⟨c0, c1⟩ := hw.get 2
    obtain ⟨d0, d1⟩ := hw.get 3
    simp only [List.getD_cons_zero, List.getD_cons_succ] at a0 a1 b0 b1 c0 c1 d0 d1
    have HSn : Hid (RunD w0 (wn.alloc (.cells #[.int .u64 n0, .int .u64 n1, .int .u64 n2, .int .u64 n3] 100)) [(G4b, yy), (G4a, xx), (G3a, iv)] [(g, 0, x), (g, 5, y), (g, 10, z)]) := (HS4.out.call b).call (below_new2 _ _)
    have HNR : Hid (RowW (wn.alloc (.cells #[.int .u64 n0, .int .u64 n1, .int .u64 n2, .int .u64 n3] 100)) wn.heap.size 100 [n0, n1, n2, n3]) := heap_alloc_new wn _
    have hd3 : n3 < 9223372036854775808 := by
      have e1 := HKyy.out.2
      have e2 := ev_bd yy
      have e3 : val 18446744073709551616 [n0, n1, n2, n3] < 57896044618658097711785492504343953926634992332820282019728792003956564819968 := by
        rw [hv]
        have : fp < 57896044618658097711785492504343953926634992332820282019728792003956564819968 := by decide
        omega
      simp only [val] at e3
      omega
    have HV : Hid (val 18446744073709551616 [n0, n1, n2, n3] = ev y * inv0 (ev z) % fp ∧ ev xx = ev x * inv0 (ev z) % fp) := ⟨by rw [hv, HKyy.out.2, HKiv.out.2], by rw [HKxx.out.2, HKiv.out.2]⟩
    have HGW : Hid (w0.heap.size ≤ wn.heap.size) := Nat.le_trans HS4.out.below.size b.size
    clear hv b HS4 hw
    simp only [List.map_cons, List.map_nil]
    go_wp2_with fail
    generalize wn.alloc (.cells #[.int .u64 n0, .int .u64 n1, .int .u64 n2, .int .u64 n3] 100) = w6 at *
    refine (isOdd_any G4a 0 xx _ (HSn.out.re 1 _ _ rfl)).mono ?_
    rintro e w7 ⟨rfl, b⟩
    have HR7 : Hid (w7.heap[wn.heap.size]? = some (.cells #[.int .u64 n0, .int .u64 n1, .int .u64 n2, .int .u64 n3] 100 (0, 0))) := (HNR.out.below b HNR.out.lt)
    have HB7 : Hid (Below w0.heap.size w0 w7) := HSn.out.below.trans (b.mono HSn.out.below.size)
    have HZ7 : Hid (w7.heap[w.heap.size]? = some (.cells #[.int .u64 0, .int .u64 0, .int .u64 0, .int .u64 0] 100 (0, 0))) := by show _ = _; rw [HB7.out.block _ hs0]; exact HR0
    have HSZ : Hid ((Try.prog.info? 100).map (·.size) = some 4) := by show _ = _; kernel_rfl
    have HB : Hid (Below w.heap.size w w7) := bw.trans (HB7.out.mono bw.size)
    have hne : wn.heap.size ≠ w.heap.size := by have := HGW.out; omega
    have hG6 : w.heap.size ≤ wn.heap.size := by have := HGW.out; omega
    clear b HSn HNR HB7 HR0 bw hs0 HKxx HKyy HKiv HGW
    generalize wn.heap.size = G6 at *
    have hx2 : ev xx % 2 = 0 ∨ ev xx % 2 = 1 := by omega
    rcases hx2 with hx2 | hx2
    · have HF : Hid (val 18446744073709551616 [n0, n1, n2, n3] = cdV (ev x) (ev y) (ev z)) := by
        show _ = _
        unfold cdV
        rw [HV.out.1, ← HV.out.2, hx2]; omega
      rw [show (ev xx % 2 == 1) = false by rw [hx2]; rfl]
      go_wp2_with (first
        | (refine wpList_load_row rfl 100 (.tmp 6) rfl G6 rfl 100 _ (0, 0) _ HR7.out Try.underlying100 rfl HSZ.out ?_)
        | (refine wpList_store_row rfl 100 (.tmp 2) (.tmp 25) rfl w.heap.size #[.int .u64 n0, .int .u64 n1, .int .u64 n2, .int .u64 n3] rfl rfl 100 _ HZ7.out HSZ.out rfl (by simp [Value.oneCell']) ?_)
        | fail)
      refine bodyPost_ret (v := .agg #[.int .u64 n0, .int .u64 n1, .int .u64 n2, .int .u64 n3]) (results_cell_row rfl _ _ w.heap.size 100 _ (0, 0) _ rfl (setRow_heap _ _ _ _ _ _ HZ7.out) Try.underlying100 rfl HSZ.out) rfl ?_
      exact ⟨[n0, n1, n2, n3], rfl, wrd4 a0 a1 b0 b1 c0 c1 d0 d1, HF.out, rfl, HB.out.trans ((Wr.setRow _ _ _).below (Nat.le_refl _))⟩
    · have HF : Hid (val 18446744073709551616 [n0, n1, n2, n3 + 9223372036854775808] = cdV (ev x) (ev y) (ev z)) := by
        show _ = _
        have e1 := HV.out.1
        unfold cdV top255
        rw [← HV.out.2, hx2, ← e1]
        simp only [val]; omega
      have HOR : Hid (bits .or .u64 n3 9223372036854775808 = n3 + 9223372036854775808) := u64_or_add' 9223372036854775808 n3 63 (by decide) (by decide) d0 (by show n3 < 9223372036854775808; exact hd3) d1 1 (by decide)
      have HS8 : Hid ((w7.setCell ⟨G6, 3, none⟩ (.int .u64 (bits .or .u64 n3 9223372036854775808))).heap[G6]? = some (.cells #[.int .u64 n0, .int .u64 n1, .int .u64 n2, .int .u64 (bits .or .u64 n3 9223372036854775808)] 100 (0, 0))) := by
        show _ = _; rw [heap_setCell_same w7 G6 3 _ _ _ HR7.out]; rfl
      have HZ8 : Hid ((w7.setCell ⟨G6, 3, none⟩ (.int .u64 (bits .or .u64 n3 9223372036854775808))).heap[w.heap.size]? = some (.cells #[.int .u64 0, .int .u64 0, .int .u64 0, .int .u64 0] 100 (0, 0))) := by
        show _ = _; rw [((Wr.refl G6 w7).setCell 3 _).block _ (Ne.symm hne)]; exact HZ7.out
      have HB8 : Hid (Below w.heap.size w (w7.setCell ⟨G6, 3, none⟩ (.int .u64 (bits .or .u64 n3 9223372036854775808)))) := HB.out.trans (((Wr.refl G6 w7).setCell 3 _).below hG6)
      have c3 : w7.cell? ⟨G6, 3, none⟩ = some (.int .u64 n3) := by rw [cell_of_row w7 G6 3 _ _ _ HR7.out]; rfl
      have f3 : w7.frozen? ⟨G6, 3, none⟩ = false := frozen_of_row w7 G6 3 _ _ HR7.out
      rw [show (ev xx % 2 == 1) = true by rw [hx2]; rfl]
      go_wp2_with (first
        | (refine wpList_load_row rfl 100 (.tmp 6) rfl G6 rfl 100 _ (0, 0) _ HS8.out Try.underlying100 rfl HSZ.out ?_)
        | (refine wpList_store_row rfl 100 (.tmp 2) (.tmp 25) rfl w.heap.size #[.int .u64 n0, .int .u64 n1, .int .u64 n2, .int .u64 (bits .or .u64 n3 9223372036854775808)] rfl rfl 100 _ HZ8.out HSZ.out rfl (by simp [Value.oneCell']) ?_)
        | fail)
      refine bodyPost_ret (v := .agg #[.int .u64 n0, .int .u64 n1, .int .u64 n2, .int .u64 (bits .or .u64 n3 9223372036854775808)]) (results_cell_row rfl _ _ w.heap.size 100 _ (0, 0) _ rfl (setRow_heap _ _ _ _ _ _ HZ8.out) Try.underlying100 rfl HSZ.out) rfl ?_
      exact ⟨[n0, n1, n2, n3 + 9223372036854775808], rfl, wrd4 a0 a1 b0 b1 c0 c1 (by omega) (by omega), HF.out, by rw [HOR.out]; rfl, HB8.out.trans ((Wr.setRow _ _ _).below (Nat.le_refl _))⟩
end Go.Proofs.Ythghkfncpdnpoac
