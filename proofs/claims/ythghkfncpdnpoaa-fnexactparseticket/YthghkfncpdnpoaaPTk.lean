/-
  Own work: a ticket's parts, of the program and of the model.
-/
import Derived.Test.YthghkfncpdnpoaaWrd
import Derived.Test.YthghkfncpdnpoaaOwnB
import Derived.Test.YthghkfncpdnpoaaReg4
import Derived.BigRegion
namespace Go.Proofs.Ythghkfncpdnpoaa
open Go.ChangeShapes Go.WideShapes Go.ChangeAt Go.RowKit
set_option linter.unusedVariables false

theorem i64_or_nat (a b : Nat) (ha : a < 4611686018427387904) (hb : b < 4611686018427387904) : bits .or .i64 (a : Int) (b : Int) = ((a ||| b : Nat) : Int) := by
  have hx : a ||| b < 2 ^ 62 := Nat.or_lt_two_pow (by omega) (by omega)
  show IntKind.i64.wrap ((BitVec.ofInt 64 (a : Int) ||| BitVec.ofInt 64 (b : Int)).toNat : Int) = _
  rw [BitVec.toNat_or, ofInt_u64 a (by omega), ofInt_u64 b (by omega), IntKind.wrap_i64]
  omega
theorem i64_or_add (a b : Int) (k : Nat) (ha : 0 ≤ a) (ha' : a < 4611686018427387904) (hb : 0 ≤ b) (hb' : b < 2 ^ k) (hb'' : b < 4611686018427387904) (q : Int) (hd : a = q * 2 ^ k) : bits .or .i64 b a = b + a := by
  have h := u64_or_add a b k ha (by omega) hb hb' (by omega) q hd
  obtain ⟨a, rfl⟩ := Int.eq_ofNat_of_zero_le ha
  obtain ⟨b, rfl⟩ := Int.eq_ofNat_of_zero_le hb
  rw [u64_or_nat a b (by omega) (by omega)] at h
  rw [i64_or_nat b a (by omega) (by omega), Nat.or_comm]; omega
theorem le_step (v x : Int) (j : Nat) (hj : j < 7) (h0 : 0 ≤ v) (h1 : v < 256 ^ j) (x0 : 0 ≤ x) (x1 : x < 256) :
    bits .or .i64 v (wrap64 (x * 2 ^ (8 * j))) = v + x * 256 ^ j := by
  have e : (2 : Int) ^ (8 * j) = 256 ^ j := by rw [Int.pow_mul]; rfl
  have hle : (256 : Int) ^ j ≤ 256 ^ 6 := by
    have : j = 0 ∨ j = 1 ∨ j = 2 ∨ j = 3 ∨ j = 4 ∨ j = 5 ∨ j = 6 := by omega
    rcases this with h | h | h | h | h | h | h <;> rw [h] <;> decide
  have hP0 : (0 : Int) < 256 ^ j := Int.pow_pos (by decide)
  have e7 : (256 : Int) ^ 6 = 281474976710656 := by decide
  rw [e7] at hle
  have m0 : 0 ≤ x * 256 ^ j := Int.mul_nonneg x0 (by omega)
  have m1 : x * 256 ^ j ≤ 255 * 256 ^ j := Int.mul_le_mul_of_nonneg_right (by omega) (by omega)
  rw [e]
  unfold wrap64
  have e2 : (x * 256 ^ j + 9223372036854775808) % 18446744073709551616 - 9223372036854775808 = x * 256 ^ j := by omega
  rw [e2]
  exact i64_or_add _ _ (8 * j) m0 (by omega) h0 (by rw [e]; exact h1) (by omega) x (by rw [e])

set_option maxHeartbeats 400000 in
theorem le_any (a : Option Addr) (n cap : Nat) (zs : List Int) (w : World) (hn : zs.length = n) (hm : n ≤ 7) (ha : At .u8 w a zs) (hz : Byte zs) :
    Calls Try.prog 29 #[.slice a n cap] w fun e w' => e = .returned (.int .i64 (val 256 zs)) ∧ w' = w := by
  go_enter Try.func29, Try.ntmps29
  go_wp2
  go_loop [3, 8] (fun c i => ∃ k : Nat, k ≤ n ∧ i = .int .i64 k ∧ c = .int .i64 (val 256 (zs.take k))) (fun _ i => n - (intOf i).toNat)
  case atStart => exact ⟨0, Nat.zero_le _, rfl, rfl⟩
  case round =>
    obtain ⟨k, hk, rfl, rfl⟩ := hrel
    by_cases hlt : k < n
    · obtain ⟨b, off, rfl, hb, hc⟩ := ha.get (by omega)
      have hck := hc k (by omega)
      have hx := hz.get k
      have ht0 : 0 ≤ val 256 (zs.take k) := val_nonneg (by decide) (fun z hz' => hz z (List.mem_of_mem_take hz'))
      have ht1 : val 256 (zs.take k) < 256 ^ k := by
        have := val_lt (B := 256) (by decide) (xs := zs.take k) (fun z hz' => hz z (List.mem_of_mem_take hz'))
        rwa [List.length_take, Nat.min_eq_left (by omega)] at this
      have hs := le_step _ _ k (by omega) ht0 ht1 hx.1 hx.2
      rw [← val_take 256 zs k (by omega)] at hs
      have HS : Hid (bits .or .i64 (val 256 (zs.take k)) (wrap64 (zs.getD k 0 * 2 ^ (8 * k))) = val 256 (zs.take (k + 1))) := hs
      clear hs hc ht0 ht1
      generalize zs.getD k 0 = x at *
      generalize val 256 (zs.take k) = c at *
      obtain ⟨hx0, hx1⟩ := hx
      go_wp2
      go_round
      case rel => exact ⟨k + 1, by omega, by go_num, by rw [← HS.out]⟩
      case measure => simp [intOf]; omega
    · have hk' : k = n := by omega
      subst hk'
      have HT : Hid (zs.take k = zs) := List.take_of_length_le (by omega)
      go_wp2
      go_ret
      exact ⟨ret_int (by rw [HT.out]), rfl⟩

def tkB (zs : List Int) : Bool := decide (zs.length = 72) && (decide (zs.getD 0 0 = 84) && decide (zs.getD 1 0 = 49))
def tkS (zs : List Int) : Int := zs.getD 2 0 + 256 * zs.getD 3 0
def tkE (zs : List Int) : Int := zs.getD 4 0 + 256 * zs.getD 5 0 + 65536 * zs.getD 6 0 + 16777216 * zs.getD 7 0
def tkV (zs : List Int) : Value := bif tkB zs then .agg #[.bool true, .int .i64 (tkS zs), .int .i64 (tkE zs)] else .agg #[.bool false, .int .i64 0, .int .i64 0]
theorem tkV_no {zs : List Int} (h : tkB zs = false) : tkV zs = .agg #[.bool false, .int .i64 0, .int .i64 0] := by unfold tkV; rw [h]; rfl
theorem tkV_yes {zs : List Int} (h : tkB zs = true) : tkV zs = .agg #[.bool true, .int .i64 (tkS zs), .int .i64 (tkE zs)] := by unfold tkV; rw [h]; rfl
theorem drop_two (zs : List Int) (k : Nat) (h : k + 2 ≤ zs.length) : (zs.drop k).take 2 = [zs.getD k 0, zs.getD (k + 1) 0] := by
  apply List.ext_getElem
  · simp; omega
  · intro i h1 h2
    have : i = 0 ∨ i = 1 := by simp at h2; omega
    rcases this with rfl | rfl
    · simp [List.getD, show k < zs.length by omega]
    · simp [List.getD, show k + 1 < zs.length by omega]
theorem drop_four (zs : List Int) (k : Nat) (h : k + 4 ≤ zs.length) : (zs.drop k).take 4 = [zs.getD k 0, zs.getD (k + 1) 0, zs.getD (k + 2) 0, zs.getD (k + 3) 0] := by
  apply List.ext_getElem
  · simp; omega
  · intro i h1 h2
    have : i = 0 ∨ i = 1 ∨ i = 2 ∨ i = 3 := by simp at h2; omega
    rcases this with rfl | rfl | rfl | rfl
    · simp [List.getD, show k < zs.length by omega]
    · simp [List.getD, show k + 1 < zs.length by omega]
    · simp [List.getD, show k + 2 < zs.length by omega]
    · simp [List.getD, show k + 3 < zs.length by omega]
theorem tkS_eq {zs : List Int} (h : zs.length = 72) : val 256 ((zs.drop 2).take 2) = tkS zs := by
  rw [drop_two zs 2 (by omega)]; unfold tkS; simp only [val, show 2 + 1 = 3 from rfl]; omega
theorem tkE_eq {zs : List Int} (h : zs.length = 72) : val 256 ((zs.drop 4).take 4) = tkE zs := by
  rw [drop_four zs 4 (by omega)]; unfold tkE; simp only [val, show 4 + 1 = 5 from rfl, show 4 + 2 = 6 from rfl, show 4 + 3 = 7 from rfl]; omega
theorem At.sub {k : IntKind} {w : World} {b off : Nat} {zs : List Int} (hb : b < w.heap.size) (h : ∀ i, i < zs.length → w.cell? ⟨b, off + i, none⟩ = some (.int k (zs.getD i 0))) (p m : Nat) (hp : p + m ≤ zs.length) :
    At k w (some ⟨b, off + p, none⟩) ((zs.drop p).take m) := by
  refine .inr ⟨b, off + p, rfl, hb, fun i hi => ?_⟩
  have hi' : i < m := by simp at hi; omega
  rw [Nat.add_assoc, h (p + i) (by omega)]
  simp [List.getD, hi', show p + i < zs.length by omega]
theorem Byte.sub {zs : List Int} (h : Byte zs) (p m : Nat) : Byte ((zs.drop p).take m) := fun z hz => h z (List.mem_of_mem_drop (List.mem_of_mem_take hz))
theorem below_drewQ {B : Nat} {a w : World} (h : Below B a w) (n : Nat) : Below B a (w.drewN n) := ⟨h.os, h.tape, h.output, h.size, h.block⟩

set_option maxHeartbeats 1000000 in
theorem ptI_any (a : Option Addr) (n cap : Nat) (zs : List Int) (w : World) (hn : zs.length = n) (hm : n ≤ 1048576) (hcap : n ≤ cap) (ha : At .u8 w a zs) (hz : Byte zs) :
    Calls Try.prog 15 #[.slice a n cap] w fun e w' => e = .returned (tkV zs) ∧ Below w.heap.size w w' := by
  have HBN : Hid (Below w.heap.size w (w.alloc (.cells #[.bool false, .int .i64 0, .int .i64 0] 29))) := (Below.refl _ _).alloc (Nat.le_refl _) _
  have HSF : Hid ((Try.prog.info? 29).map (·.size) = some 3) := by show _ = _; kernel_rfl
  by_cases h72 : n = 72
  · subst h72
    obtain ⟨b, off, rfl, hb, hc⟩ := ha.get (by omega)
    have hb' : b ≠ w.heap.size := by omega
    have c0 : (w.alloc (.cells #[.bool false, .int .i64 0, .int .i64 0] 29)).cell? ⟨b, off, none⟩ = some (.int .u8 (zs.getD 0 0)) := by rw [World.cell?_alloc_old _ _ _ hb']; exact hc 0 (by omega)
    have c1 : (w.alloc (.cells #[.bool false, .int .i64 0, .int .i64 0] 29)).cell? ⟨b, off + 1, none⟩ = some (.int .u8 (zs.getD 1 0)) := by rw [World.cell?_alloc_old _ _ _ hb']; exact hc 1 (by omega)
    have HTB : Hid (tkB zs = (decide (zs.getD 0 0 = 84) && decide (zs.getD 1 0 = 49))) := by show _ = _; unfold tkB; rw [hn]; rfl
    by_cases h0 : zs.getD 0 0 = 84
    · rw [h0] at c0
      by_cases h1 : zs.getD 1 0 = 49
      · have HV : Hid (tkV zs = .agg #[.bool true, .int .i64 (tkS zs), .int .i64 (tkE zs)]) := tkV_yes (by rw [HTB.out, h0, h1]; rfl)
        rw [h1] at c1
        clear h0 h1
        clear HTB
        have AT : ∀ (p m : Nat) (q : Nat), p + m ≤ 72 → At .u8 ((w.alloc (.cells #[.bool false, .int .i64 0, .int .i64 0] 29)).drewN q) (some ⟨b, off + p, none⟩) ((zs.drop p).take m) := fun p m q h =>
          At.sub (w := (w.alloc (.cells #[.bool false, .int .i64 0, .int .i64 0] 29)).drewN q) (show b < ((w.alloc (.cells #[.bool false, .int .i64 0, .int .i64 0] 29))).heap.size by simp; omega) (fun i hi => by show ((w.alloc (.cells #[.bool false, .int .i64 0, .int .i64 0] 29))).cell? _ = _; rw [World.cell?_alloc_old _ _ _ hb']; exact hc i hi) p m (by omega)
        have C2 : Hid (∀ q, Calls Try.prog 29 #[.slice (some ⟨b, off + 2, none⟩) 2 (cap - 2)] ((w.alloc (.cells #[.bool false, .int .i64 0, .int .i64 0] 29)).drewN q) fun e w' => e = .returned (.int .i64 (tkS zs)) ∧ w' = (w.alloc (.cells #[.bool false, .int .i64 0, .int .i64 0] 29)).drewN q) := fun q => by
          rw [← tkS_eq hn]; exact le_any _ 2 (cap - 2) _ _ (by simp; omega) (by decide) (AT 2 2 q (by decide)) (hz.sub 2 2)
        have C4 : Hid (∀ q, Calls Try.prog 29 #[.slice (some ⟨b, off + 4, none⟩) 4 (cap - 4)] ((w.alloc (.cells #[.bool false, .int .i64 0, .int .i64 0] 29)).drewN q) fun e w' => e = .returned (.int .i64 (tkE zs)) ∧ w' = (w.alloc (.cells #[.bool false, .int .i64 0, .int .i64 0] 29)).drewN q) := fun q => by
          rw [← tkE_eq hn]; exact le_any _ 4 (cap - 4) _ _ (by simp; omega) (by decide) (AT 4 4 q (by decide)) (hz.sub 4 4)
        clear AT
        have x1 : (4 : Int) ≤ (cap : Int) := by omega
        have x2 : (8 : Int) ≤ (cap : Int) := by omega
        have x3 : ¬ cap = 2 := by omega
        have x4 : ¬ cap = 4 := by omega
        go_enter Try.func15, Try.ntmps15
        go_wp2_with fail
        refine wp_region_any (by kernel_rfl) ?_
        refine wpAny_slotsL 7 (fun w w' => True) (frame := (fun (c0 c1 c2 c3 c4 c5 c6 c7 c8 c9 c10 c11 c12 c13 c14 c15 c16 c17 c18 : Value) => fun (t : Nat → Value) => ({ tmps := List.toArray (c0 :: c1 :: c2 :: c3 :: c4 :: c5 :: c6 :: c7 :: c8 :: c9 :: c10 :: c11 :: c12 :: c13 :: c14 :: c15 :: c16 :: c17 :: c18 :: t 0 :: t 1 :: t 2 :: t 3 :: t 4 :: t 5 :: t 6 :: []), defers := [] } : Act)) _ _ _ _ _ _ _ _ _ _ _ _ _ _ _ _ _ _ _)
          (Ext := fun w' => ∃ q, w' = (w.alloc (.cells #[.bool false, .int .i64 0, .int .i64 0] 29)).drewN q) (Good := fun i _ v => if i = 0 then v = .slice (some ⟨b, off, none⟩) 72 cap else if i = 1 then v = .slice (some ⟨b, off + 2, none⟩) 2 (cap - 2) else if i = 2 then v = .int .i64 (tkS zs) else if i = 3 then v = .slice (some ⟨b, off, none⟩) 72 cap else if i = 4 then v = .slice (some ⟨b, off + 4, none⟩) 4 (cap - 4) else if i = 5 then v = .int .i64 (tkE zs) else if i = 6 then v = .agg #[.bool true, .int .i64 (tkS zs), .int .i64 (tkE zs)] else True) (by rfl) (by kernel_rfl) (fun i w w' v _ h => h) (by kernel_rfl) (by kernel_rfl) ?hop ?hend _ _ ((fun (x0 x1 x2 x3 x4 x5 x6 : Value) => fun (i : Nat) => if i = 0 then x0 else if i = 1 then x1 else if i = 2 then x2 else if i = 3 then x3 else if i = 4 then x4 else if i = 5 then x5 else if i = 6 then x6 else undef) _ _ _ _ _ _ _) _ (by simp) (by simp) ?ext ?start (by simp)
        case start => intro i hi h; exact absurd h (by rw [Array.getD_eq_getD_getElem?, Array.getElem?_replicate]; split <;> simp)
        case ext => exact ⟨1, rfl⟩
        case hop =>
          intro i o t w' hil ho hx hdep K hK
          obtain ⟨q, rfl⟩ := hx
          obtain rfl | rfl | rfl | rfl | rfl | rfl | rfl : i = 0 ∨ i = 1 ∨ i = 2 ∨ i = 3 ∨ i = 4 ∨ i = 5 ∨ i = 6 := by omega
          all_goals (simp at ho; subst ho)
          · clear hdep
            have hK' := hK ((w.alloc (.cells #[.bool false, .int .i64 0, .int .i64 0] 29)).drewN q) (.slice (some ⟨b, off, none⟩) 72 cap) (by simp) ⟨q, rfl⟩ trivial
            clear hK
            go_simp
            simpa [upd] using hK'
          · have d0 : t 0 = .slice (some ⟨b, off, none⟩) 72 cap := by simpa using hdep ⟨0, .data⟩ (by simp) rfl
            clear hdep
            have hK' := hK ((w.alloc (.cells #[.bool false, .int .i64 0, .int .i64 0] 29)).drewN q) (.slice (some ⟨b, off + 2, none⟩) 2 (cap - 2)) (by simp) ⟨q, rfl⟩ trivial
            clear hK
            go_simp
            simpa [upd, d0] using hK'
          · have d1 : t 1 = .slice (some ⟨b, off + 2, none⟩) 2 (cap - 2) := by simpa using hdep ⟨1, .data⟩ (by simp) rfl
            clear hdep
            have hK' := hK ((w.alloc (.cells #[.bool false, .int .i64 0, .int .i64 0] 29)).drewN q) (.int .i64 (tkS zs)) (by simp) ⟨q, rfl⟩ trivial
            clear hK
            go_simp
            try simp only [d1]
            refine (C2.out q).mono ?_
            rintro e w9 ⟨rfl, rfl⟩
            go_simp
            simpa [upd, d1] using hK'
          · clear hdep
            have hK' := hK ((w.alloc (.cells #[.bool false, .int .i64 0, .int .i64 0] 29)).drewN q) (.slice (some ⟨b, off, none⟩) 72 cap) (by simp) ⟨q, rfl⟩ trivial
            clear hK
            go_simp
            simpa [upd] using hK'
          · have d3 : t 3 = .slice (some ⟨b, off, none⟩) 72 cap := by simpa using hdep ⟨3, .data⟩ (by simp) rfl
            clear hdep
            have hK' := hK ((w.alloc (.cells #[.bool false, .int .i64 0, .int .i64 0] 29)).drewN q) (.slice (some ⟨b, off + 4, none⟩) 4 (cap - 4)) (by simp) ⟨q, rfl⟩ trivial
            clear hK
            go_simp
            simpa [upd, d3] using hK'
          · have d4 : t 4 = .slice (some ⟨b, off + 4, none⟩) 4 (cap - 4) := by simpa using hdep ⟨4, .data⟩ (by simp) rfl
            clear hdep
            have hK' := hK ((w.alloc (.cells #[.bool false, .int .i64 0, .int .i64 0] 29)).drewN q) (.int .i64 (tkE zs)) (by simp) ⟨q, rfl⟩ trivial
            clear hK
            go_simp
            try simp only [d4]
            refine (C4.out q).mono ?_
            rintro e w9 ⟨rfl, rfl⟩
            go_simp
            simpa [upd, d4] using hK'
          · have d2 : t 2 = .int .i64 (tkS zs) := by simpa using hdep ⟨2, .data⟩ (by simp) rfl
            have d5 : t 5 = .int .i64 (tkE zs) := by simpa using hdep ⟨5, .data⟩ (by simp) rfl
            clear hdep
            have hK' := hK ((w.alloc (.cells #[.bool false, .int .i64 0, .int .i64 0] 29)).drewN q) (.agg #[.bool true, .int .i64 (tkS zs), .int .i64 (tkE zs)]) (by simp) ⟨q, rfl⟩ trivial
            clear hK
            go_simp
            simpa [upd, d2, d5] using hK'
        case hend =>
          intro o t w' ho hx hg K hK
          obtain ⟨q, rfl⟩ := hx
          simp at ho; subst ho
          have d0 : t 0 = .slice (some ⟨b, off, none⟩) 72 cap := by simpa using hg 0 (by decide)
          have d1 : t 1 = .slice (some ⟨b, off + 2, none⟩) 2 (cap - 2) := by simpa using hg 1 (by decide)
          have d2 : t 2 = .int .i64 (tkS zs) := by simpa using hg 2 (by decide)
          have d3 : t 3 = .slice (some ⟨b, off, none⟩) 72 cap := by simpa using hg 3 (by decide)
          have d4 : t 4 = .slice (some ⟨b, off + 4, none⟩) 4 (cap - 4) := by simpa using hg 4 (by decide)
          have d5 : t 5 = .int .i64 (tkE zs) := by simpa using hg 5 (by decide)
          have d6 : t 6 = .agg #[.bool true, .int .i64 (tkS zs), .int .i64 (tkE zs)] := by simpa using hg 6 (by decide)
          clear hg
          refine wp_store_row 29 (.tmp 2) (.tmp 25) rfl w.heap.size #[.bool true, .int .i64 (tkS zs), .int .i64 (tkE zs)] rfl d6 29 _ (show ((w.alloc (.cells #[.bool false, .int .i64 0, .int .i64 0] 29))).heap[w.heap.size]? = _ from heap_alloc_new w _) HSF.out rfl (by simp [Value.oneCell']) ?_
          apply hK
          have HR5 : Hid (((((w.alloc (.cells #[.bool false, .int .i64 0, .int .i64 0] 29))).drewN q).setRow w.heap.size #[.bool true, .int .i64 (tkS zs), .int .i64 (tkE zs)]).heap[w.heap.size]? = some (.cells #[.bool true, .int .i64 (tkS zs), .int .i64 (tkE zs)] 29 (0, 0))) :=
            setRow_heap _ _ _ _ _ _ (show ((w.alloc (.cells #[.bool false, .int .i64 0, .int .i64 0] 29))).heap[w.heap.size]? = _ from heap_alloc_new w _)
          have HB5 : Hid (Below w.heap.size w ((((w.alloc (.cells #[.bool false, .int .i64 0, .int .i64 0] 29))).drewN q).setRow w.heap.size #[.bool true, .int .i64 (tkS zs), .int .i64 (tkE zs)])) :=
            (below_drewQ HBN.out q).trans ((Wr.setRow _ _ _).below (Nat.le_refl _))
          generalize (((w.alloc (.cells #[.bool false, .int .i64 0, .int .i64 0] 29))).drewN q).setRow w.heap.size #[.bool true, .int .i64 (tkS zs), .int .i64 (tkE zs)] = w5 at *
          clear hK d0 d1 d2 d3 d4 d5
          go_wp2_with fail
          refine bodyPost_ret (v := .agg #[.bool true, .int .i64 (tkS zs), .int .i64 (tkE zs)]) (results_cell_row rfl _ _ w.heap.size 29 _ (0, 0) _ rfl HR5.out Try.underlying29 rfl HSF.out) rfl ⟨by rw [HV.out], HB5.out⟩

      · have HV : Hid (tkV zs = .agg #[.bool false, .int .i64 0, .int .i64 0]) := tkV_no (by rw [HTB.out, h0]; simpa using h1)
        have h1' : (zs.getD 1 0 == 49) = false := by simpa using h1
        clear hc HTB h0 h1
        generalize zs.getD 1 0 = z1 at *
        go_enter Try.func15, Try.ntmps15
        go_wp2
        refine bodyPost_ret (v := .agg #[.bool false, .int .i64 0, .int .i64 0]) (results_cell_row rfl _ _ w.heap.size 29 _ (0, 0) _ rfl (heap_alloc_new w _) Try.underlying29 rfl HSF.out) rfl ⟨by rw [HV.out], HBN.out⟩
    · have HV : Hid (tkV zs = .agg #[.bool false, .int .i64 0, .int .i64 0]) := tkV_no (by rw [HTB.out, decide_eq_false h0]; rfl)
      have h0' : (zs.getD 0 0 != 84) = true := by simpa using h0
      clear hc HTB c1
      generalize zs.getD 0 0 = z0 at *
      go_enter Try.func15, Try.ntmps15
      go_wp2
      refine bodyPost_ret (v := .agg #[.bool false, .int .i64 0, .int .i64 0]) (results_cell_row rfl _ _ w.heap.size 29 _ (0, 0) _ rfl (heap_alloc_new w _) Try.underlying29 rfl HSF.out) rfl ⟨by rw [HV.out], HBN.out⟩
  · have HV : Hid (tkV zs = .agg #[.bool false, .int .i64 0, .int .i64 0]) := tkV_no (by unfold tkB; rw [decide_eq_false (by omega)]; rfl)
    have h72' : ¬ ((n : Int) = 72) := by omega
    have h73 : ((n : Int) != 72) = true := by simpa using h72'
    clear ha h72
    go_enter Try.func15, Try.ntmps15
    go_wp2
    refine bodyPost_ret (v := .agg #[.bool false, .int .i64 0, .int .i64 0]) ?res rfl ?post
    case res => exact (results_cell_row rfl _ _ w.heap.size 29 _ (0, 0) _ rfl (heap_alloc_new w _) Try.underlying29 rfl HSF.out)
    case post => exact ⟨by rw [HV.out], HBN.out⟩

theorem tkE_u32 {zs : List Int} (hz : Byte zs) : 0 ≤ tkE zs ∧ tkE zs < 4294967296 := by
  have h4 := hz.get 4
  have h5 := hz.get 5
  have h6 := hz.get 6
  have h7 := hz.get 7
  unfold tkE; omega
set_option maxHeartbeats 400000 in
theorem getE_any (b off cap : Nat) (zs : List Int) (w : World) (hc : ∀ i, i < zs.length → w.cell? ⟨b, off + i, none⟩ = some (.int .u8 (zs.getD i 0))) (hz : Byte zs) (hl : zs.length = 72) :
    Calls Try.prog 28 #[.slice (some ⟨b, off, none⟩) 72 cap, .int .i64 4] w fun e w' => e = .returned (.int .u32 (tkE zs)) ∧ ∃ q, w' = w.drewN q := by
  have c0 := hc 4 (by omega)
  have c1 := hc 5 (by omega)
  have c2 := hc 6 (by omega)
  have c3 := hc 7 (by omega)
  have b0 := hz.get 4
  have b1 := hz.get 5
  have b2 := hz.get 6
  have b3 := hz.get 7
  have HN : Hid (tkE zs = zs.getD 4 0 + 256 * zs.getD 5 0 + 65536 * zs.getD 6 0 + 16777216 * zs.getD 7 0) := rfl
  generalize zs.getD 4 0 = x0 at *
  generalize zs.getD 5 0 = x1 at *
  generalize zs.getD 6 0 = x2 at *
  generalize zs.getD 7 0 = x3 at *
  clear hc
  obtain ⟨b01, b02⟩ := b0
  obtain ⟨b11, b12⟩ := b1
  obtain ⟨b21, b22⟩ := b2
  obtain ⟨b31, b32⟩ := b3
  go_enter Try.func28, Try.ntmps28
  go_wp2
  go_quiet (fail)
  go_wp2
  go_ret
  exact ⟨ret_int (by rw [HN.out]), nq, rfl⟩

set_option maxHeartbeats 1000000 in
theorem ptS_any (a : Option Addr) (n cap : Nat) (zs : List Int) (w : World) (hn : zs.length = n) (hm : n ≤ 1048576) (hcap : n ≤ cap) (ha : At .u8 w a zs) (hz : Byte zs) :
    Calls Try.prog 14 #[.slice a n cap] w fun e w' => e = .returned (tkV zs) ∧ Below w.heap.size w w' := by
  have HBN : Hid (Below w.heap.size w (w.alloc (.cells #[.bool false, .int .i64 0, .int .i64 0] 29))) := (Below.refl _ _).alloc (Nat.le_refl _) _
  have HSF : Hid ((Try.prog.info? 29).map (·.size) = some 3) := by show _ = _; kernel_rfl
  by_cases h72 : n = 72
  · subst h72
    obtain ⟨b, off, rfl, hb, hc⟩ := ha.get (by omega)
    have hb' : b ≠ w.heap.size := by omega
    have c0 : (w.alloc (.cells #[.bool false, .int .i64 0, .int .i64 0] 29)).cell? ⟨b, off, none⟩ = some (.int .u8 (zs.getD 0 0)) := by rw [World.cell?_alloc_old _ _ _ hb']; exact hc 0 (by omega)
    have c1 : (w.alloc (.cells #[.bool false, .int .i64 0, .int .i64 0] 29)).cell? ⟨b, off + 1, none⟩ = some (.int .u8 (zs.getD 1 0)) := by rw [World.cell?_alloc_old _ _ _ hb']; exact hc 1 (by omega)
    have HTB : Hid (tkB zs = (decide (zs.getD 0 0 = 84) && decide (zs.getD 1 0 = 49))) := by show _ = _; unfold tkB; rw [hn]; rfl
    by_cases h0 : zs.getD 0 0 = 84
    · rw [h0] at c0
      by_cases h1 : zs.getD 1 0 = 49
      · have HV : Hid (tkV zs = .agg #[.bool true, .int .i64 (tkS zs), .int .i64 (tkE zs)]) := tkV_yes (by rw [HTB.out, h0, h1]; rfl)
        rw [h1] at c1
        clear h0 h1
        clear HTB
        have b2 := hz.get 2
        have b3 := hz.get 3
        have c2 : ((w.alloc (.cells #[.bool false, .int .i64 0, .int .i64 0] 29))).cell? ⟨b, off + 2, none⟩ = some (.int .u8 (zs.getD 2 0)) := by rw [World.cell?_alloc_old _ _ _ hb']; exact hc 2 (by omega)
        have c3 : ((w.alloc (.cells #[.bool false, .int .i64 0, .int .i64 0] 29))).cell? ⟨b, off + 3, none⟩ = some (.int .u8 (zs.getD 3 0)) := by rw [World.cell?_alloc_old _ _ _ hb']; exact hc 3 (by omega)
        have C4 : Hid (∀ q, Calls Try.prog 28 #[.slice (some ⟨b, off, none⟩) 72 cap, .int .i64 4] ((w.alloc (.cells #[.bool false, .int .i64 0, .int .i64 0] 29)).drewN q) fun e w' => e = .returned (.int .u32 (tkE zs)) ∧ ∃ p, w' = (w.alloc (.cells #[.bool false, .int .i64 0, .int .i64 0] 29)).drewN p) := fun q =>
          (getE_any b off cap zs ((w.alloc (.cells #[.bool false, .int .i64 0, .int .i64 0] 29)).drewN q) (fun i hi => by show ((w.alloc (.cells #[.bool false, .int .i64 0, .int .i64 0] 29))).cell? _ = _; rw [World.cell?_alloc_old _ _ _ hb']; exact hc i hi) hz hn).mono (fun e w' ⟨h, p, h'⟩ => ⟨h, q + p, by rw [h']; simp [World.drewN, Nat.add_assoc]⟩)
        have hE := tkE_u32 hz
        have HS9 : Hid (zs.getD 2 0 + 256 * zs.getD 3 0 = tkS zs) := rfl
        obtain ⟨hE0, hE1⟩ := hE
        obtain ⟨b20, b21⟩ := b2
        obtain ⟨b30, b31⟩ := b3
        clear hc
        generalize zs.getD 2 0 = z2 at *
        generalize zs.getD 3 0 = z3 at *
        have W1 : IntKind.i64.wrap z2 = z2 := by rw [IntKind.wrap_i64]; omega
        have W2 : IntKind.i64.wrap z3 = z3 := by rw [IntKind.wrap_i64]; omega
        have W3 : IntKind.i64.wrap (256 * z3) = 256 * z3 := by rw [IntKind.wrap_i64]; omega
        have W4 : IntKind.i64.wrap (z2 + 256 * z3) = z2 + 256 * z3 := by rw [IntKind.wrap_i64]; omega
        have W5 : IntKind.i64.wrap (tkE zs) = tkE zs := by rw [IntKind.wrap_i64]; omega
        go_enter Try.func14, Try.ntmps14
        go_wp2_with fail
        refine wp_region_any (by kernel_rfl) ?_
        refine wpAny_slotsL 14 (fun w w' => True) (frame := (fun (c0 c1 c2 c3 c4 c5 c6 c7 c8 c9 c10 c11 c12 c13 c14 c15 c16 c17 c18 : Value) => fun (t : Nat → Value) => ({ tmps := List.toArray (c0 :: c1 :: c2 :: c3 :: c4 :: c5 :: c6 :: c7 :: c8 :: c9 :: c10 :: c11 :: c12 :: c13 :: c14 :: c15 :: c16 :: c17 :: c18 :: t 0 :: t 1 :: t 2 :: t 3 :: t 4 :: t 5 :: t 6 :: t 7 :: t 8 :: t 9 :: t 10 :: t 11 :: t 12 :: t 13 :: []), defers := [] } : Act)) _ _ _ _ _ _ _ _ _ _ _ _ _ _ _ _ _ _ _)
          (Ext := fun w' => ∃ q, w' = (w.alloc (.cells #[.bool false, .int .i64 0, .int .i64 0] 29)).drewN q) (Good := fun i _ v => if i = 0 then v = .slice (some ⟨b, off, none⟩) 72 cap else if i = 1 then v = .pointer (some ⟨b, off + 2, none⟩) else if i = 2 then v = .int .u8 z2 else if i = 3 then v = .int .i64 z2 else if i = 4 then v = .slice (some ⟨b, off, none⟩) 72 cap else if i = 5 then v = .pointer (some ⟨b, off + 3, none⟩) else if i = 6 then v = .int .u8 z3 else if i = 7 then v = .int .i64 z3 else if i = 8 then v = .int .i64 (256 * z3) else if i = 9 then v = .int .i64 (z2 + 256 * z3) else if i = 10 then v = .slice (some ⟨b, off, none⟩) 72 cap else if i = 11 then v = .int .u32 (tkE zs) else if i = 12 then v = .int .i64 (tkE zs) else if i = 13 then v = .agg #[.bool true, .int .i64 (z2 + 256 * z3), .int .i64 (tkE zs)] else True) (by rfl) (by kernel_rfl) (fun i w w' v _ h => h) (by kernel_rfl) (by kernel_rfl) ?hop ?hend _ _ ((fun (x0 x1 x2 x3 x4 x5 x6 x7 x8 x9 x10 x11 x12 x13 : Value) => fun (i : Nat) => if i = 0 then x0 else if i = 1 then x1 else if i = 2 then x2 else if i = 3 then x3 else if i = 4 then x4 else if i = 5 then x5 else if i = 6 then x6 else if i = 7 then x7 else if i = 8 then x8 else if i = 9 then x9 else if i = 10 then x10 else if i = 11 then x11 else if i = 12 then x12 else if i = 13 then x13 else undef) _ _ _ _ _ _ _ _ _ _ _ _ _ _) _ (by simp) (by simp) ?ext ?start (by simp)
        case start => intro i hi h; exact absurd h (by rw [Array.getD_eq_getD_getElem?, Array.getElem?_replicate]; split <;> simp)
        case ext => exact ⟨1, rfl⟩
        case hop =>
          intro i o t w' hil ho hx hdep K hK
          obtain ⟨q, rfl⟩ := hx
          obtain rfl | rfl | rfl | rfl | rfl | rfl | rfl | rfl | rfl | rfl | rfl | rfl | rfl | rfl : i = 0 ∨ i = 1 ∨ i = 2 ∨ i = 3 ∨ i = 4 ∨ i = 5 ∨ i = 6 ∨ i = 7 ∨ i = 8 ∨ i = 9 ∨ i = 10 ∨ i = 11 ∨ i = 12 ∨ i = 13 := by omega
          all_goals (simp at ho; subst ho)
          · clear hdep
            have hK' := hK ((w.alloc (.cells #[.bool false, .int .i64 0, .int .i64 0] 29)).drewN q) (.slice (some ⟨b, off, none⟩) 72 cap) (by simp) ⟨q, rfl⟩ trivial
            clear hK
            go_simp
            simpa [upd, W1, W2, W3, W4, W5] using hK'
          · have d0 : t 0 = .slice (some ⟨b, off, none⟩) 72 cap := by simpa using hdep ⟨0, .data⟩ (by simp) rfl
            clear hdep
            have hK' := hK ((w.alloc (.cells #[.bool false, .int .i64 0, .int .i64 0] 29)).drewN q) (.pointer (some ⟨b, off + 2, none⟩)) (by simp) ⟨q, rfl⟩ trivial
            clear hK
            go_simp
            simpa [upd, d0, W1, W2, W3, W4, W5] using hK'
          · have d1 : t 1 = .pointer (some ⟨b, off + 2, none⟩) := by simpa using hdep ⟨1, .data⟩ (by simp) rfl
            clear hdep
            have hK' := hK ((w.alloc (.cells #[.bool false, .int .i64 0, .int .i64 0] 29)).drewN q) (.int .u8 z2) (by simp) ⟨q, rfl⟩ trivial
            clear hK
            go_simp
            simpa [upd, d1, W1, W2, W3, W4, W5] using hK'
          · have d2 : t 2 = .int .u8 z2 := by simpa using hdep ⟨2, .data⟩ (by simp) rfl
            clear hdep
            have hK' := hK ((w.alloc (.cells #[.bool false, .int .i64 0, .int .i64 0] 29)).drewN q) (.int .i64 z2) (by simp) ⟨q, rfl⟩ trivial
            clear hK
            go_simp
            simpa [upd, d2, W1, W2, W3, W4, W5] using hK'
          · clear hdep
            have hK' := hK ((w.alloc (.cells #[.bool false, .int .i64 0, .int .i64 0] 29)).drewN q) (.slice (some ⟨b, off, none⟩) 72 cap) (by simp) ⟨q, rfl⟩ trivial
            clear hK
            go_simp
            simpa [upd, W1, W2, W3, W4, W5] using hK'
          · have d4 : t 4 = .slice (some ⟨b, off, none⟩) 72 cap := by simpa using hdep ⟨4, .data⟩ (by simp) rfl
            clear hdep
            have hK' := hK ((w.alloc (.cells #[.bool false, .int .i64 0, .int .i64 0] 29)).drewN q) (.pointer (some ⟨b, off + 3, none⟩)) (by simp) ⟨q, rfl⟩ trivial
            clear hK
            go_simp
            simpa [upd, d4, W1, W2, W3, W4, W5] using hK'
          · have d5 : t 5 = .pointer (some ⟨b, off + 3, none⟩) := by simpa using hdep ⟨5, .data⟩ (by simp) rfl
            clear hdep
            have hK' := hK ((w.alloc (.cells #[.bool false, .int .i64 0, .int .i64 0] 29)).drewN q) (.int .u8 z3) (by simp) ⟨q, rfl⟩ trivial
            clear hK
            go_simp
            simpa [upd, d5, W1, W2, W3, W4, W5] using hK'
          · have d6 : t 6 = .int .u8 z3 := by simpa using hdep ⟨6, .data⟩ (by simp) rfl
            clear hdep
            have hK' := hK ((w.alloc (.cells #[.bool false, .int .i64 0, .int .i64 0] 29)).drewN q) (.int .i64 z3) (by simp) ⟨q, rfl⟩ trivial
            clear hK
            go_simp
            simpa [upd, d6, W1, W2, W3, W4, W5] using hK'
          · have d7 : t 7 = .int .i64 z3 := by simpa using hdep ⟨7, .data⟩ (by simp) rfl
            clear hdep
            have hK' := hK ((w.alloc (.cells #[.bool false, .int .i64 0, .int .i64 0] 29)).drewN q) (.int .i64 (256 * z3)) (by simp) ⟨q, rfl⟩ trivial
            clear hK
            go_simp
            simpa [upd, d7, W1, W2, W3, W4, W5] using hK'
          · have d3 : t 3 = .int .i64 z2 := by simpa using hdep ⟨3, .data⟩ (by simp) rfl
            have d8 : t 8 = .int .i64 (256 * z3) := by simpa using hdep ⟨8, .data⟩ (by simp) rfl
            clear hdep
            have hK' := hK ((w.alloc (.cells #[.bool false, .int .i64 0, .int .i64 0] 29)).drewN q) (.int .i64 (z2 + 256 * z3)) (by simp) ⟨q, rfl⟩ trivial
            clear hK
            go_simp
            simpa [upd, d3, d8, W1, W2, W3, W4, W5] using hK'
          · clear hdep
            have hK' := hK ((w.alloc (.cells #[.bool false, .int .i64 0, .int .i64 0] 29)).drewN q) (.slice (some ⟨b, off, none⟩) 72 cap) (by simp) ⟨q, rfl⟩ trivial
            clear hK
            go_simp
            simpa [upd, W1, W2, W3, W4, W5] using hK'
          · have d10 : t 10 = .slice (some ⟨b, off, none⟩) 72 cap := by simpa using hdep ⟨10, .data⟩ (by simp) rfl
            clear hdep
            have hK' := fun p => hK ((w.alloc (.cells #[.bool false, .int .i64 0, .int .i64 0] 29)).drewN p) (.int .u32 (tkE zs)) (by simp) ⟨p, rfl⟩ trivial
            clear hK
            go_simp
            try simp only [d10]
            refine (C4.out q).mono ?_
            rintro e w9 ⟨rfl, p, rfl⟩
            have hK2 := hK' p
            clear hK'
            go_simp
            simpa [upd, d10] using hK2
          · have d11 : t 11 = .int .u32 (tkE zs) := by simpa using hdep ⟨11, .data⟩ (by simp) rfl
            clear hdep
            have hK' := hK ((w.alloc (.cells #[.bool false, .int .i64 0, .int .i64 0] 29)).drewN q) (.int .i64 (tkE zs)) (by simp) ⟨q, rfl⟩ trivial
            clear hK
            go_simp
            simpa [upd, d11, W1, W2, W3, W4, W5] using hK'
          · have d9 : t 9 = .int .i64 (z2 + 256 * z3) := by simpa using hdep ⟨9, .data⟩ (by simp) rfl
            have d12 : t 12 = .int .i64 (tkE zs) := by simpa using hdep ⟨12, .data⟩ (by simp) rfl
            clear hdep
            have hK' := hK ((w.alloc (.cells #[.bool false, .int .i64 0, .int .i64 0] 29)).drewN q) (.agg #[.bool true, .int .i64 (z2 + 256 * z3), .int .i64 (tkE zs)]) (by simp) ⟨q, rfl⟩ trivial
            clear hK
            go_simp
            simpa [upd, d9, d12, W1, W2, W3, W4, W5] using hK'
        case hend =>
          intro o t w' ho hx hg K hK
          obtain ⟨q, rfl⟩ := hx
          simp at ho; subst ho
          have d0 : t 0 = .slice (some ⟨b, off, none⟩) 72 cap := by simpa using hg 0 (by decide)
          have d1 : t 1 = .pointer (some ⟨b, off + 2, none⟩) := by simpa using hg 1 (by decide)
          have d2 : t 2 = .int .u8 z2 := by simpa using hg 2 (by decide)
          have d3 : t 3 = .int .i64 z2 := by simpa using hg 3 (by decide)
          have d4 : t 4 = .slice (some ⟨b, off, none⟩) 72 cap := by simpa using hg 4 (by decide)
          have d5 : t 5 = .pointer (some ⟨b, off + 3, none⟩) := by simpa using hg 5 (by decide)
          have d6 : t 6 = .int .u8 z3 := by simpa using hg 6 (by decide)
          have d7 : t 7 = .int .i64 z3 := by simpa using hg 7 (by decide)
          have d8 : t 8 = .int .i64 (256 * z3) := by simpa using hg 8 (by decide)
          have d9 : t 9 = .int .i64 (z2 + 256 * z3) := by simpa using hg 9 (by decide)
          have d10 : t 10 = .slice (some ⟨b, off, none⟩) 72 cap := by simpa using hg 10 (by decide)
          have d11 : t 11 = .int .u32 (tkE zs) := by simpa using hg 11 (by decide)
          have d12 : t 12 = .int .i64 (tkE zs) := by simpa using hg 12 (by decide)
          have d13 : t 13 = .agg #[.bool true, .int .i64 (z2 + 256 * z3), .int .i64 (tkE zs)] := by simpa using hg 13 (by decide)
          clear hg
          refine wp_store_row 29 (.tmp 2) (.tmp 32) rfl w.heap.size #[.bool true, .int .i64 (z2 + 256 * z3), .int .i64 (tkE zs)] rfl d13 29 _ (show ((w.alloc (.cells #[.bool false, .int .i64 0, .int .i64 0] 29))).heap[w.heap.size]? = _ from heap_alloc_new w _) HSF.out rfl (by simp [Value.oneCell']) ?_
          apply hK
          have HR5 : Hid (((((w.alloc (.cells #[.bool false, .int .i64 0, .int .i64 0] 29))).drewN q).setRow w.heap.size #[.bool true, .int .i64 (z2 + 256 * z3), .int .i64 (tkE zs)]).heap[w.heap.size]? = some (.cells #[.bool true, .int .i64 (z2 + 256 * z3), .int .i64 (tkE zs)] 29 (0, 0))) :=
            setRow_heap _ _ _ _ _ _ (show ((w.alloc (.cells #[.bool false, .int .i64 0, .int .i64 0] 29))).heap[w.heap.size]? = _ from heap_alloc_new w _)
          have HB5 : Hid (Below w.heap.size w ((((w.alloc (.cells #[.bool false, .int .i64 0, .int .i64 0] 29))).drewN q).setRow w.heap.size #[.bool true, .int .i64 (z2 + 256 * z3), .int .i64 (tkE zs)])) :=
            (below_drewQ HBN.out q).trans ((Wr.setRow _ _ _).below (Nat.le_refl _))
          generalize (((w.alloc (.cells #[.bool false, .int .i64 0, .int .i64 0] 29))).drewN q).setRow w.heap.size #[.bool true, .int .i64 (z2 + 256 * z3), .int .i64 (tkE zs)] = w5 at *
          clear hK d0 d1 d2 d3 d4 d5 d6 d7 d8 d9 d10 d11 d12
          go_wp2_with fail
          refine bodyPost_ret (v := .agg #[.bool true, .int .i64 (z2 + 256 * z3), .int .i64 (tkE zs)]) (results_cell_row rfl _ _ w.heap.size 29 _ (0, 0) _ rfl HR5.out Try.underlying29 rfl HSF.out) rfl ⟨by rw [HV.out, ← HS9.out], HB5.out⟩

      · have HV : Hid (tkV zs = .agg #[.bool false, .int .i64 0, .int .i64 0]) := tkV_no (by rw [HTB.out, h0]; simpa using h1)
        have h1' : (zs.getD 1 0 == 49) = false := by simpa using h1
        clear hc HTB h0 h1
        generalize zs.getD 1 0 = z1 at *
        go_enter Try.func14, Try.ntmps14
        go_wp2
        refine bodyPost_ret (v := .agg #[.bool false, .int .i64 0, .int .i64 0]) (results_cell_row rfl _ _ w.heap.size 29 _ (0, 0) _ rfl (heap_alloc_new w _) Try.underlying29 rfl HSF.out) rfl ⟨by rw [HV.out], HBN.out⟩
    · have HV : Hid (tkV zs = .agg #[.bool false, .int .i64 0, .int .i64 0]) := tkV_no (by rw [HTB.out, decide_eq_false h0]; rfl)
      have h0' : (zs.getD 0 0 != 84) = true := by simpa using h0
      clear hc HTB c1
      generalize zs.getD 0 0 = z0 at *
      go_enter Try.func14, Try.ntmps14
      go_wp2
      refine bodyPost_ret (v := .agg #[.bool false, .int .i64 0, .int .i64 0]) (results_cell_row rfl _ _ w.heap.size 29 _ (0, 0) _ rfl (heap_alloc_new w _) Try.underlying29 rfl HSF.out) rfl ⟨by rw [HV.out], HBN.out⟩
  · have HV : Hid (tkV zs = .agg #[.bool false, .int .i64 0, .int .i64 0]) := tkV_no (by unfold tkB; rw [decide_eq_false (by omega)]; rfl)
    have h72' : ¬ ((n : Int) = 72) := by omega
    have h73 : ((n : Int) != 72) = true := by simpa using h72'
    clear ha h72
    go_enter Try.func14, Try.ntmps14
    go_wp2
    refine bodyPost_ret (v := .agg #[.bool false, .int .i64 0, .int .i64 0]) ?res rfl ?post
    case res => exact (results_cell_row rfl _ _ w.heap.size 29 _ (0, 0) _ rfl (heap_alloc_new w _) Try.underlying29 rfl HSF.out)
    case post => exact ⟨by rw [HV.out], HBN.out⟩
end Go.Proofs.Ythghkfncpdnpoaa
