/-
  Own work: the code of a frame as the program writes it.
-/
import Derived.Test.YthghkfncpdnpoacRows8
import Derived.Test.YthghkfncpdnpoacCrc
import Derived.Deep.MidRow
namespace Go.Proofs.Ythghkfncpdnpoac
open Go.ChangeShapes Go.WideShapes Go.ChangeAt Go.RowKit
set_option linter.unusedVariables false

def zer (n : Nat) : List Int := List.replicate n 0
def enc0 (s k a b : Int) : List Int := putK (putK ((((putK (zer 64) 0 s 4).set 4 74).set 5 49).set 6 (k % 256)) 8 a 4) 12 b 4
def encI (s k a b : Int) : List Int := putK (putK (enc0 s k a b) 56 (crc ((enc0 s k a b).take 56)) 4) 60 s 4

theorem set_byte {zs : List Int} (h : Byte zs) (i : Nat) (x : Int) (hx : 0 ≤ x ∧ x < 256) : Byte (zs.set i x) := fun z hz => by
  rcases List.mem_or_eq_of_mem_set hz with h1 | h1
  · exact h z h1
  · subst h1; exact hx
theorem putK_byte (zs : List Int) (p : Nat) (v : Int) (h : Byte zs) (k : Nat) : Byte (putK zs p v k) := by
  induction k with
  | zero => exact h
  | succ k ih => exact set_byte ih _ _ (by omega)
theorem zer_byte (n : Nat) : Byte (zer n) := fun z hz => by simp [zer] at hz; omega
theorem enc0_byte (s k a b : Int) : Byte (enc0 s k a b) := by
  unfold enc0
  exact putK_byte _ _ _ (putK_byte _ _ _ (set_byte (set_byte (set_byte (putK_byte _ _ _ (zer_byte _) _) _ _ (by omega)) _ _ (by omega)) _ _ (by omega)) _) _
theorem encI_byte (s k a b : Int) : Byte (encI s k a b) := by
  unfold encI
  exact putK_byte _ _ _ (putK_byte _ _ _ (enc0_byte _ _ _ _) _) _
theorem enc0_len (s k a b : Int) : (enc0 s k a b).length = 64 := by unfold enc0; simp [putK_len, zer]
theorem encI_len (s k a b : Int) : (encI s k a b).length = 64 := by unfold encI; simp [putK_len, enc0_len]
theorem zer_row (w : World) (t : TypeId) (X : Obj) (n : Nat) (cs : Array Value) (h : cs = ((zer n).map (Value.int .u8)).toArray) : Row (w.alloc (.cells cs t)) w.heap.size t (zer n) := by
  subst h; exact heap_alloc_new w _

/-- Where 'encoded' stands: two new blocks, the result's and the content's. -/
structure Est (w w' : World) (zs : List Int) : Prop where
  below : Below w.heap.size w w'
  size : w'.heap.size = w.heap.size + 2
  r0 : Row w' w.heap.size 64 (zer 64)
  r1 : Row w' (w.heap.size + 1) 64 zs
theorem Est.wr {w w' w'' : World} {zs zs' : List Int} (h : Est w w' zs) (k : Wr (w.heap.size + 1) w' w'') (r : Row w'' (w.heap.size + 1) 64 zs') : Est w w'' zs' :=
  ⟨h.below.trans (k.below (by omega)), k.size.trans h.size, k.row h.r0 (by omega), r⟩
theorem Est.set {w w' : World} {zs : List Int} (h : Est w w' zs) (i : Nat) (x : Int) : Est w (w'.setCell ⟨w.heap.size + 1, i, none⟩ (.int .u8 x)) (zs.set i x) :=
  h.wr ((Wr.refl _ _).setCell i _) (h.r1.set i x)

set_option maxHeartbeats 1000000 in
theorem encoded_any (h : Nat) (s k a b : Int) (w : World) (hh : h < w.heap.size) (c0 : w.cell? ⟨h, 0, none⟩ = some (.int .u32 s)) (c1 : w.cell? ⟨h, 1, none⟩ = some (.int .i64 k))
    (c2 : w.cell? ⟨h, 2, none⟩ = some (.int .u32 a)) (c3 : w.cell? ⟨h, 3, none⟩ = some (.int .u32 b)) (us : U32 s) (ua : U32 a) (ub : U32 b) :
    Calls Try.prog 44 #[.pointer (some ⟨h, 0, none⟩)] w fun e w' => e = .returned (.agg ((encI s k a b).map (Value.int .u8)).toArray) ∧ Below w.heap.size w w' := by
  go_enter Try.func44, Try.ntmps44
  go_wp2_with fail
  refine (setN_any (w.heap.size + 1) 64 0 s (zer 64) _ ?r (by rfl) (by omega) (by omega) us).mono ?_
  case r => exact heap_alloc2_new _ _ _
  rintro e w3 ⟨rfl, hrow, hwr⟩
  have st3 : Est w w3 (putK (zer 64) 0 s 4) := by
    refine ⟨(((Below.refl _ _).alloc (Nat.le_refl _) _).alloc (by simp) _).trans (hwr.below (by omega)), ?_, hwr.row (zs := zer 64) ?_ (by omega), hrow⟩
    · rw [hwr.size]; simp
    · exact heap_alloc2_old _ _ _
  clear hrow hwr
  have l3 : (putK (zer 64) 0 s 4).length = 64 := by rw [putK_len]; rfl
  have f4 := st3.r1.frozen 4
  have f5 := st3.r1.frozen 5
  have f6 := st3.r1.frozen 6
  have g4 := st3.r1.cell 4 (by omega)
  have g5 := st3.r1.cell 5 (by omega)
  have g6 := st3.r1.cell 6 (by omega)
  have d0 : w3.cell? ⟨h, 0, none⟩ = some (.int .u32 s) := by rw [st3.below.cell (p := ⟨h, 0, none⟩) hh]; exact c0
  have d1 : w3.cell? ⟨h, 1, none⟩ = some (.int .i64 k) := by rw [st3.below.cell (p := ⟨h, 1, none⟩) hh]; exact c1
  have d2 : w3.cell? ⟨h, 2, none⟩ = some (.int .u32 a) := by rw [st3.below.cell (p := ⟨h, 2, none⟩) hh]; exact c2
  have hne : ¬ h = w.heap.size + 1 := by omega
  generalize (putK (zer 64) 0 s 4).getD 4 0 = y4 at *
  generalize (putK (zer 64) 0 s 4).getD 5 0 = y5 at *
  generalize (putK (zer 64) 0 s 4).getD 6 0 = y6 at *
  have ST3 : Hid _ := st3
  clear st3 
  go_wp2_with fail
  clear f4 f5 f6 g4 g5 g6 d0 d1 d2
  have st6 := ((ST3.out.set 4 74).set 5 49).set 6 (k % 256)
  clear ST3
  refine (setN_any (w.heap.size + 1) 64 8 a _ _ st6.r1 (by simp [l3]) (by omega) (by omega) ua).mono ?_
  rintro e w8 ⟨rfl, hrow, hwr⟩
  have st8 := st6.wr hwr hrow
  clear hrow hwr st6
  have l8 : (putK ((((putK (zer 64) 0 s 4).set 4 74).set 5 49).set 6 (k % 256)) (Int.toNat 8) a 4).length = 64 := by rw [putK_len]; simp [l3]
  have d3 : w8.cell? ⟨h, 3, none⟩ = some (.int .u32 b) := by rw [st8.below.cell (p := ⟨h, 3, none⟩) hh]; exact c3
  have ST8 : Hid _ := st8
  clear st8
  go_wp2_with fail
  refine (setN_any (w.heap.size + 1) 64 12 b _ _ ST8.out.r1 l8 (by omega) (by omega) ub).mono ?_
  rintro e w9 ⟨rfl, hrow, hwr⟩
  have st9 : Est w w9 (enc0 s k a b) := ST8.out.wr hwr hrow
  clear hrow hwr ST8 d3 l8 l3
  have l9 : (enc0 s k a b).length = 64 := by unfold enc0; simp [putK_len, zer]
  have HE : Hid (encI s k a b = putK (putK (enc0 s k a b) 56 (crc ((enc0 s k a b).take 56)) 4) 60 s 4) := rfl
  have hby : Byte ((enc0 s k a b).take 56) := fun z hz => enc0_byte s k a b z (List.mem_of_mem_take hz)
  generalize enc0 s k a b = z9 at *
  have ST9 : Hid _ := st9
  clear st9
  go_wp2_with fail
  refine (crcI_any _ 56 _ (z9.take 56) _ (by simp; omega) (by omega) (ST9.out.r1.atTake 56) hby).mono ?_
  rintro e w10 ⟨rfl, rfl⟩
  go_wp2_with fail
  refine (setN_any (w.heap.size + 1) 64 56 _ _ _ ST9.out.r1 l9 (by omega) (by omega) (crc_bd _)).mono ?_
  rintro e w11 ⟨rfl, hrow, hwr⟩
  have st11 := ST9.out.wr hwr hrow
  have l11 : (putK z9 56 (crc (z9.take 56)) 4).length = 64 := by rw [putK_len]; exact l9
  have hE2 : Int.toNat 56 = 56 := rfl
  rw [hE2] at st11
  clear hrow hwr ST9
  generalize putK z9 56 (crc (z9.take 56)) 4 = z11 at *
  have d0 : w11.cell? ⟨h, 0, none⟩ = some (.int .u32 s) := by rw [st11.below.cell (p := ⟨h, 0, none⟩) hh]; exact c0
  have ST11 : Hid _ := st11
  clear st11
  go_wp2_with fail
  refine (setN_any (w.heap.size + 1) 64 60 _ _ _ ST11.out.r1 l11 (by omega) (by omega) us).mono ?_
  rintro e w12 ⟨rfl, hrow, hwr⟩
  have st12 := ST11.out.wr hwr hrow
  have l12 : (putK z11 60 s 4).length = 64 := by rw [putK_len]; exact l11
  have hE3 : Int.toNat 60 = 60 := rfl
  rw [hE3, ← HE.out] at st12
  rw [← HE.out] at l12
  clear hrow hwr ST11 c0 c1 c2 c3 d0 hE2 hE3 HE
  generalize hz12 : encI s k a b = z12 at *
  have HZ : Hid _ := hz12
  clear hz12
  have ST12 : Hid _ := st12
  clear st12
  have hs1 : (Try.prog.info? 64).map (·.size) = some ((z12.map (Value.int .u8)).toArray).size := by
    have : (Try.prog.info? 64).map (·.size) = some 64 := by kernel_rfl
    rw [this]; simp [l12]
  have HS1 : Hid _ := hs1
  clear hs1
  go_wp2_with (first
    | (refine wpList_load_row rfl 64 _ rfl (w.heap.size + 1) rfl 64 _ (0, 0) _ ST12.out.r1 Try.underlying64 rfl HS1.out ?_)
    | (refine wpList_store_row rfl 64 (.tmp 2) (.tmp 35) rfl w.heap.size ((z12.map (Value.int .u8)).toArray) rfl rfl 64 _ ST12.out.r0 HS1.out (by simp [zer, l12]) (all_oneCell_toArray (ints_oneCell _ _)) ?_))
  refine bodyPost_ret (v := .agg (z12.map (Value.int .u8)).toArray) (results_cell_row rfl _ _ w.heap.size 64 _ (0, 0) _ rfl (setRow_heap _ _ _ _ _ _ ST12.out.r0) Try.underlying64 rfl HS1.out) rfl ⟨by rw [HZ.out], ?_⟩
  exact ST12.out.below.trans ((Wr.setRow _ _ _).below (Nat.le_refl _))
end Go.Proofs.Ythghkfncpdnpoac
