/-
  Own work: what the bytes of a slot say, the mathematics; answers of DecodeSnap in memory.
-/
import Derived.Test.YtmnoelfabldpfaaMRowB
import Derived.Test.YtmnoelfabldpfaaSwJ
import Derived.Test.YtmnoelfabldpfaaMSnY
import Derived.Test.YtmnoelfabldpfaaMSnY
namespace Go.Proofs.Ytmnoelfabldpfaa
open Go.ChangeShapes Go.WideShapes Go.ChangeAt Go.RowKit
set_option linter.unusedVariables false

/-- Where the denied serial i stands. -/
def dkA (i : Nat) : Nat := if i < 8 then 44 + 2 * i else 56 + 2 * i
def dkS (zs : List Int) (i : Nat) : Int := zs.getD (dkA i) 0 + 256 * zs.getD (dkA i + 1) 0
def dkD (zs : List Int) (k : Nat) : List Int := (List.range k).map (dkS zs)
theorem dkD_succ (zs : List Int) (k : Nat) : dkD zs (k + 1) = dkD zs k ++ [dkS zs k] := by unfold dkD; rw [List.range_succ, List.map_append]; rfl
theorem dkD_len (zs : List Int) (k : Nat) : (dkD zs k).length = k := by simp [dkD]
theorem dkA_lt {i : Nat} (h : i < 16) : dkA i + 1 < 128 := by unfold dkA; split <;> omega
def dkP (zs : List Int) (v : Nat) : Bool := decide (zs.getD (12 + v / 8) 0 / 2 ^ (v % 8) % 2 = 1)
def dkN (zs : List Int) : Nat := (zs.getD 6 0).toNat
def dkU (zs : List Int) : List Int := upTo (dkP zs) 256
/-- The part of the slot that has the used serials. -/
def dkM (zs : List Int) : List Int := (zs.drop 12).take 32
theorem dkM_len {zs : List Int} (h : zs.length = 128) : (dkM zs).length = 32 := by simp [dkM]; omega
theorem dkM_get {zs : List Int} (h : zs.length = 128) (i : Nat) (hi : i < 32) : (dkM zs).getD i 0 = zs.getD (12 + i) 0 := by
  unfold dkM
  rw [List.getD_eq_getElem?_getD, List.getElem?_take_of_lt hi, List.getElem?_drop, ← List.getD_eq_getElem?_getD]
theorem dkM_byte {zs : List Int} (hz : Byte zs) : Byte (dkM zs) := fun z h => hz z (List.mem_of_mem_drop (List.mem_of_mem_take h))
theorem dkM_set {zs : List Int} (h : zs.length = 128) (hz : Byte zs) : SetB (dkM zs) (fun v => dkP zs v = true) := by
  refine ⟨dkM_len h, dkM_byte hz, fun v hv => ?_⟩
  rw [dkM_get h (v / 8) (by omega)]
  unfold dkP; simp
structure DkR where
  ok : Bool
  g : Int
  t : Int
  D : List Int
  U : List Int
def dkNo : DkR := ⟨false, 0, 0, [], []⟩
noncomputable def dkE (zs : List Int) : List Int := snE (num4 zs 0) (num4 zs 8) (dkD zs (dkN zs)) (dkU zs)
def dkYes (zs : List Int) : DkR := ⟨true, num4 zs 0, num4 zs 8, dkD zs (dkN zs), dkU zs⟩
open Classical in
/-- What the bytes decode to. -/
noncomputable def dkF (zs : List Int) : DkR := if zs.length = 128 ∧ zs.getD 6 0 ≤ 16 ∧ dkE zs = zs then dkYes zs else dkNo
theorem dkF_yes {zs : List Int} (h1 : zs.length = 128) (h2 : zs.getD 6 0 ≤ 16) (h3 : dkE zs = zs) : dkF zs = dkYes zs := by unfold dkF; rw [if_pos ⟨h1, h2, h3⟩]
theorem dkF_len {zs : List Int} (h : zs.length ≠ 128) : dkF zs = dkNo := by unfold dkF; rw [if_neg (fun q => h q.1)]
theorem dkF_cnt {zs : List Int} (h : ¬ zs.getD 6 0 ≤ 16) : dkF zs = dkNo := by unfold dkF; rw [if_neg (fun q => h q.2.1)]
theorem dkF_no {zs : List Int} (h : dkE zs ≠ zs) : dkF zs = dkNo := by unfold dkF; rw [if_neg (fun q => h q.2.2)]
theorem dkF_bd (zs : List Int) : (dkF zs).D.length ≤ 256 ∧ (dkF zs).U.length ≤ 256 := by
  unfold dkF
  split
  · rename_i h
    refine ⟨?_, upTo_len _ _⟩
    show (dkD zs (dkN zs)).length ≤ 256
    rw [dkD_len]; unfold dkN; omega
  · simp [dkNo]
theorem num4_u32 (zs : List Int) (h : Byte zs) (p : Nat) : U32 (num4 zs p) := by
  have h0 := h.get p
  have h1 := h.get (p + 1)
  have h2 := h.get (p + 2)
  have h3 := h.get (p + 3)
  unfold num4 U32
  omega

/-- The answer, as the model gives it. -/
def DVW (lo : Nat) (w : World) (v : Value) (r : DkR) : Prop :=
  ∃ aD nD cD aU nU cU, v = .agg #[.bool r.ok, .int .u32 r.g, .int .u32 r.t, .slice aD nD cD, .slice aU nU cU] ∧ At .i64 w aD r.D ∧ At .i64 w aU r.U ∧ r.D.length = nD ∧ r.U.length = nU ∧ Lies lo w aD ∧ Lies lo w aU
/-- The answer, as the program gives it: the lists are apart, and may be written. -/
def DVA (lo : Nat) (w : World) (v : Value) (r : DkR) : Prop :=
  ∃ aD nD cD aU nU cU, v = .agg #[.bool r.ok, .int .u32 r.g, .int .u32 r.t, .slice aD nD cD, .slice aU nU cU] ∧ S3 lo w aD aU none nD nU 0 r.D r.U []
def snZ : Array Value := #[.bool false, .int .u32 0, .int .u32 0, .slice none 0 0, .slice none 0 0]
theorem DVW.no (lo : Nat) (w : World) : DVW lo w (.agg snZ) dkNo := ⟨none, 0, 0, none, 0, 0, rfl, .inl rfl, .inl rfl, rfl, rfl, fun _ h => (by cases h), fun _ h => (by cases h)⟩
theorem DVA.no (lo : Nat) (w : World) : DVA lo w (.agg snZ) dkNo :=
  ⟨none, 0, 0, none, 0, 0, rfl, .inl rfl, .inl rfl, .inl rfl, rfl, rfl, rfl, fun _ h => (by cases h), fun _ h => (by cases h), fun _ h => (by cases h), fun _ _ h => (by cases h), fun _ _ h => (by cases h), fun _ _ h => (by cases h)⟩
theorem DVW.below {lo : Nat} {w w' : World} {v : Value} {r : DkR} (h : DVW lo w v r) (b : Below w.heap.size w w') : DVW lo w' v r := by
  obtain ⟨aD, nD, cD, aU, nU, cU, e, h1, h2, h3, h4, l1, l2⟩ := h
  exact ⟨aD, nD, cD, aU, nU, cU, e, h1.below b, h2.below b, h3, h4, l1.mono (Nat.le_refl _) b.size, l2.mono (Nat.le_refl _) b.size⟩
theorem DVA.below {lo : Nat} {w w' : World} {v : Value} {r : DkR} (h : DVA lo w v r) (b : Below w.heap.size w w') : DVA lo w' v r := by
  obtain ⟨aD, nD, cD, aU, nU, cU, e, s⟩ := h
  exact ⟨aD, nD, cD, aU, nU, cU, e, s.below b⟩
/-- Two lists of the call's own, from block lo on, apart. -/
theorem S3.of_io {lo : Nat} {w : World} {aD aU : Option Addr} {nD cD nU cU : Nat} {D U : List Int} (h1 : Iow lo w (.slice aD nD cD) D) (h2 : Iow lo w (.slice aU nU cU) U) (h3 : Aprt aD aU) : S3 lo w aD aU none nD nU 0 D U [] := by
  obtain ⟨s1, n1, l1⟩ := h1.sat
  obtain ⟨s2, n2, l2⟩ := h2.sat
  exact ⟨s1, s2, .inl rfl, n1, n2, rfl, l1, l2, fun _ h => (by cases h), h3, fun _ _ _ h => (by cases h), fun _ _ _ h => (by cases h)⟩
/-- A list of serials has its block typed; a block of another type is none of it. -/
theorem Iow.ne {lo G : Nat} {w : World} {a : Option Addr} {n c : Nat} {xs : List Int} {cs : Array Value} {T : TypeId} {fr : Nat × Nat} (h : Iow lo w (.slice a n c) xs) (hG : w.heap[G]? = some (.cells cs T fr)) (hT : T ≠ 2) : ∀ ad, a = some ad → ad.block ≠ G := by
  rintro ad rfl e
  rcases h.2 with ⟨h', _⟩ | ⟨g, cap, cur, h', hb, hh, _⟩
  · cases h'
  · cases h'
    subst e
    rw [hG] at hh
    simp at hh
    exact hT hh.2.1
theorem Iow.keepN {lo G : Nat} {w w' : World} {v : Value} {xs : List Int} {cs : Array Value} {T : TypeId} {fr : Nat × Nat} (h : Iow lo w v xs) (hG : w.heap[G]? = some (.cells cs T fr)) (hT : T ≠ 2) (hw : Wr G w w') : Iow lo w' v xs := by
  obtain ⟨a, n, c, rfl⟩ := h.form
  refine ⟨h.1, ?_⟩
  have hne := h.ne hG hT
  rcases h.2 with h' | ⟨g, cap, cur, h1, h2, h3, h4⟩
  · exact .inl h'
  · refine .inr ⟨g, cap, cur, h1, h2, ?_, h4⟩
    cases h1
    rw [hw.block g (hne _ rfl)]; exact h3
end Go.Proofs.Ytmnoelfabldpfaa
