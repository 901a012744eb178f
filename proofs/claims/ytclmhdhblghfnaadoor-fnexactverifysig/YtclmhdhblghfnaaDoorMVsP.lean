/-
  Own work: the verdict on a signature, as a fact of lists and numbers.
-/
import Derived.Test.YtclmhdhblghfnaaDoorMShK
import Derived.Test.YtclmhdhblghfnaaDoorMShP
import Derived.Test.YtclmhdhblghfnaaDoorMMuM
import Derived.Test.YtclmhdhblghfnaaDoorSMu
import Derived.Test.YtclmhdhblghfnaaDoorMRtM
import Derived.Test.YtclmhdhblghfnaaDoorSDc
import Derived.Test.YtclmhdhblghfnaaDoorSCo
import Derived.Test.YtclmhdhblghfnaaDoorSSum
import Derived.Test.YtclmhdhblghfnaaDoorMSLess
import Derived.Test.YtclmhdhblghfnaaDoorSBas
import Derived.Test.YtclmhdhblghfnaaDoorMOwnB
import Derived.Test.YtclmhdhblghfnaaDoorMReg8
import Derived.Laws.Tables
import Derived.Laws.BytesArg
namespace Go.Proofs.YtclmhdhblghfnaaDoor
open Go.ChangeShapes Go.WideShapes Go.ChangeAt Go.RowKit
set_option linter.unusedVariables false

def ptQ (zs : List Int) : Q4 := (mX zs mdD, mY zs, 1 % fp, mX zs mdD * mY zs % fp)
theorem mB_len2 {zs : List Int} (h : mB zs mdD = true) : zs.length = 32 ∧ mY zs < fp := by
  unfold mB at h
  simp only [Bool.and_eq_true] at h
  exact ⟨by simpa using h.1.1.1, by simpa using h.1.1.2⟩
/-- The base point's code. -/
def bB : List Int := [88, 102, 102, 102, 102, 102, 102, 102, 102, 102, 102, 102, 102, 102, 102, 102, 102, 102, 102, 102, 102, 102, 102, 102, 102, 102, 102, 102, 102, 102, 102, 102]
theorem bB_len : bB.length = 32 := rfl
theorem bB_val : val 256 bB = baseY := by decide +kernel
theorem bB_byte : Byte bB := by unfold Byte bB; decide
theorem bB_ok : mB bB mdD = true := by decide +kernel
theorem bB_of {bs : List Int} (hb : Byte bs) (hl : bs.length = 32) (hv : val 256 bs = baseY) : bs = bB :=
  val_inj (B := 256) (by decide) hb bB_byte (by rw [hl, bB_len]) (by rw [hv, bB_val])
def cdQ (P : Q4) : Int := cdV P.1 P.2.1 P.2.2.1
theorem ptQ_rd {zs : List Int} : Rd (ptQ zs) → True := fun _ => trivial
/-- The hash's number, reduced. -/
def hsV (pub msg sig : List Int) : Int := val 256 (shaL (sig.take 32 ++ pub ++ msg)) % bigL
/-- The equation, by the model's multiples. -/
def eqnS (pub msg sig : List Int) : Bool := decide (cdQ (mS (val 256 (sig.drop 32)) (ptQ bB) 256).1 = cdQ (F4 (ptQ (sig.take 32)) (mS (hsV pub msg sig) (ptQ pub) 256).1))
def eqnI (pub msg sig : List Int) : Bool := decide (cdQ (pS (val 256 (sig.drop 32)) (ptQ bB) 256) = cdQ (F4 (ptQ (sig.take 32)) (pS (hsV pub msg sig) (ptQ pub) 256)))
/-- The verdict. -/
def vsR (pub msg sig : List Int) : Bool := decide (sig.length = 64) && decide (val 256 (sig.drop 32) < bigL) && mB pub mdD && mB (sig.take 32) mdD && eqnS pub msg sig

theorem cdQ_scl (k : Nat) (P : Q4) : cdQ (scl (2 ^ k) P) = cdQ P := cdV_scl k _ _ _
theorem eqn_same (pub msg sig : List Int) (hp : Rd (ptQ pub)) (hs : Rd (ptQ (sig.take 32))) (hb : Rd (ptQ bB)) : eqnI pub msg sig = eqnS pub msg sig := by
  unfold eqnI eqnS
  obtain ⟨⟨j, hj⟩, _, _⟩ := same_S (val 256 (sig.drop 32)) (ptQ bB) hb 256
  obtain ⟨⟨k, hk⟩, _, _⟩ := same_S (hsV pub msg sig) (ptQ pub) hp 256
  rw [hj, hk, cdQ_scl]
  have e : F4 (ptQ (sig.take 32)) (scl (2 ^ k) (mS (hsV pub msg sig) (ptQ pub) 256).1) = scl (2 ^ (k + k)) (F4 (ptQ (sig.take 32)) (mS (hsV pub msg sig) (ptQ pub) 256).1) := by
    conv => lhs; rw [← scl_one hs]
    rw [F4_scl, Int.one_mul, ← Int.pow_add]
  rw [e, cdQ_scl]
end Go.Proofs.YtclmhdhblghfnaaDoor
namespace Go.Proofs.YtclmhdhblghfnaaDoor
open Go.ChangeShapes Go.WideShapes Go.ChangeAt Go.RowKit
set_option linter.unusedVariables false

theorem flat_snoc (zss : List (List Int)) (k : Nat) (h : k < zss.length) : (zss.take (k + 1)).flatten = (zss.take k).flatten ++ zss.getD k [] := by
  rw [List.take_succ_eq_append_getElem h, List.flatten_append]
  simp [h]
theorem flat_le (zss : List (List Int)) (k : Nat) : (zss.take k).flatten.length ≤ zss.flatten.length := by
  conv => rhs; rw [← List.take_append_drop k zss]
  rw [List.flatten_append, List.length_append]; omega
end Go.Proofs.YtclmhdhblghfnaaDoor
namespace Go.Proofs.YtclmhdhblghfnaaDoor
open Go.ChangeShapes Go.WideShapes Go.ChangeAt Go.RowKit
set_option linter.unusedVariables false

set_option maxHeartbeats 400000 in
theorem cat_any (p m cap : Nat) (vs : List Value) (zss : List (List Int)) (w : World) (hm : zss.length = m) (hp : p < w.heap.size) (hc : ∀ i, i < m → w.cell? ⟨p, i, none⟩ = some (vs.getD i undef))
    (hz : ∀ i, i < m → Part w (vs.getD i undef) (zss.getD i [])) (ht : zss.flatten.length ≤ 2097152) (hm' : m ≤ 1048576) :
    Calls Tryd.prog 14 #[.slice (some ⟨p, 0, none⟩) m cap] w fun e w' => ∃ v, e = .returned v ∧ Own w' w.heap.size v zss.flatten ∧ Below w.heap.size w w' := by
  go_enter Tryd.func14, Tryd.ntmps14
  go_wp2
  go_loopw [3, 4] (fun v i wr => ∃ k : Nat, k ≤ m ∧ i = .int .i64 k ∧ Own wr w.heap.size v (zss.take k).flatten ∧ Below w.heap.size w wr) (fun _ i _ => m - (intOf i).toNat)
  case atStart => exact ⟨0, Nat.zero_le _, rfl, Own.empty _ _ (Nat.le_refl _), (Below.refl _ _).alloc (Nat.le_refl _) _⟩
  case round =>
    obtain ⟨k, hk, rfl, hown, hbel⟩ := hrel
    by_cases hlt : k < m
    · have hsz := hbel.size
      obtain ⟨b, o, c, hv, hb, hcell⟩ := hz k hlt
      have hck : wr.cell? ⟨p, k, none⟩ = some (.slice (some ⟨b, o, none⟩) (zss.getD k []).length c) := by rw [hbel.cell (p := ⟨p, k, none⟩) hp, hc k hlt, hv]
      have hnews : ∀ j, j < (zss.getD k []).length → wr.cell? ((⟨b, o, none⟩ : Addr).add j) = some (.int .u8 ((zss.getD k []).getD j 0)) := by
        intro j hj; rw [Addr.add_lit, hbel.cell (p := ⟨b, o + j, none⟩) hb]; exact hcell j hj
      have hfl := flat_snoc zss k (by omega)
      have hle := flat_le zss (k + 1)
      have hle2 : (zss.take k).flatten.length + (zss.getD k []).length ≤ 2097152 := by rw [hfl, List.length_append] at hle; omega
      have HF : Hid _ := hfl
      clear hfl hle hv hcell hc hz
      generalize zss.getD k [] = z at *
      generalize (zss.take k).flatten = y at *
      generalize hzl : z.length = zl at *
      have HL : Hid _ := hzl
      clear hzl
      have HN : Hid _ := hnews
      clear hnews
      go_wp2_with (at_builtin; refine wpList_app _ rfl _ _ rfl w.heap.size _ _ rfl hown ⟨b, o, none⟩ _ _ z rfl HL.out HN.out ?c2 ?c3 ?_)
      case c2 => omega
      case c3 => omega
      intro v' w1 hown' hbel' _
      have HO : Hid (Own w1 w.heap.size v' (zss.take (k + 1)).flatten) := by rw [HF.out]; exact hown'
      have HB : Hid (Below w.heap.size w w1) := hbel.trans hbel'
      clear hown hown' hbel hbel'
      go_wp2
      go_roundw
      case rel => exact ⟨k + 1, by omega, by go_num, HO.out, HB.out⟩
      case measure => simp [intOf]; omega
    · have hkn : zss.take k = zss := List.take_of_length_le (by omega)
      rw [hkn] at hown
      have HO : Hid _ := hown
      clear hown hkn
      go_wp2
      go_ret
      exact ⟨_, rfl, HO.out, hbel⟩
end Go.Proofs.YtclmhdhblghfnaaDoor
namespace Go.Proofs.YtclmhdhblghfnaaDoor
open Go.ChangeShapes Go.WideShapes Go.ChangeAt Go.RowKit
set_option linter.unusedVariables false

/-- The value's block is new in w'. -/
def Fresh (w w' : World) (v : Value) : Prop := ∀ k, v.ownBlock = some k → w.heap.size ≤ k ∧ k < w'.heap.size
def BlkLt (w : World) (v : Value) : Prop := ∀ k, v.ownBlock = some k → k < w.heap.size
def ApV (x y : Value) : Prop := ∀ k, x.ownBlock = some k → y.ownBlock ≠ some k
structure ApX (W : World) (ps : List Nat) (L : Nat → Bool) (u : Nat → Value) (w : World) : Prop where
  below : Below W.heap.size W w
  blt : ∀ p, p ∈ ps → L p = true → BlkLt w (u p)
  ap : ∀ p, p ∈ ps → ∀ q, q ∈ ps → p ≠ q → L p = true → L q = true → ApV (u p) (u q)
theorem ApX.start (W : World) (ps : List Nat) (L : Nat → Bool) (u : Nat → Value) (h : ∀ i, L i = false) : ApX W ps L u W :=
  ⟨Below.refl _ _, fun p _ hp => (by rw [h] at hp; cases hp), fun p _ q _ _ hp => (by rw [h] at hp; cases hp)⟩
theorem ApX.step {W : World} {ps : List Nat} {L : Nat → Bool} {u : Nat → Value} {w w' : World} (h : ApX W ps L u w) (i : Nat) (v : Value) (b : Below w.heap.size w w') (hv : i ∈ ps → Fresh w w' v) : ApX W ps (updK L i) (upd u i v) w' := by
  refine ⟨h.below.trans (b.mono h.below.size), fun p hp hl => ?_, fun p hp q hq hne hlp hlq => ?_⟩
  · by_cases e : p = i
    · subst e
      simp only [upd, if_true]
      exact fun k hk => (hv hp k hk).2
    · simp only [updK, if_neg e] at hl
      simp only [upd, if_neg e]
      exact fun k hk => Nat.lt_of_lt_of_le (h.blt p hp hl k hk) b.size
  · by_cases e : p = i
    · subst e
      have e2 : ¬ q = p := fun h => hne h.symm
      simp only [updK, if_neg e2] at hlq
      simp only [upd, if_true, if_neg e2]
      intro k hk hk'
      have h1 := (hv hp k hk).1
      have h2 := h.blt q hq hlq k hk'
      omega
    · by_cases e2 : q = i
      · subst e2
        simp only [updK, if_neg e] at hlp
        simp only [upd, if_true, if_neg e]
        intro k hk hk'
        have h1 := (hv hq k hk').1
        have h2 := h.blt p hp hlp k hk
        omega
      · simp only [updK, if_neg e, if_neg e2] at hlp hlq
        simp only [upd, if_neg e, if_neg e2]
        exact h.ap p hp q hq hne hlp hlq
theorem ApX.drew {W : World} {ps : List Nat} {L : Nat → Bool} {u : Nat → Value} {w : World} (h : ApX W ps L u w) : ApX W ps L u w.drew := ⟨⟨h.below.os, h.below.tape, h.below.output, h.below.size, h.below.block⟩, h.blt, h.ap⟩
/-- As ApX, with a last operation that stores the answer into block R. -/
structure ApS (w : World) (R last : Nat) (T : TypeId) (ZS : Array Value) (Fin : World → Array Value → Prop) (ps : List Nat) (L : Nat → Bool) (u : Nat → Value) (w' : World) : Prop where
  ax : ApX w ps L u w'
  pre : L last = false → w'.heap[R]? = some (.cells ZS T (0, 0))
  fin : L last = true → ∃ cs, w'.heap[R]? = some (.cells cs T (0, 0)) ∧ Fin w' cs
section
variable {w : World} {R last : Nat} {T : TypeId} {ZS : Array Value} {Fin : World → Array Value → Prop} {ps : List Nat} {L : Nat → Bool} {u : Nat → Value} {w' w'' : World}
theorem ApS.lt (h : ApS w R last T ZS Fin ps L u w') : R < w'.heap.size := by
  cases hl : L last with
  | false => exact (Array.getElem?_eq_some_iff.1 (h.pre hl)).1
  | true => obtain ⟨cs, h1, _⟩ := h.fin hl; exact (Array.getElem?_eq_some_iff.1 h1).1
theorem ApS.step (h : ApS w R last T ZS Fin ps L u w') (stab : ∀ a b cs, Below a.heap.size a b → Fin a cs → Fin b cs) (i : Nat) (hi : i ≠ last) (v : Value) (b : Below w'.heap.size w' w'') (hv : i ∈ ps → Fresh w' w'' v) : ApS w R last T ZS Fin ps (updK L i) (upd u i v) w'' := by
  have hlt := h.lt
  have e : updK L i last = L last := by unfold updK; rw [if_neg (fun h => hi h.symm)]
  refine ⟨h.ax.step i v b hv, fun hl => ?_, fun hl => ?_⟩
  · rw [b.block R hlt]; exact h.pre (e ▸ hl)
  · obtain ⟨cs, h1, h2⟩ := h.fin (e ▸ hl)
    exact ⟨cs, by rw [b.block R hlt]; exact h1, stab _ _ _ b h2⟩
theorem ApS.put (h : ApS w R last T ZS Fin ps L u w') (hR : w.heap.size ≤ R) (hl : last ∉ ps) (v : Value) {cs : Array Value} (hw : Wr R w' w'') (hr : w''.heap[R]? = some (.cells cs T (0, 0))) (hf : Fin w'' cs) : ApS w R last T ZS Fin ps (updK L last) (upd u last v) w'' := by
  have hk : ∀ p, p ∈ ps → p ≠ last := fun p hp e => hl (e ▸ hp)
  refine ⟨⟨h.ax.below.trans (hw.below hR), fun p hp hlp => ?_, fun p hp q hq hne hlp hlq => ?_⟩, fun hx => ?_, fun _ => ⟨cs, hr, hf⟩⟩
  · simp only [updK, if_neg (hk p hp)] at hlp
    simp only [upd, if_neg (hk p hp)]
    exact fun k hk' => by rw [hw.size]; exact h.ax.blt p hp hlp k hk'
  · simp only [updK, if_neg (hk p hp)] at hlp
    simp only [updK, if_neg (hk q hq)] at hlq
    simp only [upd, if_neg (hk p hp), if_neg (hk q hq)]
    exact h.ax.ap p hp q hq hne hlp hlq
  · unfold updK at hx; simp at hx
theorem ApS.start {wb : World} (ax : ApX w ps L u wb) (h : ∀ i, L i = false) (hr : wb.heap[R]? = some (.cells ZS T (0, 0))) : ApS w R last T ZS Fin ps L u wb := ⟨ax, fun _ => hr, fun hl => (by rw [h] at hl; cases hl)⟩
end
end Go.Proofs.YtclmhdhblghfnaaDoor
namespace Go.Proofs.YtclmhdhblghfnaaDoor
open Go.ChangeShapes Go.WideShapes Go.ChangeAt Go.RowKit
set_option linter.unusedVariables false

/-- A text at (b, o). -/
structure PtA (w : World) (b o : Nat) (zs : List Int) : Prop where
  lt : b < w.heap.size
  c : ∀ i, i < zs.length → w.cell? ⟨b, o + i, none⟩ = some (.int .u8 (zs.getD i 0))
theorem PtA.below {w w' : World} {b o : Nat} {zs : List Int} (h : PtA w b o zs) (hb : Below w.heap.size w w') : PtA w' b o zs :=
  ⟨Nat.lt_of_lt_of_le h.lt hb.size, fun i hi => by rw [World.cell?_of_block (w := w) (hb.block b h.lt)]; exact h.c i hi⟩
theorem PtA.at_ {w : World} {b o : Nat} {zs : List Int} (h : PtA w b o zs) : At .u8 w (some ⟨b, o, none⟩) zs := .inr ⟨b, o, rfl, h.lt, h.c⟩
theorem PtA.take {w : World} {b o : Nat} {zs : List Int} (h : PtA w b o zs) (n : Nat) : PtA w b o (zs.take n) :=
  ⟨h.lt, fun i hi => by rw [List.length_take] at hi; rw [h.c i (by omega), getD_takeI _ _ _ (by omega)]⟩
theorem PtA.drop {w : World} {b o : Nat} {zs : List Int} (h : PtA w b o zs) (n : Nat) : PtA w b (o + n) (zs.drop n) :=
  ⟨h.lt, fun i hi => by rw [List.length_drop] at hi; rw [Nat.add_assoc, h.c (n + i) (by omega), getD_dropI]⟩
theorem PtA.part {w : World} {b o : Nat} {zs : List Int} (h : PtA w b o zs) (n c : Nat) (hn : zs.length = n) : Part w (.slice (some ⟨b, o, none⟩) n c) zs := ⟨b, o, c, by rw [hn], h.lt, h.c⟩
theorem PtA.of_own {w : World} {B : Nat} {v : Value} {zs : List Int} (h : Own w B v zs) : ∃ g c, v = .slice (some ⟨g, 0, none⟩) zs.length c ∧ PtA w g 0 zs ∧ zs.length ≤ c := by
  obtain ⟨g, c, e, _, _, hc⟩ := h.base
  obtain ⟨b', o', c', e', hl, hcc⟩ := h.part
  rw [e] at e'; cases e'
  exact ⟨g, c, e, ⟨hl, hcc⟩, hc⟩
theorem byte_take {zs : List Int} (h : Byte zs) (n : Nat) : Byte (zs.take n) := fun z hz => h z (List.mem_of_mem_take hz)
theorem byte_drop {zs : List Int} (h : Byte zs) (n : Nat) : Byte (zs.drop n) := fun z hz => h z (List.mem_of_mem_drop hz)
theorem run_sliceHi (w : World) (b o c : Nat) (hc : 64 ≤ c) : (Instr.sliceAt 22 (.slice (some ⟨b, o, none⟩) 64 c) (some (.int .i64 32)) none none).run Tryd.prog w = .ok (.slice (some ⟨b, o + 32, none⟩) 32 (c - 32)) w := by
  have h4 : ¬ (c = 32) := by omega
  unfold Instr.sliceAt
  simp [run_underlying Tryd.underlying22, go_sem, Instr.sliceBounds, h4, Addr.add]
  try omega
theorem run_sliceLo (w : World) (b o c : Nat) (hc : 64 ≤ c) : (Instr.sliceAt 22 (.slice (some ⟨b, o, none⟩) 64 c) none (some (.int .i64 32)) none).run Tryd.prog w = .ok (.slice (some ⟨b, o, none⟩) 32 c) w := by
  have h2 : (32 : Int) ≤ (c : Int) := by omega
  unfold Instr.sliceAt
  simp [run_underlying Tryd.underlying22, go_sem, Instr.sliceBounds, h2, Addr.add]
  try omega
/-- A point of the model in block g. -/
def PtQ (w : World) (g : Nat) (Q : Q4) : Prop :=
  ∃ g1 c1 g2 c2 g3 c3 g4 c4, PtW w g #[.slice (some ⟨g1, 0, none⟩) 16 c1, .slice (some ⟨g2, 0, none⟩) 16 c2, .slice (some ⟨g3, 0, none⟩) 16 c3, .slice (some ⟨g4, 0, none⟩) 16 c4] ∧
    FeA w (some ⟨g1, 0, none⟩) Q.1 ∧ FeA w (some ⟨g2, 0, none⟩) Q.2.1 ∧ FeA w (some ⟨g3, 0, none⟩) Q.2.2.1 ∧ FeA w (some ⟨g4, 0, none⟩) Q.2.2.2
theorem PtQ.below {w w' : World} {g : Nat} {Q : Q4} (h : PtQ w g Q) (hb : Below w.heap.size w w') : PtQ w' g Q := by
  obtain ⟨g1, c1, g2, c2, g3, c3, g4, c4, hp, f1, f2, f3, f4⟩ := h
  exact ⟨g1, c1, g2, c2, g3, c3, g4, c4, hp.below hb hp.lt, f1.below hb, f2.below hb, f3.below hb, f4.below hb⟩
theorem PtQ.lt {w : World} {g : Nat} {Q : Q4} (h : PtQ w g Q) : g < w.heap.size := by
  obtain ⟨g1, c1, g2, c2, g3, c3, g4, c4, hp, _⟩ := h; exact hp.lt
/-- A point's value. -/
def TmV (w : World) (v : Value) (Q : Q4) : Prop :=
  ∃ g1 c1 g2 c2 g3 c3 g4 c4, v = .agg #[.slice (some ⟨g1, 0, none⟩) 16 c1, .slice (some ⟨g2, 0, none⟩) 16 c2, .slice (some ⟨g3, 0, none⟩) 16 c3, .slice (some ⟨g4, 0, none⟩) 16 c4] ∧
    FeA w (some ⟨g1, 0, none⟩) Q.1 ∧ FeA w (some ⟨g2, 0, none⟩) Q.2.1 ∧ FeA w (some ⟨g3, 0, none⟩) Q.2.2.1 ∧ FeA w (some ⟨g4, 0, none⟩) Q.2.2.2
theorem TmV.below {w w' : World} {v : Value} {Q : Q4} (h : TmV w v Q) (hb : Below w.heap.size w w') : TmV w' v Q := by
  obtain ⟨g1, c1, g2, c2, g3, c3, g4, c4, hp, f1, f2, f3, f4⟩ := h
  exact ⟨g1, c1, g2, c2, g3, c3, g4, c4, hp, f1.below hb, f2.below hb, f3.below hb, f4.below hb⟩
theorem TmV.elim_ {w : World} {v : Value} {Q : Q4} {C : Prop} (h : TmV w v Q) (k : ∀ g1 c1 g2 c2 g3 c3 g4 c4, v = .agg #[.slice (some ⟨g1, 0, none⟩) 16 c1, .slice (some ⟨g2, 0, none⟩) 16 c2, .slice (some ⟨g3, 0, none⟩) 16 c3, .slice (some ⟨g4, 0, none⟩) 16 c4] → FeA w (some ⟨g1, 0, none⟩) Q.1 → FeA w (some ⟨g2, 0, none⟩) Q.2.1 → FeA w (some ⟨g3, 0, none⟩) Q.2.2.1 → FeA w (some ⟨g4, 0, none⟩) Q.2.2.2 → C) : C := by
  obtain ⟨g1, c1, g2, c2, g3, c3, g4, c4, hp, f1, f2, f3, f4⟩ := h
  exact k g1 c1 g2 c2 g3 c3 g4 c4 hp f1 f2 f3 f4
/-- The block of a point is none of an element. -/
theorem PtW.fe {w : World} {G g : Nat} {a : Option Addr} {n c : Nat} {s1 s2 s3 : Value} {x : Int} (h : PtW w G #[.slice a n c, s1, s2, s3]) (f : FeA w (some ⟨g, 0, none⟩) x) : g ≠ G := by
  intro e
  subst e
  obtain ⟨zs, h1, h2, _⟩ := f
  obtain ⟨b, o, e, _, hc⟩ := h1.get (by have := h2.1; omega)
  cases e
  have c0 := hc 0 (by have := h2.1; omega)
  rw [Nat.zero_add, h.c0] at c0
  cases c0
def z4 : Array Value := #[.slice none 0 0, .slice none 0 0, .slice none 0 0, .slice none 0 0]
/-- A point that is made and not yet set. -/
def PtZ (B : Nat) (w : World) (v : Value) : Prop := ∃ g, v = .pointer (some ⟨g, 0, none⟩) ∧ B ≤ g ∧ PtW w g #[.slice none 0 0, .slice none 0 0, .slice none 0 0, .slice none 0 0]
theorem PtZ.below {B : Nat} {w w' : World} {v : Value} (h : PtZ B w v) (hb : Below w.heap.size w w') : PtZ B w' v := by
  obtain ⟨g, e, h1, h2⟩ := h
  exact ⟨g, e, h1, h2.below hb h2.lt⟩
def PtF (w : World) (v : Value) (Q : Q4) : Prop := ∃ g, v = .pointer (some ⟨g, 0, none⟩) ∧ PtQ w g Q
theorem PtF.below {w w' : World} {v : Value} {Q : Q4} (h : PtF w v Q) (hb : Below w.heap.size w w') : PtF w' v Q := by
  obtain ⟨g, e, h1⟩ := h
  exact ⟨g, e, h1.below hb⟩
/-- A region whose operation a makes a point and whose operation s sets it. -/
structure SX (W : World) (a s c : Nat) (Q : Q4) (L : Nat → Bool) (u : Nat → Value) (w : World) : Prop where
  below : Below W.heap.size W w
  fin : L s = true → (L a = true ∧ L c = true) ∧ PtF w (u a) Q
section
variable {W : World} {a s c : Nat} {Q : Q4} {L : Nat → Bool} {u : Nat → Value} {w w' : World}
theorem SX.start (h : ∀ i, L i = false) : SX W a s c Q L u W.drew := ⟨(Below.refl _ _).drew, fun h' => by rw [h] at h'; cases h'⟩
theorem updK_neS (L : Nat → Bool) {i j : Nat} (h : j ≠ i) : updK L i j = L j := by unfold updK; rw [if_neg h]
theorem upd_neS (u : Nat → Value) {i j : Nat} (v : Value) (h : j ≠ i) : upd u i v j = u j := by unfold upd; rw [if_neg h]
theorem upd_selfS (u : Nat → Value) (i : Nat) (v : Value) : upd u i v i = v := by unfold upd; rw [if_pos rfl]
theorem SX.step (h : SX W a s c Q L u w) (i : Nat) (v : Value) (hb : Below w.heap.size w w') (hs : s ≠ i) (ha : a ≠ i) : SX W a s c Q (updK L i) (upd u i v) w' :=
  ⟨h.below.trans (hb.mono h.below.size), by
    rw [updK_neS L hs, updK_neS L ha, upd_neS u v ha]
    exact fun h' => ⟨⟨(h.fin h').1.1, by have := (h.fin h').1.2; unfold updK; split <;> simp [this]⟩, (h.fin h').2.below hb⟩⟩
theorem SX.made (h : SX W a s c Q L u w) (v : Value) (hb : Below w.heap.size w w') (hs : s ≠ a) (hL : L a = false) : SX W a s c Q (updK L a) (upd u a v) w' :=
  ⟨h.below.trans (hb.mono h.below.size), by
    rw [updK_neS L hs]
    intro h'
    have := (h.fin h').1.1
    rw [hL] at this; cases this⟩
theorem SX.set (h : SX W a s c Q L u w) (v : Value) (hb : Below W.heap.size w w') (hs : a ≠ s) (hc : c ≠ s) (hL : L a = true) (hLc : L c = true) (hf : PtF w' (u a) Q) : SX W a s c Q (updK L s) (upd u s v) w' :=
  ⟨h.below.trans hb, fun _ => ⟨⟨by rw [updK_neS L hs]; exact hL, by rw [updK_neS L hc]; exact hLc⟩, by rw [upd_neS u v hs]; exact hf⟩⟩
end
/-- The point is set. -/
theorem wp_storeS {w : World} {o : Oper} {a : Act} {K : Act → World → Prop} {Q : Exit → Act → World → Prop} (x y : Operand) (ho : o.op = .store 30 x y) (B : Nat) (R : Q4) (vx vy : Value)
    (hx : a.eval x = vx) (hy : a.eval y = vy) (hz : PtZ B w vx) (ht : TmV w vy R) (hK : ∀ w', Below B w w' → PtF w' vx R → K (a.put o.dst undef) w') : o.wp Tryd.prog a w K Q := by
  obtain ⟨g, rfl, h1, h2⟩ := hz
  obtain ⟨g1, c1, g2, c2, g3, c3, g4, c4, rfl, f1, f2, f3, f4⟩ := ht
  have hw : Wr g w (w.setRow g #[.slice (some ⟨g1, 0, none⟩) 16 c1, .slice (some ⟨g2, 0, none⟩) 16 c2, .slice (some ⟨g3, 0, none⟩) 16 c3, .slice (some ⟨g4, 0, none⟩) 16 c4]) := Wr.setRow _ _ _
  refine wp_store_row 30 x y ho g #[.slice (some ⟨g1, 0, none⟩) 16 c1, .slice (some ⟨g2, 0, none⟩) 16 c2, .slice (some ⟨g3, 0, none⟩) 16 c3, .slice (some ⟨g4, 0, none⟩) 16 c4] hx hy 30 _ h2 Tryd.sizePt rfl (by simp [Value.oneCell']) ?_
  exact hK _ (hw.below h1) ⟨g, rfl, g1, c1, g2, c2, g3, c3, g4, c4, setRow_heap _ _ _ _ _ _ h2, f1.wr hw (h2.fe f1), f2.wr hw (h2.fe f2), f3.wr hw (h2.fe f3), f4.wr hw (h2.fe f4)⟩
/-- A code's text in memory; as a string. -/
def CdW (w : World) (v : Value) (V : Int) : Prop := ∃ g c bs, v = .slice (some ⟨g, 0, none⟩) 32 c ∧ PtA w g 0 bs ∧ Byte bs ∧ bs.length = 32 ∧ val 256 bs = V
theorem CdW.below {w w' : World} {v : Value} {V : Int} (h : CdW w v V) (hb : Below w.heap.size w w') : CdW w' v V := by
  obtain ⟨g, c, bs, e, h1, h2⟩ := h
  exact ⟨g, c, bs, e, h1.below hb, h2⟩
def StV (w : World) (v : Value) (V : Int) : Prop := ∃ bs, v = .string (strOfNums bs) ∧ Byte bs ∧ bs.length = 32 ∧ val 256 bs = V
theorem StV.below {w w' : World} {v : Value} {V : Int} (h : StV w v V) (hb : Below w.heap.size w w') : StV w' v V := h
theorem str_injS {xs ys : List Int} (hx : Byte xs) (hy : Byte ys) : ((strOfNums xs).toList == (strOfNums ys).toList) = decide (xs = ys) := by
  rw [Bool.eq_iff_iff, decide_eq_true_eq, beq_iff_eq, ByteArray.toList_eq, ByteArray.toList_eq, strOfNums_data, strOfNums_data]
  constructor
  · intro h
    have hl : xs.length = ys.length := by simpa using congrArg List.length h
    apply List.ext_getElem hl
    intro i h1 h2
    have e : (xs.map fun n => UInt8.ofNat n.toNat)[i]? = (ys.map fun n => UInt8.ofNat n.toNat)[i]? := by rw [h]
    simp [h1, h2] at e
    have e' := congrArg UInt8.toNat e
    have bx := hx xs[i] (List.getElem_mem h1)
    have by' := hy ys[i] (List.getElem_mem h2)
    simp only [UInt8.toNat_ofNat'] at e'
    omega
  · rintro rfl; rfl
theorem str_val {xs ys : List Int} (hx : Byte xs) (hy : Byte ys) (lx : xs.length = 32) (ly : ys.length = 32) : ((strOfNums xs).toList == (strOfNums ys).toList) = decide (val 256 xs = val 256 ys) := by
  rw [str_injS hx hy]
  by_cases h : xs = ys
  · rw [decide_eq_true h, decide_eq_true (by rw [h])]
  · rw [decide_eq_false h, decide_eq_false (fun e => h (val_inj (B := 256) (by decide) hx hy (by omega) e))]
end Go.Proofs.YtclmhdhblghfnaaDoor
