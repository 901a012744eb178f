/-
  Own work: EncodeFrame of the program and of the model, at every frame.
-/
import Derived.Test.YthghkfncpdnpoabIEnc
import Derived.Test.YthghkfncpdnpoabMark
namespace Go.Proofs.Ythghkfncpdnpoab
open Go.ChangeShapes Go.WideShapes Go.ChangeAt Go.RowKit
set_option linter.unusedVariables false

def encZ (s k a b : Int) : List Int := if 1 ≤ k ∧ k ≤ 3 then encS s k a b else []
theorem encZ_len (s k a b : Int) : (encZ s k a b).length ≤ 64 := by
  unfold encZ; split
  · simp [encS, parts3, headS_len, four]
  · simp
/-- A slice of the answer's own, from block B on. -/
def Res (B : Nat) (w : World) (v : Value) (zs : List Int) : Prop :=
  ∃ a c, v = .slice a zs.length c ∧ At .u8 w a zs ∧ Open w a zs.length ∧ ∀ ad, a = some ad → B ≤ ad.block

theorem row_open {w : World} {g : Nat} {t : TypeId} {zs : List Int} (h : Row w g t zs) : Open w (some ⟨g, 0, none⟩) zs.length :=
  .inr ⟨g, 0, rfl, h.lt, fun i hi => by rw [Nat.zero_add]; exact ⟨by rw [h.cell i hi]; rfl, h.frozen i⟩⟩

theorem ienc_any (s k a b : Int) (w : World) (us : U32 s) (ua : U32 a) (ub : U32 b) :
    Calls Try.prog 24 #[.agg #[.int .u32 s, .int .i64 k, .int .u32 a, .int .u32 b]] w fun e w' => ∃ v, e = .returned v ∧ Res w.heap.size w' v (encZ s k a b) ∧ Below w.heap.size w w' := by
  by_cases hk : 1 ≤ k ∧ k ≤ 3
  · refine (ienc_yes s k a b w us ua ub hk).mono ?_
    rintro e w' ⟨g, rfl, hg, hr, hb⟩
    rw [enc_eq s k a b us ua ub] at hr
    have e : encZ s k a b = encS s k a b := by unfold encZ; rw [if_pos hk]
    have hl : (encS s k a b).length = 64 := by rw [← enc_eq s k a b us ua ub]; exact encI_len _ _ _ _
    rw [e]
    exact ⟨_, rfl, ⟨_, 64, by rw [hl], hr.at_, row_open hr, fun ad h => by cases h; exact hg⟩, hb⟩
  · refine (ienc_no s k a b w hk).mono ?_
    rintro e w' ⟨rfl, hb⟩
    have e : encZ s k a b = [] := by unfold encZ; rw [if_neg hk]
    rw [e]
    exact ⟨_, rfl, ⟨none, 0, rfl, .inl rfl, .inl rfl, fun ad h => by cases h⟩, hb⟩

theorem senc_any (s k a b : Int) (w : World) (us : U32 s) (ua : U32 a) (ub : U32 b) :
    Calls Try.prog 26 #[.agg #[.int .u32 s, .int .i64 k, .int .u32 a, .int .u32 b]] w fun e w' => ∃ v, e = .returned v ∧ Part w' v (encZ s k a b) ∧ Below w.heap.size w w' := by
  by_cases hk : 1 ≤ k ∧ k ≤ 3
  · have e : encZ s k a b = encS s k a b := by unfold encZ; rw [if_pos hk]
    rw [e]; exact senc_yes s k a b w us ua ub hk.1 hk.2
  · have e : encZ s k a b = [] := by unfold encZ; rw [if_neg hk]
    rw [e]; exact senc_no s k a b w (by omega)

theorem part_at {w : World} {v : Value} {zs : List Int} (h : Part w v zs) : ∃ b o c, v = .slice (some ⟨b, o, none⟩) zs.length c ∧ b < w.heap.size ∧ At .u8 w (some ⟨b, o, none⟩) zs := by
  obtain ⟨b, o, c, rfl, hl, hc⟩ := h
  exact ⟨b, o, c, rfl, hl, .inr ⟨b, o, rfl, hl, hc⟩⟩
theorem below_drewN {B : Nat} {a w : World} (h : Below B a w) (n : Nat) : Below B a (w.drewN n) := ⟨h.os, h.tape, h.output, h.size, h.block⟩
theorem At.wrO {k : IntKind} {w w' : World} {a : Option Addr} {zs : List Int} {b o : Nat} (h : At k w (some ⟨b, o, none⟩) zs) (hw : WrO a w w') (hne : ∀ ad, a = some ad → b ≠ ad.block) : At k w' (some ⟨b, o, none⟩) zs := by
  rcases h with h | ⟨b', off, h1, hl, hc⟩
  · exact .inl h
  · cases h1
    exact .inr ⟨b, o, rfl, by rw [hw.size]; exact hl, fun i hi => by rw [World.cell?_of_block (a := ⟨b, o + i, none⟩) (w := w) (hw.block b hne)]; exact hc i hi⟩

end Go.Proofs.Ythghkfncpdnpoab
