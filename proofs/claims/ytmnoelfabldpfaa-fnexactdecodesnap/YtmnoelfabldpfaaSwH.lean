/-
  Own work: states in memory of one's own, and the laws' marks on them.
-/
import Derived.Test.YtmnoelfabldpfaaMSwF
import Derived.Test.YtmnoelfabldpfaaSvG
import Derived.Test.YtmnoelfabldpfaaMSwF
namespace Go.Proofs.Ytmnoelfabldpfaa
open Go.ChangeShapes Go.WideShapes Go.ChangeAt Go.RowKit
set_option linter.unusedVariables false

/-- Numbers in cells that may be written. -/
def SAt (w : World) (a : Option Addr) (zs : List Int) : Prop :=
  zs = [] ∨ ∃ b off, a = some ⟨b, off, none⟩ ∧ b < w.heap.size ∧ ∀ i, i < zs.length → w.cell? ⟨b, off + i, none⟩ = some (.int .i64 (zs.getD i 0)) ∧ w.frozen? ⟨b, off + i, none⟩ = false
theorem SAt.at_ {w : World} {a : Option Addr} {zs : List Int} (h : SAt w a zs) : At .i64 w a zs := by
  rcases h with h | ⟨b, off, e, hl, hc⟩
  · exact .inl h
  · exact .inr ⟨b, off, e, hl, fun i hi => (hc i hi).1⟩
theorem SAt.open_ {w : World} {a : Option Addr} {zs : List Int} (h : SAt w a zs) {n : Nat} (hn : zs.length = n) : Open w a n := by
  rcases h with h | ⟨b, off, e, hl, hc⟩
  · subst h; exact .inl (by simpa using hn.symm)
  · exact .inr ⟨b, off, e, hl, fun i hi => ⟨by rw [(hc i (by omega)).1]; rfl, (hc i (by omega)).2⟩⟩
/-- The slice's block lies from lo on, and is there. -/
def Lies (lo : Nat) (w : World) (a : Option Addr) : Prop := ∀ ad, a = some ad → lo ≤ ad.block ∧ ad.block < w.heap.size
def Aprt (a b : Option Addr) : Prop := ∀ x y, a = some x → b = some y → x.block ≠ y.block
theorem Lies.mono {lo lo' : Nat} {w w' : World} {a : Option Addr} (h : Lies lo w a) (hl : lo' ≤ lo) (hs : w.heap.size ≤ w'.heap.size) : Lies lo' w' a := fun ad e => by have := h ad e; omega
theorem SAt.keep {w w' : World} {a : Option Addr} {zs : List Int} (h : SAt w a zs) (hs : w.heap.size ≤ w'.heap.size) (hb : ∀ ad, a = some ad → ad.block < w.heap.size → w'.heap[ad.block]? = w.heap[ad.block]?) : SAt w' a zs := by
  rcases h with h | ⟨b, off, e, hl, hc⟩
  · exact .inl h
  · have hk := hb _ e hl
    refine .inr ⟨b, off, e, by omega, fun i hi => ?_⟩
    rw [World.cell?_of_block (a := ⟨b, off + i, none⟩) (w := w) hk, World.frozen?_of_block (a := ⟨b, off + i, none⟩) (w := w) hk]
    exact hc i hi
theorem At.keep {w w' : World} {a : Option Addr} {zs : List Int} (h : At .i64 w a zs) (hs : w.heap.size ≤ w'.heap.size) (hb : ∀ ad, a = some ad → ad.block < w.heap.size → w'.heap[ad.block]? = w.heap[ad.block]?) : At .i64 w' a zs := by
  rcases h with h | ⟨b, off, e, hl, hc⟩
  · exact .inl h
  · have hk := hb _ e hl
    refine .inr ⟨b, off, e, by omega, fun i hi => ?_⟩
    rw [World.cell?_of_block (a := ⟨b, off + i, none⟩) (w := w) hk]
    exact hc i hi
theorem Open.keep {w w' : World} {a : Option Addr} {n : Nat} (h : Open w a n) (hs : w.heap.size ≤ w'.heap.size) (hb : ∀ ad, a = some ad → ad.block < w.heap.size → w'.heap[ad.block]? = w.heap[ad.block]?) : Open w' a n := by
  rcases h with h | ⟨b, off, e, hl, hc⟩
  · exact .inl h
  · have hk := hb _ e hl
    refine .inr ⟨b, off, e, by omega, fun i hi => ?_⟩
    rw [World.cell?_of_block (a := ⟨b, off + i, none⟩) (w := w) hk, World.frozen?_of_block (a := ⟨b, off + i, none⟩) (w := w) hk]
    exact hc i hi
theorem SAt.below {w w' : World} {a : Option Addr} {zs : List Int} (h : SAt w a zs) (b : Below w.heap.size w w') : SAt w' a zs := h.keep b.size (fun ad _ hl => b.block _ hl)
theorem Open.below {w w' : World} {a : Option Addr} {n : Nat} (h : Open w a n) (b : Below w.heap.size w w') : Open w' a n := h.keep b.size (fun ad _ hl => b.block _ hl)
/-- A write into another slice's block leaves it. -/
theorem WrO.kept {a c : Option Addr} {w w' : World} (h : WrO a w w') (hap : Aprt a c) : ∀ ad, c = some ad → ad.block < w.heap.size → w'.heap[ad.block]? = w.heap[ad.block]? :=
  fun ad e _ => h.block _ (fun x hx => (hap x ad hx e).symm)
/-- Three lists, each in a block of its own from lo on. -/
structure S3 (lo : Nat) (w : World) (aD aU aT : Option Addr) (nD nU nT : Nat) (D U T : List Int) : Prop where
  d : SAt w aD D
  u : SAt w aU U
  t : SAt w aT T
  nd : D.length = nD
  nu : U.length = nU
  nt : T.length = nT * 2
  ld : Lies lo w aD
  lu : Lies lo w aU
  lt : Lies lo w aT
  du : Aprt aD aU
  dt : Aprt aD aT
  ut : Aprt aU aT
theorem S3.keep {lo : Nat} {w w' : World} {aD aU aT : Option Addr} {nD nU nT : Nat} {D U T : List Int} (h : S3 lo w aD aU aT nD nU nT D U T) (hs : w.heap.size ≤ w'.heap.size) (hb : ∀ k, lo ≤ k → k < w.heap.size → w'.heap[k]? = w.heap[k]?) : S3 lo w' aD aU aT nD nU nT D U T :=
  ⟨h.d.keep hs (fun ad e hl => hb _ (h.ld ad e).1 hl), h.u.keep hs (fun ad e hl => hb _ (h.lu ad e).1 hl), h.t.keep hs (fun ad e hl => hb _ (h.lt ad e).1 hl), h.nd, h.nu, h.nt, h.ld.mono (Nat.le_refl _) hs, h.lu.mono (Nat.le_refl _) hs, h.lt.mono (Nat.le_refl _) hs, h.du, h.dt, h.ut⟩
theorem S3.below {lo : Nat} {w w' : World} {aD aU aT : Option Addr} {nD nU nT : Nat} {D U T : List Int} (h : S3 lo w aD aU aT nD nU nT D U T) (b : Below w.heap.size w w') : S3 lo w' aD aU aT nD nU nT D U T := h.keep b.size (fun k _ hk => b.block k hk)

/-- The block is none of the slice's. -/
def NotIn (k : Nat) (a : Option Addr) : Prop := ∀ ad, a = some ad → k ≠ ad.block
structure MB (lo : Nat) (w : World) (sc : Array Value) (wr : World) : Prop where
  below : Below lo w wr
  box : wr.heap[w.heap.size]? = some (.cells sc 74 (0, 0))
theorem MB.wro {lo : Nat} {w wr w' : World} {sc : Array Value} (h : MB lo w sc wr) {a : Option Addr} (hl : Lies lo w a) (hw : WrO a wr w') : MB lo w sc w' :=
  ⟨h.below.trans (hw.below lo (fun ad e => (hl ad e).1)), by rw [hw.block _ (fun ad e => by have := hl ad e; omega)]; exact h.box⟩
end Go.Proofs.Ytmnoelfabldpfaa
