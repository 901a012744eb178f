/-
  Own work: the cut, by the program and by the model (written by wip/mkct.py).
-/
import Derived.Test.YthghkfncpdnpoadEqB
import Derived.Test.YthghkfncpdnpoadFrS
import Derived.Deep.Cut
namespace Go.Proofs.Ythghkfncpdnpoad
open Go.ChangeShapes Go.WideShapes Go.ChangeAt Go.RowKit
set_option linter.unusedVariables false

/-- The cut of the last r frames, the first tap among them having the number n. -/
def cutR (F : List Int) (nF : Nat) (ak nx : Int) : Nat → Int → Int
  | 0, _ => nx
  | r + 1, n => if F.getD ((nF - (r + 1)) * 4 + 1) 0 = 1 then (if ak ≤ n then F.getD ((nF - (r + 1)) * 4) 0 else cutR F nF ak nx r (n + 1)) else cutR F nF ak nx r n
def cutV (ok : Bool) (n : Nat) (F : List Int) (nF : Nat) (ak nx : Int) : Int := if ok = true then cutR F nF ak nx nF n else 0
set_option maxRecDepth 100000 in
set_option maxHeartbeats 2000000 in
theorem ict_any (asD asU aF azD azU azT : Option Addr) (nsD csD nsU csU nF cF nzD czD nzU czU nzT czT : Nat) (sD sU F zD zU zT : List Int) (sgn stl zk nx : Int) (ok : Bool) (w : World) (hF : F.length = nF * 4) (mF : nF ≤ 1048576) (mU : nsU ≤ 1048576) (aF' : FAt w aF F) :
    Calls Try.prog 9 #[.agg #[.bool ok, .int .u32 sgn, .int .u32 stl, .slice asD nsD csD, .slice asU nsU csU, .slice aF nF cF, .slice azD nzD czD, .slice azU nzU czU, .int .i64 zk, .slice azT nzT czT, .int .u32 nx]] w fun e w' => e = .returned (.int .u32 (cutV ok nsU F nF zk nx)) ∧ Below w.heap.size w w' := by
  have HA : Hid (FAt w aF F) := aF'
  have HLT : Hid (F.length = nF * 4) := hF
  have HE0 : Hid (OE w 40 #[.bool ok, .int .u32 sgn, .int .u32 stl, .slice asD nsD csD, .slice asU nsU csU, .slice aF nF cF, .slice azD nzD czD, .slice azU nzU czU, .int .i64 zk, .slice azT nzT czT, .int .u32 nx] (w.alloc (.cells #[.bool ok, .int .u32 sgn, .int .u32 stl, .slice asD nsD csD, .slice asU nsU csU, .slice aF nF cF, .slice azD nzD czD, .slice azU nzU czU, .int .i64 zk, .slice azT nzT czT, .int .u32 nx] 40))) := OE.start _ _ _
  have HCT : Hid (∀ r n, cutR F nF zk nx (r + 1) n = if F.getD ((nF - (r + 1)) * 4 + 1) 0 = 1 then (if zk ≤ n then F.getD ((nF - (r + 1)) * 4) 0 else cutR F nF zk nx r (n + 1)) else cutR F nF zk nx r n) := fun _ _ => rfl
  have HC0 : Hid (∀ n, cutR F nF zk nx 0 n = nx) := fun _ => rfl
  clear aF' hF
  cases ok with
  | false =>
    have HV : Hid (cutV false nsU F nF zk nx = 0) := rfl
    have HF : Hid (Below w.heap.size w (w.alloc (.cells #[.bool false, .int .u32 sgn, .int .u32 stl, .slice asD nsD csD, .slice asU nsU csU, .slice aF nF cF, .slice azD nzD czD, .slice azU nzU czU, .int .i64 zk, .slice azT nzT czT, .int .u32 nx] 40))) := HE0.out.below
    clear HE0
    go_enter Try.func9, Try.ntmps9
    go_wp2
    go_ret
    exact ⟨ret_int HV.out.symm, HF.out⟩
  | true =>
    have HV : Hid (cutV true nsU F nF zk nx = cutR F nF zk nx nF nsU) := rfl
    have HS : Hid (∀ wr, OE w 40 #[.bool true, .int .u32 sgn, .int .u32 stl, .slice asD nsD csD, .slice asU nsU csU, .slice aF nF cF, .slice azD nzD czD, .slice azU nzU czU, .int .i64 zk, .slice azT nzT czT, .int .u32 nx] wr → wr.cell? ⟨w.heap.size, 4, none⟩ = some (.slice asU nsU csU) ∧ wr.cell? ⟨w.heap.size, 5, none⟩ = some (.slice aF nF cF) ∧ wr.cell? ⟨w.heap.size, 8, none⟩ = some (.int .i64 zk) ∧ wr.cell? ⟨w.heap.size, 10, none⟩ = some (.int .u32 nx)) := fun wr h =>
      ⟨by rw [cell_of_row wr w.heap.size 4 _ _ _ h.b0]; rfl, by rw [cell_of_row wr w.heap.size 5 _ _ _ h.b0]; rfl, by rw [cell_of_row wr w.heap.size 8 _ _ _ h.b0]; rfl, by rw [cell_of_row wr w.heap.size 10 _ _ _ h.b0]; rfl⟩
    go_enter Try.func9, Try.ntmps9
    go_wp2_with fail
    generalize w.alloc (.cells #[.bool true, .int .u32 sgn, .int .u32 stl, .slice asD nsD csD, .slice asU nsU csU, .slice aF nF cF, .slice azD nzD czD, .slice azU nzU czU, .int .i64 zk, .slice azT nzT czT, .int .u32 nx] 40) = w0 at *
    go_loopw [3, 16] (fun q i wr => ∃ (k : Nat) (z : Int), k ≤ nF ∧ i = .int .i64 k ∧ q = .int .i64 z ∧ 0 ≤ z ∧ z ≤ nsU + k ∧ cutR F nF zk nx (nF - k) z = cutR F nF zk nx nF nsU ∧ OE w 40 #[.bool true, .int .u32 sgn, .int .u32 stl, .slice asD nsD csD, .slice asU nsU csU, .slice aF nF cF, .slice azD nzD czD, .slice azU nzU czU, .int .i64 zk, .slice azT nzT czT, .int .u32 nx] wr) (fun _ i _ => nF - (intOf i).toNat)
    case atStart => exact ⟨0, nsU, Nat.zero_le _, rfl, rfl, by omega, by omega, rfl, HE0.out⟩
    case round =>
      clear HE0
      obtain ⟨k, z, hk, rfl, rfl, z0, z1, hcut, hst⟩ := hrel
      have HST : Hid (OE w 40 #[.bool true, .int .u32 sgn, .int .u32 stl, .slice asD nsD csD, .slice asU nsU csU, .slice aF nF cF, .slice azD nzD czD, .slice azU nzU czU, .int .i64 zk, .slice azT nzT czT, .int .u32 nx] wr) := hst
      have HCU : Hid (cutR F nF zk nx (nF - k) z = cutR F nF zk nx nF nsU) := hcut
      obtain ⟨x4, x5, x8, x10⟩ := HS.out wr hst
      have hwl := hst.lt
      clear hcut
      by_cases hlt : k < nF
      · have hlt' : (k : Int) < nF := by omega
        have HNE : Hid (cutR F nF zk nx (nF - k) z = if F.getD (k * 4 + 1) 0 = 1 then (if zk ≤ z then F.getD (k * 4) 0 else cutR F nF zk nx (nF - (k + 1)) (z + 1)) else cutR F nF zk nx (nF - (k + 1)) z) := by
          show _ = _
          have e := HCT.out (nF - (k + 1)) z
          rw [show nF - (k + 1) + 1 = nF - k by omega, show nF - (nF - k) = k by omega] at e
          exact e
        obtain ⟨b, off, ea, hb, hc⟩ := (HA.out.below hst.below).get (by have := HLT.out; omega)
        obtain ⟨t0, t1, t2, t3⟩ := FAt.four hc k (by have := HLT.out; omega)
        subst ea
        clear hc hst
        generalize F.getD (k * 4) 0 = s at *
        generalize F.getD (k * 4 + 1) 0 = m at *
        generalize F.getD (k * 4 + 2) 0 = x at *
        generalize F.getD (k * 4 + 3) 0 = y at *
        have HN : Hid (OE w 40 #[.bool true, .int .u32 sgn, .int .u32 stl, .slice asD nsD csD, .slice asU nsU csU, .slice (some ⟨b, off, none⟩) nF cF, .slice azD nzD czD, .slice azU nzU czU, .int .i64 zk, .slice azT nzT czT, .int .u32 nx] (wr.alloc (.cells #[.int .u32 s, .int .i64 m, .int .u32 x, .int .u32 y] 51))) := HST.out.call ((Below.refl _ _).alloc (Nat.le_refl _) _)
        by_cases hm : m = 1
        · subst hm
          by_cases hz : zk ≤ z
          · have HR : Hid (cutR F nF zk nx nF nsU = s) := by show _ = _; rw [← HCU.out, HNE.out, if_pos rfl, if_pos hz]
            have HF : Hid (Below w.heap.size w (wr.alloc (.cells #[.int .u32 s, .int .i64 1, .int .u32 x, .int .u32 y] 51))) := HN.out.below
            clear HN HST HNE
            go_wp2
            go_ret
            exact ⟨ret_int (by rw [HV.out, HR.out]), HF.out⟩
          · have HR : Hid (cutR F nF zk nx (nF - (k + 1)) (z + 1) = cutR F nF zk nx nF nsU) := by show _ = _; rw [← HCU.out, HNE.out, if_pos rfl, if_neg hz]
            clear HST HNE HCU
            go_wp2
            go_roundw
            case rel => exact ⟨k + 1, z + 1, by omega, by go_num, by go_num, by omega, by omega, HR.out, HN.out⟩
            case measure => simp [intOf]; omega
        · have HR : Hid (cutR F nF zk nx (nF - (k + 1)) z = cutR F nF zk nx nF nsU) := by show _ = _; rw [← HCU.out, HNE.out, if_neg hm]
          have hm' : (m == 1) = false := by simpa using hm
          clear HST HNE HCU hm
          go_wp2
          go_roundw
          case rel => exact ⟨k + 1, z, by omega, by go_num, rfl, by omega, by omega, HR.out, HN.out⟩
          case measure => simp [intOf]; omega
      · have hke : k = nF := by omega
        have hlt' : ¬ ((k : Int) < nF) := by omega
        have HR : Hid (cutR F nF zk nx nF nsU = nx) := by show _ = _; rw [← HCU.out, show nF - k = 0 by omega, HC0.out]
        have HF : Hid (Below w.heap.size w wr) := HST.out.below
        clear hke hst HST
        go_wp2
        go_ret
        exact ⟨ret_int (by rw [HV.out, HR.out]), HF.out⟩
set_option maxRecDepth 100000 in
set_option maxHeartbeats 2000000 in
theorem sct_any (asD asU aF azD azU azT : Option Addr) (nsD csD nsU csU nF cF nzD czD nzU czU nzT czT : Nat) (sD sU F zD zU zT : List Int) (sgn stl zk nx : Int) (ok : Bool) (w : World) (hF : F.length = nF * 4) (mF : nF ≤ 1048576) (mU : nsU ≤ 1048576) (aF' : FAt w aF F) :
    Calls Try.prog 7 #[.agg #[.bool ok, .int .u32 sgn, .int .u32 stl, .slice asD nsD csD, .slice asU nsU csU, .slice aF nF cF, .slice azD nzD czD, .slice azU nzU czU, .int .i64 zk, .slice azT nzT czT, .int .u32 nx]] w fun e w' => e = .returned (.int .u32 (cutV ok nsU F nF zk nx)) ∧ Below w.heap.size w w' := by
  have HA : Hid (FAt w aF F) := aF'
  have HLT : Hid (F.length = nF * 4) := hF
  have HE0 : Hid (OE w 40 #[.bool ok, .int .u32 sgn, .int .u32 stl, .slice asD nsD csD, .slice asU nsU csU, .slice aF nF cF, .slice azD nzD czD, .slice azU nzU czU, .int .i64 zk, .slice azT nzT czT, .int .u32 nx] (w.alloc (.cells #[.bool ok, .int .u32 sgn, .int .u32 stl, .slice asD nsD csD, .slice asU nsU csU, .slice aF nF cF, .slice azD nzD czD, .slice azU nzU czU, .int .i64 zk, .slice azT nzT czT, .int .u32 nx] 40))) := OE.start _ _ _
  have HCT : Hid (∀ r n, cutR F nF zk nx (r + 1) n = if F.getD ((nF - (r + 1)) * 4 + 1) 0 = 1 then (if zk ≤ n then F.getD ((nF - (r + 1)) * 4) 0 else cutR F nF zk nx r (n + 1)) else cutR F nF zk nx r n) := fun _ _ => rfl
  have HC0 : Hid (∀ n, cutR F nF zk nx 0 n = nx) := fun _ => rfl
  clear aF' hF
  cases ok with
  | false =>
    have HV : Hid (cutV false nsU F nF zk nx = 0) := rfl
    have HF : Hid (Below w.heap.size w (w.alloc (.cells #[.bool false, .int .u32 sgn, .int .u32 stl, .slice asD nsD csD, .slice asU nsU csU, .slice aF nF cF, .slice azD nzD czD, .slice azU nzU czU, .int .i64 zk, .slice azT nzT czT, .int .u32 nx] 40))) := HE0.out.below
    clear HE0
    go_enter Try.func7, Try.ntmps7
    go_wp2
    go_ret
    exact ⟨ret_int HV.out.symm, HF.out⟩
  | true =>
    have HV : Hid (cutV true nsU F nF zk nx = cutR F nF zk nx nF nsU) := rfl
    have HS : Hid (∀ wr, OE w 40 #[.bool true, .int .u32 sgn, .int .u32 stl, .slice asD nsD csD, .slice asU nsU csU, .slice aF nF cF, .slice azD nzD czD, .slice azU nzU czU, .int .i64 zk, .slice azT nzT czT, .int .u32 nx] wr → wr.cell? ⟨w.heap.size, 4, none⟩ = some (.slice asU nsU csU) ∧ wr.cell? ⟨w.heap.size, 5, none⟩ = some (.slice aF nF cF) ∧ wr.cell? ⟨w.heap.size, 8, none⟩ = some (.int .i64 zk) ∧ wr.cell? ⟨w.heap.size, 10, none⟩ = some (.int .u32 nx)) := fun wr h =>
      ⟨by rw [cell_of_row wr w.heap.size 4 _ _ _ h.b0]; rfl, by rw [cell_of_row wr w.heap.size 5 _ _ _ h.b0]; rfl, by rw [cell_of_row wr w.heap.size 8 _ _ _ h.b0]; rfl, by rw [cell_of_row wr w.heap.size 10 _ _ _ h.b0]; rfl⟩
    go_enter Try.func7, Try.ntmps7
    go_wp2_with fail
    generalize w.alloc (.cells #[.bool true, .int .u32 sgn, .int .u32 stl, .slice asD nsD csD, .slice asU nsU csU, .slice aF nF cF, .slice azD nzD czD, .slice azU nzU czU, .int .i64 zk, .slice azT nzT czT, .int .u32 nx] 40) = w0 at *
    go_loopw [3, 4] (fun q i wr => ∃ (k : Nat) (z : Int), k ≤ nF ∧ i = .int .i64 k ∧ q = .int .i64 z ∧ 0 ≤ z ∧ z ≤ nsU + k ∧ cutR F nF zk nx (nF - k) z = cutR F nF zk nx nF nsU ∧ OE w 40 #[.bool true, .int .u32 sgn, .int .u32 stl, .slice asD nsD csD, .slice asU nsU csU, .slice aF nF cF, .slice azD nzD czD, .slice azU nzU czU, .int .i64 zk, .slice azT nzT czT, .int .u32 nx] wr) (fun _ i _ => nF - (intOf i).toNat)
    case atStart => exact ⟨0, nsU, Nat.zero_le _, rfl, rfl, by omega, by omega, rfl, HE0.out⟩
    case round =>
      clear HE0
      obtain ⟨k, z, hk, rfl, rfl, z0, z1, hcut, hst⟩ := hrel
      have HST : Hid (OE w 40 #[.bool true, .int .u32 sgn, .int .u32 stl, .slice asD nsD csD, .slice asU nsU csU, .slice aF nF cF, .slice azD nzD czD, .slice azU nzU czU, .int .i64 zk, .slice azT nzT czT, .int .u32 nx] wr) := hst
      have HCU : Hid (cutR F nF zk nx (nF - k) z = cutR F nF zk nx nF nsU) := hcut
      obtain ⟨x4, x5, x8, x10⟩ := HS.out wr hst
      have hwl := hst.lt
      clear hcut
      by_cases hlt : k < nF
      · have hlt' : (k : Int) < nF := by omega
        have HNE : Hid (cutR F nF zk nx (nF - k) z = if F.getD (k * 4 + 1) 0 = 1 then (if zk ≤ z then F.getD (k * 4) 0 else cutR F nF zk nx (nF - (k + 1)) (z + 1)) else cutR F nF zk nx (nF - (k + 1)) z) := by
          show _ = _
          have e := HCT.out (nF - (k + 1)) z
          rw [show nF - (k + 1) + 1 = nF - k by omega, show nF - (nF - k) = k by omega] at e
          exact e
        obtain ⟨b, off, ea, hb, hc⟩ := (HA.out.below hst.below).get (by have := HLT.out; omega)
        obtain ⟨t0, t1, t2, t3⟩ := FAt.four hc k (by have := HLT.out; omega)
        subst ea
        clear hc hst
        generalize F.getD (k * 4) 0 = s at *
        generalize F.getD (k * 4 + 1) 0 = m at *
        generalize F.getD (k * 4 + 2) 0 = x at *
        generalize F.getD (k * 4 + 3) 0 = y at *
        have HN : Hid (OE w 40 #[.bool true, .int .u32 sgn, .int .u32 stl, .slice asD nsD csD, .slice asU nsU csU, .slice (some ⟨b, off, none⟩) nF cF, .slice azD nzD czD, .slice azU nzU czU, .int .i64 zk, .slice azT nzT czT, .int .u32 nx] wr) := HST.out
        by_cases hm : m = 1
        · subst hm
          by_cases hz : zk ≤ z
          · have HR : Hid (cutR F nF zk nx nF nsU = s) := by show _ = _; rw [← HCU.out, HNE.out, if_pos rfl, if_pos hz]
            have HF : Hid (Below w.heap.size w wr) := HN.out.below
            clear HN HST HNE
            go_wp2
            go_ret
            exact ⟨ret_int (by rw [HV.out, HR.out]), HF.out⟩
          · have HR : Hid (cutR F nF zk nx (nF - (k + 1)) (z + 1) = cutR F nF zk nx nF nsU) := by show _ = _; rw [← HCU.out, HNE.out, if_pos rfl, if_neg hz]
            clear HST HNE HCU
            go_wp2
            go_roundw
            case rel => exact ⟨k + 1, z + 1, by omega, by go_num, by go_num, by omega, by omega, HR.out, HN.out⟩
            case measure => simp [intOf]; omega
        · have HR : Hid (cutR F nF zk nx (nF - (k + 1)) z = cutR F nF zk nx nF nsU) := by show _ = _; rw [← HCU.out, HNE.out, if_neg hm]
          have hm' : (m == 1) = false := by simpa using hm
          clear HST HNE HCU hm
          go_wp2
          go_roundw
          case rel => exact ⟨k + 1, z, by omega, by go_num, rfl, by omega, by omega, HR.out, HN.out⟩
          case measure => simp [intOf]; omega
      · have hke : k = nF := by omega
        have hlt' : ¬ ((k : Int) < nF) := by omega
        have HR : Hid (cutR F nF zk nx nF nsU = nx) := by show _ = _; rw [← HCU.out, show nF - k = 0 by omega, HC0.out]
        have HF : Hid (Below w.heap.size w wr) := HST.out.below
        clear hke hst HST
        go_wp2
        go_ret
        exact ⟨ret_int (by rw [HV.out, HR.out]), HF.out⟩
end Go.Proofs.Ythghkfncpdnpoad
