/-
  Own work: the model's product of numbers of 32-bit digits.
-/
import Derived.Test.YthghkfncpdnpoaaDoorOwnK
import Derived.Test.YthghkfncpdnpoaaDoorVal
import Derived.BigRegion
namespace Go.Proofs.YthghkfncpdnpoaaDoor
open Go.ChangeShapes Go.WideShapes Go.ChangeAt Go.RowKit
set_option linter.unusedVariables false

theorem ktU : KT .u64 22 27 8 := ⟨by kernel_rfl, Tryd.underlying27, by decide, by decide⟩
abbrev OwnU := OwnK .u64 22
def D32 (zs : List Int) : Prop := ∀ z ∈ zs, 0 ≤ z ∧ z < 4294967296
theorem D32.get {zs : List Int} (h : D32 zs) (i : Nat) : 0 ≤ zs.getD i 0 ∧ zs.getD i 0 < 4294967296 := by
  by_cases hi : i < zs.length
  · rw [List.getD_eq_getElem?_getD, List.getElem?_eq_getElem hi]; exact h _ (List.getElem_mem hi)
  · rw [List.getD_eq_getElem?_getD, List.getElem?_eq_none (by omega)]; exact ⟨by decide, by decide⟩
theorem D32.set {zs : List Int} (h : D32 zs) (i : Nat) (x : Int) (h0 : 0 ≤ x) (h1 : x < 4294967296) : D32 (zs.set i x) := by
  intro z hz
  rcases List.mem_or_eq_of_mem_set hz with h' | rfl
  · exact h z h'
  · exact ⟨h0, h1⟩
theorem getD_set_other (zs : List Int) (i j : Nat) (x : Int) (h : j ≠ i) : (zs.set i x).getD j 0 = zs.getD j 0 := by
  rw [List.getD_eq_getElem?_getD, List.getElem?_set_ne (Ne.symm h), List.getD_eq_getElem?_getD]
theorem getD_set_same (zs : List Int) (i : Nat) (x : Int) (h : i < zs.length) : (zs.set i x).getD i 0 = x := by
  rw [List.getD_eq_getElem?_getD, List.getElem?_set_self h]; rfl

/-- One step of a row of the product. -/
theorem mul_step (B V o a b c P S : Int) (x : Int) (hx : x = o + a * b + c) (h : V + c * P = S) : (V + (x % B - o) * P) + x / B * (P * B) = S + a * (b * P) := by
  have e : x % B + B * (x / B) = x := Int.emod_add_mul_ediv _ _
  have e2 : (x % B + B * (x / B)) * P = x * P := by rw [e]
  subst hx
  grind

theorem mul_row (A x P Y : Int) : A * Y + x * (P * Y) = (A + x * P) * Y := by grind

/-- The state of a row. -/
structure MR (w : World) (xs ys : List Int) (i : Nat) (zs : List Int) : Prop where
  len : zs.length = xs.length + ys.length
  dig : D32 zs
  zero : ∀ j, i + ys.length ≤ j → zs.getD j 0 = 0

def MulPost (w : World) (xs ys : List Int) (e : Ending) (w' : World) : Prop :=
  ∃ v zs, e = .returned v ∧ OwnU w' w.heap.size v zs ∧ zs.length = xs.length + ys.length ∧ D32 zs ∧ val 4294967296 zs = val 4294967296 xs * val 4294967296 ys ∧ Below w.heap.size w w'

set_option maxHeartbeats 1000000 in
theorem mul_any (a a' : Option Addr) (n m cap cap' : Nat) (xs ys : List Int) (w : World) (hn : xs.length = n) (hm : ys.length = m) (hn' : n ≤ 1024) (hm' : m ≤ 1024) (hm0 : 0 < m) (hn0 : 0 < n) (ha : At .u64 w a xs) (ha' : At .u64 w a' ys) (hx : D32 xs) (hy : D32 ys) :
    Calls Tryd.prog 8 #[.slice a n cap, .slice a' m cap'] w (MulPost w xs ys) := by
  obtain ⟨b0, off, rfl, hb0, hc⟩ := ha.get (by omega)
  obtain ⟨b1, off', rfl, hb1, hc'⟩ := ha'.get (by omega)
  have HC : Hid (∀ i, i < xs.length → w.cell? ⟨b0, off + i, none⟩ = some (.int .u64 (xs.getD i 0))) := hc
  have HC' : Hid (∀ i, i < ys.length → w.cell? ⟨b1, off' + i, none⟩ = some (.int .u64 (ys.getD i 0))) := hc'
  clear hc hc' ha ha'
  go_enter Tryd.func8, Tryd.ntmps8
  go_wp2
  go_loopw [5, 6] (fun v i wr => ∃ k : Nat, k ≤ n + m ∧ i = .int .i64 k ∧ OwnU wr w.heap.size v (List.replicate k 0) ∧ Below w.heap.size w wr) (fun _ i _ => n + m - (intOf i).toNat)
  case atStart => exact ⟨0, Nat.zero_le _, rfl, OwnK.empty _ _ (Nat.le_refl _), (Below.refl _ _).alloc (Nat.le_refl _) _⟩
  case round =>
    obtain ⟨k, hk, rfl, hown, hbel⟩ := hrel
    by_cases hlt : k < n + m
    · have hsz := hbel.size
      have hlt' : (k : Int) < (n : Int) + (m : Int) := by omega
      go_wp2_with (at_builtin; refine wpList_appK _ ktU rfl _ _ rfl w.heap.size _ _ rfl (hown.alloc _) ⟨wr.heap.size, 0, none⟩ 1 1 [0] rfl rfl ?c1 ?c2 ?c3 ?_)
      all_goals first | (intro j hj; obtain rfl : j = 0 := by omega
                         simp [Addr.add]; done) | skip
      case c2 => simp; omega
      case c3 => first | omega | (rw [World.size_alloc]; omega)
      intro v' w1 hown' hbel' _
      have HO : Hid (OwnU w1 w.heap.size v' (List.replicate (k + 1) 0)) := by rw [List.replicate_succ']; exact hown'
      have HB : Hid (Below w.heap.size w w1) := (hbel.alloc (by omega) _).trans hbel'
      clear hown hown' hbel hbel'
      go_wp2
      go_roundw
      case rel => exact ⟨k + 1, by omega, by go_num, HO.out, HB.out⟩
      case measure => simp [intOf]; omega
    · obtain rfl : k = n + m := by omega
      obtain ⟨g, c, rfl, hg, hg', _⟩ := hown.at_
      rw [List.length_replicate] at hown ⊢
      have HO : Hid (OwnU wr w.heap.size (.slice (some ⟨g, 0, none⟩) (n + m) c) (List.replicate (n + m) 0)) := hown
      have HB : Hid (Below w.heap.size w wr) := hbel
      have ecast : ((n + m : Nat) : Int) = (n : Int) + (m : Int) := by omega
      clear hown hbel
      go_wp2
      go_loopw [7] (fun i wq => ∃ (k : Nat) (zs : List Int), k ≤ n ∧ i = .int .i64 k ∧ MR w xs ys k zs ∧ val 4294967296 zs = val 4294967296 (xs.take k) * val 4294967296 ys ∧ OwnU wq w.heap.size (.slice (some ⟨g, 0, none⟩) (n + m) c) zs ∧ Below w.heap.size w wq) (fun i _ => n - (intOf i).toNat)
      case atStart =>
        refine ⟨0, List.replicate (n + m) 0, Nat.zero_le _, rfl, ⟨by simp [hn, hm], ?_, ?_⟩, ?_, HO.out, HB.out⟩
        · intro z hz; rw [List.mem_replicate] at hz; omega
        · intro j hj; simp [List.getD_eq_getElem?_getD, List.getElem?_replicate]
          split <;> rfl
        · simp only [List.take_zero, val, Int.zero_mul]
          generalize n + m = q
          induction q with
          | zero => rfl
          | succ q ih => rw [List.replicate_succ]; simp [val, ih]
      case round =>
        clear HO HB
        obtain ⟨k, zs, hk, rfl, ⟨hzl, hzd, hzz⟩, hv, hown, hbel⟩ := hrel
        by_cases hkn : k < n
        · have hkn' : (k : Int) < (n : Int) := by omega
          have HX := hx.get k
          have HV : Hid (val 4294967296 zs = val 4294967296 (xs.take k) * val 4294967296 ys) := hv
          have HVT : Hid (val 4294967296 (xs.take (k + 1)) = val 4294967296 (xs.take k) + xs.getD k 0 * 4294967296 ^ k) := val_take _ xs k (by omega)
          have HO : Hid (OwnU wr w.heap.size (.slice (some ⟨g, 0, none⟩) (n + m) c) zs) := hown
          have HZ : Hid (zs.length = xs.length + ys.length ∧ D32 zs ∧ ∀ j, k + ys.length ≤ j → zs.getD j 0 = 0) := ⟨hzl, hzd, hzz⟩
          have HBE : Hid (Below w.heap.size w wr) := hbel
          have HCX : Hid (∀ w', Below w.heap.size w w' → w'.cell? ⟨b0, off + k, none⟩ = some (.int .u64 (xs.getD k 0))) := fun w' hb => by rw [hb.cell (p := ⟨b0, off + k, none⟩) hb0]; exact HC.out k (by omega)
          clear hv hown hzl hzd hzz hbel
          obtain ⟨hX0, hX1⟩ := HX
          generalize xs.getD k 0 = x at *
          go_wp2
          go_loopw [8, 9] (fun cc i wq => ∃ (j : Nat) (zs : List Int) (b : Int), j ≤ m ∧ i = .int .i64 j ∧ cc = .int .u64 b ∧ (0 ≤ b ∧ b < 4294967296) ∧ (zs.length = xs.length + ys.length ∧ D32 zs ∧ ∀ j, k + ys.length ≤ j → zs.getD j 0 = 0) ∧ val 4294967296 zs + b * 4294967296 ^ (k + j) = val 4294967296 (xs.take k) * val 4294967296 ys + x * (4294967296 ^ k * val 4294967296 (ys.take j)) ∧ OwnU wq w.heap.size (.slice (some ⟨g, 0, none⟩) (n + m) c) zs ∧ Below w.heap.size w wq) (fun _ i _ => m - (intOf i).toNat)
          case atStart => exact ⟨0, zs, 0, Nat.zero_le _, rfl, rfl, ⟨by decide, by decide⟩, HZ.out, by rw [HV.out, List.take_zero]; simp [val], HO.out, HBE.out⟩
          case round =>
            clear HV HO HZ HBE
            obtain ⟨j, zs, b, hj, rfl, rfl, ⟨hb0', hb1'⟩, ⟨hzl, hzd, hzz⟩, hv, hown, hbel⟩ := hrel
            by_cases hjm : j < m
            · have hjm' : (j : Int) < (m : Int) := by omega
              have cx := HCX.out _ hbel
              have cy : wr.cell? ⟨b1, off' + j, none⟩ = some (.int .u64 (ys.getD j 0)) := by rw [hbel.cell (p := ⟨b1, off' + j, none⟩) hb1]; exact HC'.out j (by omega)
              have HY := hy.get j
              have hzb := hzd.get (k + j)
              have vt := val_take 4294967296 ys j (by omega)
              obtain ⟨pr, hpr⟩ : ∃ pr, pr = x * ys.getD j 0 := ⟨_, rfl⟩
              have hp0 : 0 ≤ pr := by rw [hpr]; exact Int.mul_nonneg hX0 HY.1
              have hp1 : pr ≤ 18446744065119617025 := by
                rw [hpr]
                exact Int.le_trans (Int.mul_le_mul (show x ≤ 4294967295 by omega) (show ys.getD j 0 ≤ 4294967295 by omega) HY.1 (by decide)) (by decide)
              obtain ⟨y, hyy⟩ : ∃ y, y = zs.getD (k + j) 0 + pr + b := ⟨_, rfl⟩
              have hy0 : 0 ≤ y := by omega
              have hy1 : y < 18446744073709551616 := by omega
              have st := mul_step 4294967296 _ (zs.getD (k + j) 0) x (ys.getD j 0) b _ _ y (by rw [hyy, hpr]) hv
              have e1 : val 4294967296 (xs.take k) * val 4294967296 ys + x * (4294967296 ^ k * val 4294967296 (ys.take j)) + x * (ys.getD j 0 * 4294967296 ^ (k + j)) = val 4294967296 (xs.take k) * val 4294967296 ys + x * (4294967296 ^ k * val 4294967296 (ys.take (j + 1))) := by
                rw [vt, Int.pow_add]; grind
              obtain ⟨cz, fz, oz⟩ := OwnK.set (by omega : zs.length = n + m) hown (k + j) (y % 4294967296) (by omega)
              have hle : k + j < zs.length := by omega
              have HS : Hid (val 4294967296 (zs.set (k + j) (y % 4294967296)) + y / 4294967296 * 4294967296 ^ (k + (j + 1)) = val 4294967296 (xs.take k) * val 4294967296 ys + x * (4294967296 ^ k * val 4294967296 (ys.take (j + 1)))) := by
                show _ = _
                rw [val_set _ _ _ _ hle, ← e1, ← st, ← Nat.add_assoc, Int.pow_succ]
              have HZ : Hid ((zs.set (k + j) (y % 4294967296)).length = xs.length + ys.length ∧ D32 (zs.set (k + j) (y % 4294967296)) ∧ ∀ i, k + ys.length ≤ i → (zs.set (k + j) (y % 4294967296)).getD i 0 = 0) :=
                ⟨by rw [List.length_set]; exact hzl, hzd.set _ _ (by omega) (by omega), fun i hi => by rw [getD_set_other _ _ _ _ (by omega)]; exact hzz i hi⟩
              have HO : Hid (OwnU (wr.setCell ⟨g, k + j, none⟩ (.int .u64 (y % 4294967296))) w.heap.size (.slice (some ⟨g, 0, none⟩) (n + m) c) (zs.set (k + j) (y % 4294967296))) := oz
              have HBE : Hid (Below w.heap.size w (wr.setCell ⟨g, k + j, none⟩ (.int .u64 (y % 4294967296)))) := hbel.setCell hg _
              have HQ : Hid (x * ys.getD j 0 = pr) := hpr.symm
              have HQ2 : Hid (zs.getD (k + j) 0 + pr + b = y) := hyy.symm
              have hw1 : IntKind.u64.wrap (x * ys.getD j 0) = pr := by rw [← hpr, IntKind.wrap_u64]; exact Int.emod_eq_of_lt hp0 (by omega)
              clear e1 st vt oz hv hzd hzz hown hbel hle hpr hzl HVT
              obtain ⟨hY0, hY1⟩ := HY
              obtain ⟨hz0, hz1⟩ := hzb
              generalize ys.getD j 0 = yy at *
              generalize zs.getD (k + j) 0 = zz at *
              have hkj : (k : Int) + (j : Int) < (n : Int) + (m : Int) := by omega
              go_wp2
              go_quiet (fail)
              rw [HQ2.out]
              have cz2 : (wr.drewN nq).cell? ⟨g, k + j, none⟩ = some (.int .u64 zz) := cz
              have fz2 : (wr.drewN nq).frozen? ⟨g, k + j, none⟩ = false := fz
              have HO2 : Hid (OwnU ((wr.drewN nq).setCell ⟨g, k + j, none⟩ (.int .u64 (y % 4294967296))) w.heap.size (.slice (some ⟨g, 0, none⟩) (n + m) c) (zs.set (k + j) (y % 4294967296))) := HO.out
              have HBE2 : Hid (Below w.heap.size w ((wr.drewN nq).setCell ⟨g, k + j, none⟩ (.int .u64 (y % 4294967296)))) := ⟨HBE.out.os, HBE.out.tape, HBE.out.output, HBE.out.size, HBE.out.block⟩
              have hyq0 : 0 ≤ y / 4294967296 := by omega
              have hyq1 : y / 4294967296 < 4294967296 := by omega
              clear cz fz HO HBE cx cy HQ hw1 hyy HQ2 hp0 hp1 hz0 hz1
              generalize wr.drewN nq = w2 at *
              go_wp2
              go_roundw
              case rel => exact ⟨j + 1, zs.set (k + j) (y % 4294967296), y / 4294967296, by omega, by go_num, rfl, ⟨hyq0, hyq1⟩, HZ.out, HS.out, HO2.out, HBE2.out⟩
              case measure => simp [intOf]; omega
            · obtain rfl : j = m := by omega
              rw [List.take_of_length_le (l := ys) (i := j) (by omega)] at hv
              have hzk := hzz (k + j) (by omega)
              obtain ⟨cz, fz, oz⟩ := OwnK.set (by omega : zs.length = n + j) hown (k + j) b (by omega)
              rw [hzk] at cz
              have hle : k + j < zs.length := by omega
              have vs := val_set 4294967296 zs (k + j) b hle
              rw [hzk, Int.sub_zero, hv] at vs
              have HS : Hid (val 4294967296 (zs.set (k + j) b) = val 4294967296 (xs.take (k + 1)) * val 4294967296 ys) := by
                show _ = _
                rw [vs, HVT.out, mul_row]
              have HZ : Hid (MR w xs ys (k + 1) (zs.set (k + j) b)) := ⟨by rw [List.length_set]; exact hzl, hzd.set _ _ (by omega) (by omega), fun i hi => by rw [getD_set_other _ _ _ _ (by omega)]; exact hzz i (by omega)⟩
              have HO : Hid (OwnU (wr.setCell ⟨g, k + j, none⟩ (.int .u64 b)) w.heap.size (.slice (some ⟨g, 0, none⟩) (n + j) c) (zs.set (k + j) b)) := oz
              have HBE : Hid (Below w.heap.size w (wr.setCell ⟨g, k + j, none⟩ (.int .u64 b))) := hbel.setCell hg _
              have hkj : (k : Int) + (j : Int) < (n : Int) + (j : Int) := by omega
              clear hv hzk oz hle vs hzz hzd hown hbel HVT HCX hzl
              go_wp2
              go_roundw
              case rel => exact ⟨k + 1, zs.set (k + j) b, by omega, by go_num, HZ.out, HS.out, HO.out, HBE.out⟩
              case measure => simp [intOf]; omega
        · obtain rfl : k = n := by omega
          rw [List.take_of_length_le (by omega)] at hv
          have hke : zs.length = k + m := by omega
          have HP : Hid (MulPost w xs ys (.returned (.slice (some ⟨g, 0, none⟩) (k + m) c)) wr) := ⟨_, zs, rfl, hown, hzl, hzd, hv, hbel⟩
          clear hzl hzd hzz hv hown hbel hke
          go_wp2
          go_ret
          exact HP.out
end Go.Proofs.YthghkfncpdnpoaaDoor
