/-
  Own work: the law on CutPoint (written by wip/mklct.py).
-/
import Derived.Test.YthghkfncpdnpoadArIm
import Derived.Test.YthghkfncpdnpoadToIm
import Derived.Test.YthghkfncpdnpoadEqIm
import Derived.Test.YthghkfncpdnpoadSzIm
import Derived.Test.YthghkfncpdnpoadCtP
import Derived.Deep.Cut
namespace Go.Proofs.Ythghkfncpdnpoad.fnExactCutPoint
open Go.ChangeShapes Go.WideShapes Go.ChangeAt Go.RowKit
set_option linter.unusedVariables false

/-- A copy, as a value. -/
def TImV (sD sU F zD zU zT : List Int) (nsD nsU nF nzD nzU nzT : Nat) (sgn stl zk nx : Int) (ok : Bool) (w : World) (v : Value) : Prop := ∃ gsD gsU gF gzD gzU gzT, v = .agg #[.bool ok, .int .u32 sgn, .int .u32 stl, .slice (some ⟨gsD, 0, none⟩) nsD nsD, .slice (some ⟨gsU, 0, none⟩) nsU nsU, .slice (some ⟨gF, 0, none⟩) nF nF, .slice (some ⟨gzD, 0, none⟩) nzD nzD, .slice (some ⟨gzU, 0, none⟩) nzU nzU, .int .i64 zk, .slice (some ⟨gzT, 0, none⟩) nzT nzT, .int .u32 nx] ∧ RowV w gsD 2 (iC sD) ∧ RowV w gsU 2 (iC sU) ∧ RowV w gF 51 (fC F) ∧ RowV w gzD 2 (iC zD) ∧ RowV w gzU 2 (iC zU) ∧ RowV w gzT 92 (iC zT)
theorem TImV.below {sD sU F zD zU zT : List Int} {nsD nsU nF nzD nzU nzT : Nat} {sgn stl zk nx : Int} {ok : Bool} {w w' : World} {v : Value} (h : TImV sD sU F zD zU zT nsD nsU nF nzD nzU nzT sgn stl zk nx ok w v) (b : Below w.heap.size w w') : TImV sD sU F zD zU zT nsD nsU nF nzD nzU nzT sgn stl zk nx ok w' v := by
  obtain ⟨gsD, gsU, gF, gzD, gzU, gzT, e, rsD, rsU, rF, rzD, rzU, rzT⟩ := h
  exact ⟨gsD, gsU, gF, gzD, gzU, gzT, e, rsD.below b, rsU.below b, rF.below b, rzD.below b, rzU.below b, rzT.below b⟩
theorem TImV.elim_ {sD sU F zD zU zT : List Int} {nsD nsU nF nzD nzU nzT : Nat} {sgn stl zk nx : Int} {ok : Bool} {w : World} {v : Value} {C : Prop} (h : TImV sD sU F zD zU zT nsD nsU nF nzD nzU nzT sgn stl zk nx ok w v) (q : ∀ gsD gsU gF gzD gzU gzT, v = .agg #[.bool ok, .int .u32 sgn, .int .u32 stl, .slice (some ⟨gsD, 0, none⟩) nsD nsD, .slice (some ⟨gsU, 0, none⟩) nsU nsU, .slice (some ⟨gF, 0, none⟩) nF nF, .slice (some ⟨gzD, 0, none⟩) nzD nzD, .slice (some ⟨gzU, 0, none⟩) nzU nzU, .int .i64 zk, .slice (some ⟨gzT, 0, none⟩) nzT nzT, .int .u32 nx] → RowV w gsD 2 (iC sD) → RowV w gsU 2 (iC sU) → RowV w gF 51 (fC F) → RowV w gzD 2 (iC zD) → RowV w gzU 2 (iC zU) → RowV w gzT 92 (iC zT) → C) : C := by
  obtain ⟨gsD, gsU, gF, gzD, gzU, gzT, e, rsD, rsU, rF, rzD, rzU, rzT⟩ := h
  exact q gsD gsU gF gzD gzU gzT e rsD rsU rF rzD rzU rzT
set_option maxRecDepth 100000 in
set_option maxHeartbeats 8000000 in
theorem walk (asD asU aF azD azU azT : Option Addr) (nsD csD nsU csU nF cF nzD czD nzU czU nzT czT : Nat) (sD sU F zD zU zT : List Int) (sgn stl zk nx : Int) (ok : Bool) (w : World) (hsD : sD.length = nsD) (hsU : sU.length = nsU) (hF : F.length = nF * 4) (hzD : zD.length = nzD) (hzU : zU.length = nzU) (hzT : zT.length = nzT * 2) (MsD : nsD ≤ 9223372036854775807) (MsU : nsU ≤ 9223372036854775807) (MF : nF ≤ 9223372036854775807) (MzD : nzD ≤ 9223372036854775807) (MzU : nzU ≤ 9223372036854775807) (MzT : nzT ≤ 9223372036854775807) (AsD : At .i64 w asD sD) (AsU : At .i64 w asU sU) (AF : FAt w aF F) (AzD : At .i64 w azD zD) (AzU : At .i64 w azU zU) (AzT : At .i64 w azT zT) :
    Calls Try.prog 3 #[.agg #[.bool ok, .int .u32 sgn, .int .u32 stl, .slice asD nsD csD, .slice asU nsU csU, .slice aF nF cF, .slice azD nzD czD, .slice azU nzU czU, .int .i64 zk, .slice azT nzT czT, .int .u32 nx]] w fun e w' => e = .returned (.bool true) ∧ Below w.heap.size w w' := by
  have HZ : Hid (∀ left n, szQ left n = if left < n then -1 else left - n) := fun _ _ => rfl
  have HS0 : Hid (OE w 31 #[.bool ok, .int .u32 sgn, .int .u32 stl, .slice asD nsD csD, .slice asU nsU csU, .slice aF nF cF, .slice azD nzD czD, .slice azU nzU czU, .int .i64 zk, .slice azT nzT czT, .int .u32 nx] (w.alloc (.cells #[.bool ok, .int .u32 sgn, .int .u32 stl, .slice asD nsD csD, .slice asU nsU csU, .slice aF nF cF, .slice azD nzD czD, .slice azU nzU czU, .int .i64 zk, .slice azT nzT czT, .int .u32 nx] 31))) := OE.start _ _ _
  have HAsD : Hid (At .i64 w asD sD) := AsD
  have HLsD : Hid (sD.length = nsD) := hsD
  have HAsU : Hid (At .i64 w asU sU) := AsU
  have HLsU : Hid (sU.length = nsU) := hsU
  have HAF : Hid (FAt w aF F) := AF
  have HLF : Hid (F.length = nF * 4) := hF
  have HAzD : Hid (At .i64 w azD zD) := AzD
  have HLzD : Hid (zD.length = nzD) := hzD
  have HAzU : Hid (At .i64 w azU zU) := AzU
  have HLzU : Hid (zU.length = nzU) := hzU
  have HAzT : Hid (At .i64 w azT zT) := AzT
  have HLzT : Hid (zT.length = nzT * 2) := hzT
  clear AsD hsD AsU hsU AF hF AzD hzD AzU hzU AzT hzT
  go_enter Try.func3, Try.ntmps3
  go_wp2_with fail
  refine (szIm_any asD asU aF azD azU azT nsD csD nsU csU nF cF nzD czD nzU czU nzT czT sgn stl zk nx ok 1048576 _ (by decide) (by decide) MsD MsU MF MzD MzU MzT).mono ?_
  rintro e w1 ⟨rfl, hb1⟩
  have HS1 : Hid (OE w 31 #[.bool ok, .int .u32 sgn, .int .u32 stl, .slice asD nsD csD, .slice asU nsU csU, .slice aF nF cF, .slice azD nzD czD, .slice azU nzU czU, .int .i64 zk, .slice azT nzT czT, .int .u32 nx] w1) := HS0.out.call hb1
  clear HS0 hb1
  by_cases hbig : (1048576 : Int) < ((nsD + nsU + nF + nzD + nzU + nzT : Nat) : Int)
  · have hr : szQ 1048576 (nsD + nsU + nF + nzD + nzU + nzT) = -1 := by rw [HZ.out, if_pos hbig]
    rw [hr]
    have HB1 : Hid (Below w.heap.size w w1) := HS1.out.below
    clear HS1 hr hbig
    go_wp2
    go_ret
    exact ⟨rfl, HB1.out⟩
  have hr : szQ 1048576 (nsD + nsU + nF + nzD + nzU + nzT) = 1048576 - ((nsD + nsU + nF + nzD + nzU + nzT : Nat) : Int) := by rw [HZ.out, if_neg hbig]
  have msD : nsD ≤ 1048576 := by omega
  have msU : nsU ≤ 1048576 := by omega
  have mF : nF ≤ 1048576 := by omega
  have mzD : nzD ≤ 1048576 := by omega
  have mzU : nzU ≤ 1048576 := by omega
  have mzT : nzT ≤ 1048576 := by omega
  have hneg : ¬ (szQ 1048576 (nsD + nsU + nF + nzD + nzU + nzT) < 0) := by rw [hr]; omega
  generalize szQ 1048576 (nsD + nsU + nF + nzD + nzU + nzT) = left at *
  clear hr hbig MsD MsU MF MzD MzU MzT HZ
  have x0 : w1.cell? ⟨w.heap.size, 0, none⟩ = some (.bool ok) := by rw [cell_of_row w1 w.heap.size 0 _ _ _ HS1.out.b0]; rfl
  have x1 : w1.cell? ⟨w.heap.size, 1, none⟩ = some (.int .u32 sgn) := by rw [cell_of_row w1 w.heap.size 1 _ _ _ HS1.out.b0]; rfl
  have x2 : w1.cell? ⟨w.heap.size, 2, none⟩ = some (.int .u32 stl) := by rw [cell_of_row w1 w.heap.size 2 _ _ _ HS1.out.b0]; rfl
  have x3 : w1.cell? ⟨w.heap.size, 3, none⟩ = some (.slice asD nsD csD) := by rw [cell_of_row w1 w.heap.size 3 _ _ _ HS1.out.b0]; rfl
  have x4 : w1.cell? ⟨w.heap.size, 4, none⟩ = some (.slice asU nsU csU) := by rw [cell_of_row w1 w.heap.size 4 _ _ _ HS1.out.b0]; rfl
  have x5 : w1.cell? ⟨w.heap.size, 5, none⟩ = some (.slice aF nF cF) := by rw [cell_of_row w1 w.heap.size 5 _ _ _ HS1.out.b0]; rfl
  have x6 : w1.cell? ⟨w.heap.size, 6, none⟩ = some (.slice azD nzD czD) := by rw [cell_of_row w1 w.heap.size 6 _ _ _ HS1.out.b0]; rfl
  have x7 : w1.cell? ⟨w.heap.size, 7, none⟩ = some (.slice azU nzU czU) := by rw [cell_of_row w1 w.heap.size 7 _ _ _ HS1.out.b0]; rfl
  have x8 : w1.cell? ⟨w.heap.size, 8, none⟩ = some (.int .i64 zk) := by rw [cell_of_row w1 w.heap.size 8 _ _ _ HS1.out.b0]; rfl
  have x9 : w1.cell? ⟨w.heap.size, 9, none⟩ = some (.slice azT nzT czT) := by rw [cell_of_row w1 w.heap.size 9 _ _ _ HS1.out.b0]; rfl
  have x10 : w1.cell? ⟨w.heap.size, 10, none⟩ = some (.int .u32 nx) := by rw [cell_of_row w1 w.heap.size 10 _ _ _ HS1.out.b0]; rfl
  go_wp2_with fail
  clear x0 x1 x2 x3 x4 x5 x6 x7 x8 x9 x10
  refine (toIm_any asD asU aF azD azU azT nsD csD nsU csU nF cF nzD czD nzU czU nzT czT sD sU F zD zU zT sgn stl zk nx ok _ HLsD.out HLsU.out HLF.out HLzD.out HLzU.out HLzT.out msD msU mF mzD mzU mzT (HAsD.out.below HS1.out.below) (HAsU.out.below HS1.out.below) (HAF.out.below HS1.out.below) (HAzD.out.below HS1.out.below) (HAzU.out.below HS1.out.below) (HAzT.out.below HS1.out.below)).mono ?_
  rintro e w2 ⟨gsD, gsU, gF, gzD, gzU, gzT, rfl, osD, osU, oF, ozD, ozU, ozT, rsD, rsU, rF, rzD, rzU, rzT, hb2⟩
  have HS2 : Hid (OE w 31 #[.bool ok, .int .u32 sgn, .int .u32 stl, .slice asD nsD csD, .slice asU nsU csU, .slice aF nF cF, .slice azD nzD czD, .slice azU nzU czU, .int .i64 zk, .slice azT nzT czT, .int .u32 nx] w2) := HS1.out.call hb2
  have HC := sct_any (some ⟨gsD, 0, none⟩) (some ⟨gsU, 0, none⟩) (some ⟨gF, 0, none⟩) (some ⟨gzD, 0, none⟩) (some ⟨gzU, 0, none⟩) (some ⟨gzT, 0, none⟩) nsD nsD nsU nsU nF nF nzD nzD nzU nzU nzT nzT sD sU F zD zU zT sgn stl zk nx ok w2 HLF.out mF msU rF.fat
  clear osD osU oF ozD ozU ozT rsD rsU rF rzD rzU rzT hb2 HS1
  go_wp2_with fail
  refine HC.mono ?_
  rintro e w3 ⟨rfl, hb3⟩
  have HS3 : Hid (OE w 31 #[.bool ok, .int .u32 sgn, .int .u32 stl, .slice asD nsD csD, .slice asU nsU csU, .slice aF nF cF, .slice azD nzD czD, .slice azU nzU czU, .int .i64 zk, .slice azT nzT czT, .int .u32 nx] w3) := HS2.out.call hb3
  clear HC HS2 hb3
  generalize hq : cutV ok nsU F nF zk nx = q at *
  have HQ : Hid (cutV ok nsU F nF zk nx = q) := hq
  clear hq
  have x0 : w3.cell? ⟨w.heap.size, 0, none⟩ = some (.bool ok) := by rw [cell_of_row w3 w.heap.size 0 _ _ _ HS3.out.b0]; rfl
  have x1 : w3.cell? ⟨w.heap.size, 1, none⟩ = some (.int .u32 sgn) := by rw [cell_of_row w3 w.heap.size 1 _ _ _ HS3.out.b0]; rfl
  have x2 : w3.cell? ⟨w.heap.size, 2, none⟩ = some (.int .u32 stl) := by rw [cell_of_row w3 w.heap.size 2 _ _ _ HS3.out.b0]; rfl
  have x3 : w3.cell? ⟨w.heap.size, 3, none⟩ = some (.slice asD nsD csD) := by rw [cell_of_row w3 w.heap.size 3 _ _ _ HS3.out.b0]; rfl
  have x4 : w3.cell? ⟨w.heap.size, 4, none⟩ = some (.slice asU nsU csU) := by rw [cell_of_row w3 w.heap.size 4 _ _ _ HS3.out.b0]; rfl
  have x5 : w3.cell? ⟨w.heap.size, 5, none⟩ = some (.slice aF nF cF) := by rw [cell_of_row w3 w.heap.size 5 _ _ _ HS3.out.b0]; rfl
  have x6 : w3.cell? ⟨w.heap.size, 6, none⟩ = some (.slice azD nzD czD) := by rw [cell_of_row w3 w.heap.size 6 _ _ _ HS3.out.b0]; rfl
  have x7 : w3.cell? ⟨w.heap.size, 7, none⟩ = some (.slice azU nzU czU) := by rw [cell_of_row w3 w.heap.size 7 _ _ _ HS3.out.b0]; rfl
  have x8 : w3.cell? ⟨w.heap.size, 8, none⟩ = some (.int .i64 zk) := by rw [cell_of_row w3 w.heap.size 8 _ _ _ HS3.out.b0]; rfl
  have x9 : w3.cell? ⟨w.heap.size, 9, none⟩ = some (.slice azT nzT czT) := by rw [cell_of_row w3 w.heap.size 9 _ _ _ HS3.out.b0]; rfl
  have x10 : w3.cell? ⟨w.heap.size, 10, none⟩ = some (.int .u32 nx) := by rw [cell_of_row w3 w.heap.size 10 _ _ _ HS3.out.b0]; rfl
  go_wp2_with fail
  clear x0 x1 x2 x3 x4 x5 x6 x7 x8 x9 x10
  refine (toIm_any asD asU aF azD azU azT nsD csD nsU csU nF cF nzD czD nzU czU nzT czT sD sU F zD zU zT sgn stl zk nx ok _ HLsD.out HLsU.out HLF.out HLzD.out HLzU.out HLzT.out msD msU mF mzD mzU mzT (HAsD.out.below HS3.out.below) (HAsU.out.below HS3.out.below) (HAF.out.below HS3.out.below) (HAzD.out.below HS3.out.below) (HAzU.out.below HS3.out.below) (HAzT.out.below HS3.out.below)).mono ?_
  rintro e w4 ⟨gsD, gsU, gF, gzD, gzU, gzT, rfl, osD, osU, oF, ozD, ozU, ozT, rsD, rsU, rF, rzD, rzU, rzT, hb4⟩
  have b5 : Below w4.heap.size w4 (w4.alloc (.cells #[.bool ok, .int .u32 sgn, .int .u32 stl, .slice (some ⟨gsD, 0, none⟩) nsD nsD, .slice (some ⟨gsU, 0, none⟩) nsU nsU, .slice (some ⟨gF, 0, none⟩) nF nF, .slice (some ⟨gzD, 0, none⟩) nzD nzD, .slice (some ⟨gzU, 0, none⟩) nzU nzU, .int .i64 zk, .slice (some ⟨gzT, 0, none⟩) nzT nzT, .int .u32 nx] 40)) := (Below.refl _ _).alloc (Nat.le_refl _) _
  have HS5 : Hid (OE w 31 #[.bool ok, .int .u32 sgn, .int .u32 stl, .slice asD nsD csD, .slice asU nsU csU, .slice aF nF cF, .slice azD nzD czD, .slice azU nzU czU, .int .i64 zk, .slice azT nzT czT, .int .u32 nx] (w4.alloc (.cells #[.bool ok, .int .u32 sgn, .int .u32 stl, .slice (some ⟨gsD, 0, none⟩) nsD nsD, .slice (some ⟨gsU, 0, none⟩) nsU nsU, .slice (some ⟨gF, 0, none⟩) nF nF, .slice (some ⟨gzD, 0, none⟩) nzD nzD, .slice (some ⟨gzU, 0, none⟩) nzU nzU, .int .i64 zk, .slice (some ⟨gzT, 0, none⟩) nzT nzT, .int .u32 nx] 40))) := (HS3.out.call hb4).call b5
  have HX5 : Hid ((w4.alloc (.cells #[.bool ok, .int .u32 sgn, .int .u32 stl, .slice (some ⟨gsD, 0, none⟩) nsD nsD, .slice (some ⟨gsU, 0, none⟩) nsU nsU, .slice (some ⟨gF, 0, none⟩) nF nF, .slice (some ⟨gzD, 0, none⟩) nzD nzD, .slice (some ⟨gzU, 0, none⟩) nzU nzU, .int .i64 zk, .slice (some ⟨gzT, 0, none⟩) nzT nzT, .int .u32 nx] 40)).heap[w4.heap.size]? = some (.cells #[.bool ok, .int .u32 sgn, .int .u32 stl, .slice (some ⟨gsD, 0, none⟩) nsD nsD, .slice (some ⟨gsU, 0, none⟩) nsU nsU, .slice (some ⟨gF, 0, none⟩) nF nF, .slice (some ⟨gzD, 0, none⟩) nzD nzD, .slice (some ⟨gzU, 0, none⟩) nzU nzU, .int .i64 zk, .slice (some ⟨gzT, 0, none⟩) nzT nzT, .int .u32 nx] 40 (0, 0))) := heap_alloc_new w4 _
  have HPsD : Hid (RowV (w4.alloc (.cells #[.bool ok, .int .u32 sgn, .int .u32 stl, .slice (some ⟨gsD, 0, none⟩) nsD nsD, .slice (some ⟨gsU, 0, none⟩) nsU nsU, .slice (some ⟨gF, 0, none⟩) nF nF, .slice (some ⟨gzD, 0, none⟩) nzD nzD, .slice (some ⟨gzU, 0, none⟩) nzU nzU, .int .i64 zk, .slice (some ⟨gzT, 0, none⟩) nzT nzT, .int .u32 nx] 40)) gsD 2 (iC sD)) := rsD.below b5
  have HPsU : Hid (RowV (w4.alloc (.cells #[.bool ok, .int .u32 sgn, .int .u32 stl, .slice (some ⟨gsD, 0, none⟩) nsD nsD, .slice (some ⟨gsU, 0, none⟩) nsU nsU, .slice (some ⟨gF, 0, none⟩) nF nF, .slice (some ⟨gzD, 0, none⟩) nzD nzD, .slice (some ⟨gzU, 0, none⟩) nzU nzU, .int .i64 zk, .slice (some ⟨gzT, 0, none⟩) nzT nzT, .int .u32 nx] 40)) gsU 2 (iC sU)) := rsU.below b5
  have HPF : Hid (RowV (w4.alloc (.cells #[.bool ok, .int .u32 sgn, .int .u32 stl, .slice (some ⟨gsD, 0, none⟩) nsD nsD, .slice (some ⟨gsU, 0, none⟩) nsU nsU, .slice (some ⟨gF, 0, none⟩) nF nF, .slice (some ⟨gzD, 0, none⟩) nzD nzD, .slice (some ⟨gzU, 0, none⟩) nzU nzU, .int .i64 zk, .slice (some ⟨gzT, 0, none⟩) nzT nzT, .int .u32 nx] 40)) gF 51 (fC F)) := rF.below b5
  have HPzD : Hid (RowV (w4.alloc (.cells #[.bool ok, .int .u32 sgn, .int .u32 stl, .slice (some ⟨gsD, 0, none⟩) nsD nsD, .slice (some ⟨gsU, 0, none⟩) nsU nsU, .slice (some ⟨gF, 0, none⟩) nF nF, .slice (some ⟨gzD, 0, none⟩) nzD nzD, .slice (some ⟨gzU, 0, none⟩) nzU nzU, .int .i64 zk, .slice (some ⟨gzT, 0, none⟩) nzT nzT, .int .u32 nx] 40)) gzD 2 (iC zD)) := rzD.below b5
  have HPzU : Hid (RowV (w4.alloc (.cells #[.bool ok, .int .u32 sgn, .int .u32 stl, .slice (some ⟨gsD, 0, none⟩) nsD nsD, .slice (some ⟨gsU, 0, none⟩) nsU nsU, .slice (some ⟨gF, 0, none⟩) nF nF, .slice (some ⟨gzD, 0, none⟩) nzD nzD, .slice (some ⟨gzU, 0, none⟩) nzU nzU, .int .i64 zk, .slice (some ⟨gzT, 0, none⟩) nzT nzT, .int .u32 nx] 40)) gzU 2 (iC zU)) := rzU.below b5
  have HPzT : Hid (RowV (w4.alloc (.cells #[.bool ok, .int .u32 sgn, .int .u32 stl, .slice (some ⟨gsD, 0, none⟩) nsD nsD, .slice (some ⟨gsU, 0, none⟩) nsU nsU, .slice (some ⟨gF, 0, none⟩) nF nF, .slice (some ⟨gzD, 0, none⟩) nzD nzD, .slice (some ⟨gzU, 0, none⟩) nzU nzU, .int .i64 zk, .slice (some ⟨gzT, 0, none⟩) nzT nzT, .int .u32 nx] 40)) gzT 92 (iC zT)) := rzT.below b5
  have HC := ict_any (some ⟨gsD, 0, none⟩) (some ⟨gsU, 0, none⟩) (some ⟨gF, 0, none⟩) (some ⟨gzD, 0, none⟩) (some ⟨gzU, 0, none⟩) (some ⟨gzT, 0, none⟩) nsD nsD nsU nsU nF nF nzD nzD nzU nzU nzT nzT sD sU F zD zU zT sgn stl zk nx ok (w4.alloc (.cells #[.bool ok, .int .u32 sgn, .int .u32 stl, .slice (some ⟨gsD, 0, none⟩) nsD nsD, .slice (some ⟨gsU, 0, none⟩) nsU nsU, .slice (some ⟨gF, 0, none⟩) nF nF, .slice (some ⟨gzD, 0, none⟩) nzD nzD, .slice (some ⟨gzU, 0, none⟩) nzU nzU, .int .i64 zk, .slice (some ⟨gzT, 0, none⟩) nzT nzT, .int .u32 nx] 40)) HLF.out mF msU HPF.out.fat
  rw [HQ.out] at HC
  clear osD osU oF ozD ozU ozT rsD rsU rF rzD rzU rzT hb4 HS3 b5
  go_wp2_with fail
  generalize (w4.alloc (.cells #[.bool ok, .int .u32 sgn, .int .u32 stl, .slice (some ⟨gsD, 0, none⟩) nsD nsD, .slice (some ⟨gsU, 0, none⟩) nsU nsU, .slice (some ⟨gF, 0, none⟩) nF nF, .slice (some ⟨gzD, 0, none⟩) nzD nzD, .slice (some ⟨gzU, 0, none⟩) nzU nzU, .int .i64 zk, .slice (some ⟨gzT, 0, none⟩) nzT nzT, .int .u32 nx] 40)) = w5 at *
  generalize w4.heap.size = X at *
  refine HC.mono ?_
  rintro e w6 ⟨rfl, hb6⟩
  have HS6 : Hid (OE w 31 #[.bool ok, .int .u32 sgn, .int .u32 stl, .slice asD nsD csD, .slice asU nsU csU, .slice aF nF cF, .slice azD nzD czD, .slice azU nzU czU, .int .i64 zk, .slice azT nzT czT, .int .u32 nx] w6) := HS5.out.call hb6
  have hX5 : X < w5.heap.size := (Array.getElem?_eq_some_iff.1 HX5.out).1
  have HX6 : Hid (w6.heap[X]? = some (.cells #[.bool ok, .int .u32 sgn, .int .u32 stl, .slice (some ⟨gsD, 0, none⟩) nsD nsD, .slice (some ⟨gsU, 0, none⟩) nsU nsU, .slice (some ⟨gF, 0, none⟩) nF nF, .slice (some ⟨gzD, 0, none⟩) nzD nzD, .slice (some ⟨gzU, 0, none⟩) nzU nzU, .int .i64 zk, .slice (some ⟨gzT, 0, none⟩) nzT nzT, .int .u32 nx] 40 (0, 0))) := by show _ = _; rw [hb6.block _ hX5]; exact HX5.out
  have HRsD : Hid (RowV w6 gsD 2 (iC sD)) := HPsD.out.below hb6
  have HRsU : Hid (RowV w6 gsU 2 (iC sU)) := HPsU.out.below hb6
  have HRF : Hid (RowV w6 gF 51 (fC F)) := HPF.out.below hb6
  have HRzD : Hid (RowV w6 gzD 2 (iC zD)) := HPzD.out.below hb6
  have HRzU : Hid (RowV w6 gzU 2 (iC zU)) := HPzU.out.below hb6
  have HRzT : Hid (RowV w6 gzT 92 (iC zT)) := HPzT.out.below hb6
  have hX6 : X < w6.heap.size := by have := hb6.size; omega
  have tv : (q != q) = false := by simp
  have HSZ : Hid ((Try.prog.info? 40).map (·.size) = some 11) := by show _ = _; kernel_rfl
  have HSL : Hid ((Try.prog.info? 31).map (·.size) = some 11) := by show _ = _; kernel_rfl
  clear HC HS5 HX5 hb6 hX5 HPsD HPsU HPF HPzD HPzU HPzT
  go_wp2_with fail
  refine wp_region_any (by kernel_rfl) ?_
  refine wpAny_slotsU (fun _ a b => Below a.heap.size a b) (frame := (fun (c0 c1 c2 c3 c4 c5 c6 c7 c8 c9 c10 c11 c12 c13 c14 c15 c16 c17 c18 c19 c20 c21 : Value) => fun (t : Nat → Value) => ({ tmps := List.toArray (c0 :: c1 :: c2 :: c3 :: c4 :: c5 :: c6 :: c7 :: c8 :: c9 :: c10 :: c11 :: c12 :: c13 :: c14 :: c15 :: c16 :: c17 :: c18 :: c19 :: c20 :: c21 :: t 0 :: t 1 :: t 2 :: t 3 :: t 4 :: []), defers := [] } : Act)) _ _ _ _ _ _ _ _ _ _ _ _ _ _ _ _ _ _ _ _ _ _)
    (Ext := fun L u w' => ApX w6 [] L u w') (Good := fun i L w' v => if i = 0 then v = .agg #[.bool ok, .int .u32 sgn, .int .u32 stl, .slice (some ⟨gsD, 0, none⟩) nsD nsD, .slice (some ⟨gsU, 0, none⟩) nsU nsU, .slice (some ⟨gF, 0, none⟩) nF nF, .slice (some ⟨gzD, 0, none⟩) nzD nzD, .slice (some ⟨gzU, 0, none⟩) nzU nzU, .int .i64 zk, .slice (some ⟨gzT, 0, none⟩) nzT nzT, .int .u32 nx] else if i = 1 then v = .agg #[.bool ok, .int .u32 sgn, .int .u32 stl, .slice asD nsD csD, .slice asU nsU csU, .slice aF nF cF, .slice azD nzD czD, .slice azU nzU czU, .int .i64 zk, .slice azT nzT czT, .int .u32 nx] else if i = 2 then TImV sD sU F zD zU zT nsD nsU nF nzD nzU nzT sgn stl zk nx ok w' v else if i = 3 then v = .bool true else if i = 4 then v = .bool false else True) ?hstab (by kernel_rfl) ?hop ?hdone _ _ ((fun (x0 x1 x2 x3 x4 : Value) => fun (i : Nat) => if i = 0 then x0 else if i = 1 then x1 else if i = 2 then x2 else if i = 3 then x3 else if i = 4 then x4 else undef) _ _ _ _ _) _ (by simp) ?ext ?start (by simp)
  case start => intro i hi h; exact absurd h (by rw [Array.getD_eq_getD_getElem?, Array.getElem?_replicate]; split <;> simp)
  case ext => exact (ApX.start w6 [] _ _ (fun i => by rw [Array.getD_eq_getD_getElem?, Array.getElem?_replicate]; split <;> rfl)).drew
  case hstab =>
    intro j L w9 w' i v hM _ _ h
    by_cases h2 : j = 2
    · subst h2
      simp at h ⊢
      exact h.below hM
    simp only [if_neg h2] at h ⊢
    exact h
  case hop =>
    intro i o L t w' ho hLi hx hdep K hK
    have hi : i < 5 := (Array.getElem?_eq_some_iff.1 ho).1
    obtain rfl | rfl | rfl | rfl | rfl : i = 0 ∨ i = 1 ∨ i = 2 ∨ i = 3 ∨ i = 4 := by omega
    all_goals (simp at ho; subst ho)
    · clear hdep
      have hr : w'.heap[X]? = some (.cells #[.bool ok, .int .u32 sgn, .int .u32 stl, .slice (some ⟨gsD, 0, none⟩) nsD nsD, .slice (some ⟨gsU, 0, none⟩) nsU nsU, .slice (some ⟨gF, 0, none⟩) nF nF, .slice (some ⟨gzD, 0, none⟩) nzD nzD, .slice (some ⟨gzU, 0, none⟩) nzU nzU, .int .i64 zk, .slice (some ⟨gzT, 0, none⟩) nzT nzT, .int .u32 nx] 40 (0, 0)) := by rw [hx.below.block _ hX6]; exact HX6.out
      have hK' := hK w' (.agg #[.bool ok, .int .u32 sgn, .int .u32 stl, .slice (some ⟨gsD, 0, none⟩) nsD nsD, .slice (some ⟨gsU, 0, none⟩) nsU nsU, .slice (some ⟨gF, 0, none⟩) nF nF, .slice (some ⟨gzD, 0, none⟩) nzD nzD, .slice (some ⟨gzU, 0, none⟩) nzU nzU, .int .i64 zk, .slice (some ⟨gzT, 0, none⟩) nzT nzT, .int .u32 nx]) (by simp) (hx.step 0 _ (Below.refl _ _) (fun h => absurd h (by decide))) (Below.refl _ _)
      clear hK
      rw [if_pos (by rfl)]
      refine wp_load_row 40 (.tmp 5) rfl X rfl 40 _ (0, 0) _ hr Try.underlying40 rfl HSZ.out ?_
      go_simp
      simpa [upd] using hK'
    · clear hdep
      have hr : w'.heap[w.heap.size]? = some (.cells #[.bool ok, .int .u32 sgn, .int .u32 stl, .slice asD nsD csD, .slice asU nsU csU, .slice aF nF cF, .slice azD nzD czD, .slice azU nzU czU, .int .i64 zk, .slice azT nzT czT, .int .u32 nx] 31 (0, 0)) := by rw [hx.below.block _ HS6.out.lt]; exact HS6.out.b0
      have hK' := hK w' (.agg #[.bool ok, .int .u32 sgn, .int .u32 stl, .slice asD nsD csD, .slice asU nsU csU, .slice aF nF cF, .slice azD nzD czD, .slice azU nzU czU, .int .i64 zk, .slice azT nzT czT, .int .u32 nx]) (by simp) (hx.step 1 _ (Below.refl _ _) (fun h => absurd h (by decide))) (Below.refl _ _)
      clear hK
      rw [if_pos (by rfl)]
      refine wp_load_row 31 (.tmp 1) rfl w.heap.size rfl 31 _ (0, 0) _ hr Try.underlying31 rfl HSL.out ?_
      go_simp
      simpa [upd] using hK'
    · have d1 : t 1 = .agg #[.bool ok, .int .u32 sgn, .int .u32 stl, .slice asD nsD csD, .slice asU nsU csU, .slice aF nF cF, .slice azD nzD czD, .slice azU nzU czU, .int .i64 zk, .slice azT nzT czT, .int .u32 nx] := by simpa using hdep ⟨1, .data⟩ (by simp) rfl
      clear hdep
      have bw : Below w.heap.size w w' := HS6.out.below.trans (hx.below.mono HS6.out.below.size)
      have A := toIm_any asD asU aF azD azU azT nsD csD nsU csU nF cF nzD czD nzU czU nzT czT sD sU F zD zU zT sgn stl zk nx ok w' HLsD.out HLsU.out HLF.out HLzD.out HLzU.out HLzT.out msD msU mF mzD mzU mzT (HAsD.out.below bw) (HAsU.out.below bw) (HAF.out.below bw) (HAzD.out.below bw) (HAzU.out.below bw) (HAzT.out.below bw)
      have hK' : ∀ ww v, TImV sD sU F zD zU zT nsD nsU nF nzD nzU nzT sgn stl zk nx ok ww v → Below w'.heap.size w' ww → K _ ww := fun ww v hv hb => hK ww v (by simpa using hv) (hx.step 2 v hb (fun h => absurd h (by decide))) hb
      clear hK
      rw [if_pos (by rfl)]
      go_simp
      try simp only [d1]
      refine A.mono ?_
      rintro e w9 ⟨hsD, hsU, hF, hzD, hzU, hzT, rfl, _, _, _, _, _, _, rsD, rsU, rF, rzD, rzU, rzT, hb9⟩
      have hK2 := hK' w9 _ ⟨hsD, hsU, hF, hzD, hzU, hzT, rfl, rsD, rsU, rF, rzD, rzU, rzT⟩  hb9
      clear hK' A rsD rsU rF rzD rzU rzT bw hb9
      go_simp
      simpa [upd, d1] using hK2
    · have d0 : t 0 = .agg #[.bool ok, .int .u32 sgn, .int .u32 stl, .slice (some ⟨gsD, 0, none⟩) nsD nsD, .slice (some ⟨gsU, 0, none⟩) nsU nsU, .slice (some ⟨gF, 0, none⟩) nF nF, .slice (some ⟨gzD, 0, none⟩) nzD nzD, .slice (some ⟨gzU, 0, none⟩) nzU nzU, .int .i64 zk, .slice (some ⟨gzT, 0, none⟩) nzT nzT, .int .u32 nx] := by simpa using hdep ⟨0, .data⟩ (by simp) rfl
      have f2 : TImV sD sU F zD zU zT nsD nsU nF nzD nzU nzT sgn stl zk nx ok w' (t 2) := by simpa using hdep ⟨2, .data⟩ (by simp) rfl
      clear hdep
      refine f2.elim_ fun hsD hsU hF hzD hzU hzT d2 rsD rsU rF rzD rzU rzT => ?_
      have A := eqIm_any (some ⟨gsD, 0, none⟩) (some ⟨hsD, 0, none⟩) (some ⟨gsU, 0, none⟩) (some ⟨hsU, 0, none⟩) (some ⟨gF, 0, none⟩) (some ⟨hF, 0, none⟩) (some ⟨gzD, 0, none⟩) (some ⟨hzD, 0, none⟩) (some ⟨gzU, 0, none⟩) (some ⟨hzU, 0, none⟩) (some ⟨gzT, 0, none⟩) (some ⟨hzT, 0, none⟩) nsD nsD nsD nsU nsU nsU nF nF nF nzD nzD nzD nzU nzU nzU nzT nzT nzT sD sU F zD zU zT sgn stl zk nx ok w' HLsD.out HLsU.out HLF.out HLzD.out HLzU.out HLzT.out msD msU mF mzD mzU mzT (HRsD.out.i64.below hx.below) rsD.i64 (HRsU.out.i64.below hx.below) rsU.i64 (HRF.out.fat.below hx.below) rF.fat (HRzD.out.i64.below hx.below) rzD.i64 (HRzU.out.i64.below hx.below) rzU.i64 (HRzT.out.i64.below hx.below) rzT.i64
      have hK' : ∀ ww, Below w'.heap.size w' ww → K _ ww := fun ww hb => hK ww (.bool true) (by simp) (hx.step 3 _ hb (fun h => absurd h (by decide))) hb
      clear hK rsD rsU rF rzD rzU rzT
      rw [if_pos (by rfl)]
      go_simp
      try simp only [d0, d2]
      refine A.mono ?_
      rintro e w9 ⟨rfl, hb⟩
      have hK2 := hK' w9 hb
      clear hK' A hb
      go_simp
      simpa [upd, d0, d2] using hK2
    · have d3 : t 3 = .bool true := by simpa using hdep ⟨3, .data⟩ (by simp) rfl
      clear hdep
      have hK' := hK w' (.bool false) (by simp) (hx.step 4 _ (Below.refl _ _) (fun h => absurd h (by decide))) (Below.refl _ _)
      clear hK
      rw [if_pos (by rfl)]
      go_simp
      simpa [upd, d3] using hK'
  case hdone =>
    intro L t w' hx hg
    have d4 : t 4 = .bool false := by simpa using hg 4 (by decide)
    clear hg
    have HB : Hid (Below w.heap.size w w') := HS6.out.below.trans (hx.below.mono HS6.out.below.size)
    simp only [d4]
    clear hx d4
    go_wp2
    go_ret
    exact ⟨rfl, HB.out⟩

set_option maxRecDepth 100000 in
theorem lifted (os : Os) (started : os.Started) (H : Type) (enc : TypeId × Value → H) :
    ReturnsInHanded {} Try.checked os 3 .any (Rows.fnExactCutPointSpec.pre6 enc Try.prog Try.f3 Rows.fnExactCutPointRow.domain false) (Rows.fnExactCutPointSpec.post enc Try.prog Try.f3 false true false false) := by
  refine returnsInHanded_of_change (C := Try.checked) ownA started (by kernel_rfl) Try.func3
    (ChangeSpec.witness6 (enc := enc) (C := Try.checked) false ⟨#[], #[.agg #[.bool false, .int .u32 0, .int .u32 0, .slice none 0 0, .slice none 0 0, .slice none 0 0, .slice none 0 0, .slice none 0 0, .int .i64 0, .slice none 0 0, .int .u32 0]], []⟩ 8 (by kernel_rfl) (by kernel_rfl) (by kernel_rfl) (by kernel_rfl)) ?_
  intro W base args ds gs before hval0 hW hcnd _
  have hval : ∀ (j : Nat) t v, Try.f3.params[j]? = some t → args[j]? = some v → Value.okWide Try.prog W .any base t v := hval0
  have hW' := hW
  obtain ⟨p, q, hA0, hV, rfl, hfz, hnd⟩ := hW
  have hA : DataW.TrodAll enc Try.prog W 0 (fun _ => true) true Try.f3.params.toList args.toList ds p := hA0
  rw [Try.params3] at hA hval
  obtain ⟨v0, vs0, d0, ds0, p0, q0, hargs, rfl, rfl, h0, r0⟩ := trodAll_cons hA
  obtain ⟨rfl, rfl, rfl⟩ := trodAll_nil r0
  obtain rfl : args = #[v0] := by cases args; simp_all
  obtain ⟨rfl, rfl⟩ := trodVars_none hV
  have k0 := h0
  have lt0 : ∀ x ∈ p0, x.block < W.heap.size := by obtain ⟨m, hm⟩ := k0; exact DataW.trod_lt m _ _ _ hm
  obtain ⟨u0, u1, u2, u3, u4, u5, u6, u7, u8, u9, u10, rfl, asD, nsD, csD, sD, asU, nsU, csU, sU, aF, nF, cF, F, azD, nzD, czD, zD, azU, nzU, czU, zU, azT, nzT, czT, zT, sgn, stl, zk, nx, ok, rfl, rfl, rfl, rfl, rfl, rfl, rfl, rfl, rfl, rfl, rfl, hsD, hsU, hF, hzD, hzU, hzT, MsD, MsU, MF, MzD, MzU, MzT, AsD, AsU, AF, AzD, AzU, AzT, Wsgn, Wstl, Wzk, Wnx⟩ := image_of (hval 0 31 v0 rfl rfl) h0
  clear hA0 hval0
  refine (walk asD asU aF azD azU azT nsD csD nsU csU nF cF nzD czD nzU czU nzT czT sD sU F zD zU zT sgn stl zk nx ok W hsD hsU hF hzD hzU hzT MsD MsU MF MzD MzU MzT AsD AsU AF AzD AzU AzT).mono fun e W' ⟨he, bel⟩ => ?_
  subst he
  exact ⟨_, rfl, _, _, _, [], _, [], hW', trodAll_mk1 (shut_bool Try.underlying4 _), (trodAll_cons_mk (Below.trod laidOutA (by kernel_rfl) (of_decide_eq_true (by kernel_rfl)) k0 bel lt0) trodAll_mk0), rfl, bel.frame _, fun h => by cases h⟩

theorem over : Rows.fnExactCutPointRow.holds Try.pinned (OpenSpec.ofChange Rows.fnExactCutPointSpec) :=
  OpenClaim.holds_of_wide 3 Try.f3 rfl rfl rfl rfl rfl rfl rfl ⟨rfl, rfl, rfl, rfl, rfl⟩ rfl rfl rfl rfl rfl (by kernel_rfl) Try.func3 (by kernel_rfl)
    (of_decide_eq_true (by kernel_rfl)) (by unfold Func.isWrapper; first | (rw [if_pos (by decide +kernel)]; kernel_rfl) | (rw [if_neg (by decide +kernel)]; exact ⟨rfl, rfl⟩))
    (fun os started H enc _ => lifted os started H enc)
end Go.Proofs.Ythghkfncpdnpoad.fnExactCutPoint
namespace Go.Proofs.Ythghkfncpdnpoad
theorem cutPoint_holds : Rows.FnExactCutPointSaid := fnExactCutPoint.over
#print axioms cutPoint_holds
end Go.Proofs.Ythghkfncpdnpoad
