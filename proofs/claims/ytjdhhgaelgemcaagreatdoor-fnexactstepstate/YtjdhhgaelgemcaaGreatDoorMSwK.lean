import Derived.Test.YtjdhhgaelgemcaaGreatDoorMEqSt
import Derived.Test.YtjdhhgaelgemcaaGreatDoorMApx
import Derived.Test.YtjdhhgaelgemcaaGreatDoorMSvF
import Derived.Test.YtjdhhgaelgemcaaGreatDoorMStA
import Derived.LaidEql
import Derived.Stop.Asserts
import Derived.RowKitTokens
namespace Go.Proofs.YtjdhhgaelgemcaaGreatDoor
open Go.ChangeShapes Go.WideShapes Go.ChangeAt Go.RowKit
set_option linter.unusedVariables false
theorem TapO.keep {B:Nat} {w w':World} {v:Value} {T:List Int} {n:Nat} (h:TapO B w v T n) (hb:∀ k,B≤k→k<w.heap.size→w'.heap[k]?=w.heap[k]?):TapO B w' v T n:=by
 refine⟨h.1,?_⟩;rcases h.2 with h'|⟨g,c,cur,h1,h2,h3,h4⟩
 ·exact .inl h'
 ·exact .inr ⟨g,c,cur,h1,h2,by rw[hb g h2 (Array.getElem?_eq_some_iff.1 h3).1];exact h3,h4⟩
theorem TapO.below {B:Nat} {w w':World} {v:Value} {T:List Int} {n:Nat} (h:TapO B w v T n) (b:Below w.heap.size w w'):TapO B w' v T n:=h.keep (fun k _ hk=>b.block k hk)
theorem TapO.wrk {B R:Nat} {w w':World} {v:Value} {T:List Int} {n:Nat} (h:TapO B w v T n) (hw:Wr R w w') (hR:R<B):TapO B w' v T n:=h.keep (fun k hk _=>hw.block k (by omega))
theorem TapO.wr {B R:Nat} {w w':World} {v:Value} {T:List Int} {n:Nat} (h:TapO B w v T n) (hw:Wr R w w') (hR:R<B):TapO B w' v T n:=h.wrk hw hR
def CpFin (lo:Nat) (k:Int) (D U T:List Int) (nT:Nat) (w:World) (cs:Array Value):Prop:=
 ∃ aD nD cD aU nU cU aT cT,cs=#[.slice aD nD cD,.slice aU nU cU,.int .i64 k,.slice aT nT cT]∧IO lo w (.slice aD nD cD) D∧IO lo w (.slice aU nU cU) U∧TapO lo w (.slice aT nT cT) T nT
section
variable {lo lo' R:Nat} {k:Int} {D U T:List Int} {nT:Nat} {w w':World} {cs:Array Value} {v:Value}
theorem CpFin.below (h:CpFin lo k D U T nT w cs) (b:Below w.heap.size w w'):CpFin lo k D U T nT w' cs:=by
 obtain⟨aD,nD,cD,aU,nU,cU,aT,cT,e,h1,h2,h3⟩:=h;exact⟨aD,nD,cD,aU,nU,cU,aT,cT,e,h1.below b,h2.below b,h3.below b⟩
theorem CpFin.mono (h:CpFin lo k D U T nT w cs) (hl:lo'≤lo):CpFin lo' k D U T nT w cs:=by
 obtain⟨aD,nD,cD,aU,nU,cU,aT,cT,e,h1,h2,h3⟩:=h;exact⟨aD,nD,cD,aU,nU,cU,aT,cT,e,h1.mono hl,h2.mono hl,TapO.mono h3 hl⟩
def CpBd (lo:Nat) (k:Int) (D U T:List Int) (nT:Nat) (w:World) (v:Value):Prop:=∃ cs,v=.agg cs∧CpFin lo k D U T nT w cs
theorem CpBd.below (h:CpBd lo k D U T nT w v) (b:Below w.heap.size w w'):CpBd lo k D U T nT w' v:=by obtain⟨cs,e,h⟩:=h;exact⟨cs,e,h.below b⟩
theorem CpBd.wr (h:CpBd lo k D U T nT w v) (hw:Wr R w w') (hR:R<lo):CpBd lo k D U T nT w' v:=by
 obtain⟨cs,e,aD,nD,cD,aU,nU,cU,aT,cT,e2,h1,h2,h3⟩:=h;exact⟨cs,e,aD,nD,cD,aU,nU,cU,aT,cT,e2,h1.wr hw hR,h2.wr hw hR,h3.wr hw hR⟩
end
structure WBF (w wb:World) (sc:Array Value):Prop where
 p1:w.heap.size<wb.heap.size
 p2:wb.heap[w.heap.size]?=some (.cells sc 33 (0,0))
 p3:w.heap.size≤wb.heap.size
 p4:wb.heap.size≤w.heap.size+1
set_option maxRecDepth 100000 in
set_option maxHeartbeats 4000000 in
theorem l5c_any (aD aU aT:Option Addr) (nD cD nU cU nT cT:Nat) (D U:List Int) (k:Int) (T:List Int) (w:World) (hD:D.length=nD) (hU:U.length=nU) (hT:T.length=nT*2) (mD:nD≤1048576) (mU:nU≤1048576) (mT:nT≤1048576)
  (haD:At .i64 w aD D) (haU:At .i64 w aU U) (haT:At .i64 w aT T) :
  Calls Tryz.prog 24 #[.agg #[.slice aD nD cD,.slice aU nU cU,.int .i64 k,.slice aT nT cT]] w fun e w'=>∃ cs,e=.returned (.agg cs)∧CpFin w.heap.size k D U T nT w' cs∧Below w.heap.size w w':=by
 obtain⟨wb,hwb⟩:∃ wb,wb=w.alloc (.cells #[.slice aD nD cD,.slice aU nU cU,.int .i64 k,.slice aT nT cT] 33):=⟨_,rfl⟩
 have HWB:Hid (WBF w wb #[.slice aD nD cD,.slice aU nU cU,.int .i64 k,.slice aT nT cT]):=⟨by rw[hwb];simp,by rw[hwb];exact heap_alloc_new w _,by rw[hwb];simp,by rw[hwb];simp⟩
 have HBW:Hid (Below w.heap.size w wb):=by show Below _ _ _;rw[hwb];exact(Below.refl _ _).alloc (Nat.le_refl _) _
 have HAD:Hid (At .i64 w aD D):=haD;have HAU:Hid (At .i64 w aU U):=haU;have HAT:Hid (At .i64 w aT T):=haT;have HLN:Hid (D.length=nD∧U.length=nU∧T.length=nT*2):=⟨hD,hU,hT⟩
 have HSZ:Hid ((Tryz.prog.info? 33).map (·.size)=some 4):=by show _=_;kernel_rfl
 have HW0:Hid (Below wb.heap.size wb ((w.alloc (.cells #[.slice aD nD cD,.slice aU nU cU,.int .i64 k,.slice aT nT cT] 33)).alloc (.cells #[.slice none 0 0,.slice none 0 0,.int .i64 0,.slice none 0 0] 33)).drew):=by
  have h1:Below wb.heap.size wb (wb.alloc (.cells #[.slice none 0 0,.slice none 0 0,.int .i64 0,.slice none 0 0] 33)):=(Below.refl _ _).alloc (Nat.le_refl _) _;rw[hwb] at h1 ⊢;exact⟨h1.os,h1.tape,h1.output,h1.size,h1.block⟩
 have HR0:Hid (((w.alloc (.cells #[.slice aD nD cD,.slice aU nU cU,.int .i64 k,.slice aT nT cT] 33)).alloc (.cells #[.slice none 0 0,.slice none 0 0,.int .i64 0,.slice none 0 0] 33)).drew.heap[w.heap.size+1]?=some (.cells #[.slice none 0 0,.slice none 0 0,.int .i64 0,.slice none 0 0] 33 (0,0))):=by
  have:=heap_alloc_new (w.alloc (.cells #[.slice aD nD cD,.slice aU nU cU,.int .i64 k,.slice aT nT cT] 33)) (.cells #[.slice none 0 0,.slice none 0 0,.int .i64 0,.slice none 0 0] 33)
  rwa [show(w.alloc (.cells #[.slice aD nD cD,.slice aU nU cU,.int .i64 k,.slice aT nT cT] 33)).heap.size=w.heap.size+1 by simp] at this
 clear haD haU haT hD hU hT hwb;go_enter Tryz.func24,Tryz.ntmps24;go_wp2_with fail;refine wp_region_any (by kernel_rfl) ?_;refine wpAny_slotsU (fun i a b=>if i=15 then Wr (w.heap.size+1) a b else Below a.heap.size a b) (frame:=(fun (a b c:Value)=>fun (t:Nat→Value)=>({ tmps:=List.toArray [a,b,c,t 0,t 1,t 2,t 3,t 4,t 5,t 6,t 7,t 8,t 9,t 10,t 11,t 12,t 13,t 14],defers:=[] }:Act)) _ _ _)
  (Ext:=fun L u w'=>ApS wb (w.heap.size+1) 15 33 #[.slice none 0 0,.slice none 0 0,.int .i64 0,.slice none 0 0] (CpFin (w.heap.size+2) k D U T nT) [] L u w') (Good:=fun i L w' v=>if i=0 then EmS (w.heap.size+2) 2 w' v else if i=1 then v=.pointer (some ⟨w.heap.size,0,none⟩) else if i=2 then v=.slice aD nD cD else if i=3 then IO (w.heap.size+2) w' v D else if i=4 then EmS (w.heap.size+2) 2 w' v else if i=5 then v=.pointer (some ⟨w.heap.size,1,none⟩) else if i=6 then v=.slice aU nU cU else if i=7 then IO (w.heap.size+2) w' v U else if i=8 then v=.pointer (some ⟨w.heap.size,2,none⟩) else if i=9 then v=.int .i64 k else if i=10 then EmS (w.heap.size+2) 77 w' v else if i=11 then v=.pointer (some ⟨w.heap.size,3,none⟩) else if i=12 then v=.slice aT nT cT else if i=13 then TapO (w.heap.size+2) w' v T nT else if i=14 then CpBd (w.heap.size+2) k D U T nT w' v else if i=15 then L 15=true else True) ?hstab (by kernel_rfl) ?hop ?hdone _ _ ((fun (x0 x1 x2 x3 x4 x5 x6 x7 x8 x9 x10 x11 x12 x13 x14:Value)=>fun (i:Nat)=>if i=0 then x0 else if i=1 then x1 else if i=2 then x2 else if i=3 then x3 else if i=4 then x4 else if i=5 then x5 else if i=6 then x6 else if i=7 then x7 else if i=8 then x8 else if i=9 then x9 else if i=10 then x10 else if i=11 then x11 else if i=12 then x12 else if i=13 then x13 else if i=14 then x14 else undef) _ _ _ _ _ _ _ _ _ _ _ _ _ _ _) _ (by simp) ?ext ?start (by simp)
 case start=>intro i hi h;exact absurd h (by rw[Array.getD_eq_getD_getElem?,Array.getElem?_replicate];split<;>simp)
 case ext=>exact ApS.start ⟨HW0.out,fun p _ hp=>absurd hp (by rw[Array.getD_eq_getD_getElem?,Array.getElem?_replicate];split<;>simp),fun p _ q _ _ hp=>absurd hp (by rw[Array.getD_eq_getD_getElem?,Array.getElem?_replicate];split<;>simp)⟩ (fun i=>by rw[Array.getD_eq_getD_getElem?,Array.getElem?_replicate];split<;>rfl) HR0.out
 case hstab=>
  intro j L w9 w' i v hM hij hLi h;by_cases h0:j=0
  ·subst h0;by_cases hl:i=15
   ·subst hl;simp at h hM ⊢;exact h.wr hM (by omega)
   ·rw[if_neg hl] at hM;simp at h ⊢;exact h.below hM
  by_cases h3:j=3
  ·subst h3;by_cases hl:i=15
   ·subst hl;simp at h hM ⊢;exact h.wr hM (by omega)
   ·rw[if_neg hl] at hM;simp at h ⊢;exact h.below hM
  by_cases h4:j=4
  ·subst h4;by_cases hl:i=15
   ·subst hl;simp at h hM ⊢;exact h.wr hM (by omega)
   ·rw[if_neg hl] at hM;simp at h ⊢;exact h.below hM
  by_cases h7:j=7
  ·subst h7;by_cases hl:i=15
   ·subst hl;simp at h hM ⊢;exact h.wr hM (by omega)
   ·rw[if_neg hl] at hM;simp at h ⊢;exact h.below hM
  by_cases h10:j=10
  ·subst h10;by_cases hl:i=15
   ·subst hl;simp at h hM ⊢;exact h.wr hM (by omega)
   ·rw[if_neg hl] at hM;simp at h ⊢;exact h.below hM
  by_cases h13:j=13
  ·subst h13;by_cases hl:i=15
   ·subst hl;simp at h hM ⊢;exact h.wr hM (by omega)
   ·rw[if_neg hl] at hM;simp at h ⊢;exact h.below hM
  by_cases h14:j=14
  ·subst h14;by_cases hl:i=15
   ·subst hl;simp at h hM ⊢;exact h.wr hM (by omega)
   ·rw[if_neg hl] at hM;simp at h ⊢;exact h.below hM
  by_cases hl:j=15
  ·subst hl;simp at h ⊢;unfold updK;simp[h]
  simp only[if_neg h0,if_neg h3,if_neg h4,if_neg h7,if_neg h10,if_neg h13,if_neg h14,if_neg hl] at h ⊢;exact h
 case hop=>
  intro i o L t w' ho hLi hx hdep K hK;have hi:i<16:=(Array.getElem?_eq_some_iff.1 ho).1;obtain rfl|rfl|rfl|rfl|rfl|rfl|rfl|rfl|rfl|rfl|rfl|rfl|rfl|rfl|rfl|rfl:i=0∨i=1∨i=2∨i=3∨i=4∨i=5∨i=6∨i=7∨i=8∨i=9∨i=10∨i=11∨i=12∨i=13∨i=14∨i=15:=by omega
  all_goals(simp at ho;subst ho)
  ·clear hdep;have hsz:w.heap.size+2≤w'.heap.size:=by have:=hx.lt;omega
   have bb:Below w'.heap.size w' (w'.alloc (.cells #[] 2)):=(Below.refl _ _).alloc (Nat.le_refl _) _;have hK':=hK (w'.alloc (.cells #[] 2)) (.slice (some ⟨w'.heap.size,0,none⟩) 0 0) (by simpa using EmS.new 2 w' hsz) (hx.step (fun _ _ _ b h=>h.below b) 0 (by decide) _ bb (fun h=>absurd h (by decide))) (by rw[if_neg (by decide)];exact bb);clear hK bb;rw[if_pos (by rfl)];go_simp;simpa[upd] using hK'
  ·clear hdep;have hK':=hK w' (.pointer (some ⟨w.heap.size,0,none⟩)) (by simp) (hx.step (fun _ _ _ b h=>h.below b) 1 (by decide) _ (Below.refl _ _) (fun h=>absurd h (by decide))) (by rw[if_neg (by decide)];exact(Below.refl _ _));clear hK;rw[if_pos (by rfl)];go_simp;simpa[upd] using hK'
  ·have d1:t 1=.pointer (some ⟨w.heap.size,0,none⟩):=by simpa using(hdep ⟨1,.data⟩ (by simp) rfl).2
   clear hdep;have cc:w'.cell? ⟨w.heap.size,0,none⟩=some (.slice aD nD cD):=by rw[World.cell?_of_block (a:=⟨w.heap.size,0,none⟩) (w:=wb) (hx.ax.below.block _ HWB.out.p1),cell_of_row wb w.heap.size 0 _ _ _ HWB.out.p2];rfl
   have hK':=hK w' (.slice aD nD cD) (by simp) (hx.step (fun _ _ _ b h=>h.below b) 2 (by decide) _ (Below.refl _ _) (fun h=>absurd h (by decide))) (by rw[if_neg (by decide)];exact(Below.refl _ _));clear hK;rw[if_pos (by rfl)];go_simp;simpa[upd,d1] using hK'
  ·have f0:EmS (w.heap.size+2) 2 w' (t 0):=by simpa using(hdep ⟨0,.data⟩ (by simp) rfl).2
   have d2:t 2=.slice aD nD cD:=by simpa using(hdep ⟨2,.data⟩ (by simp) rfl).2
   clear hdep;have hsz:w.heap.size+2≤w'.heap.size:=by have:=hx.lt;omega
   have bw:Below w.heap.size w w':=HBW.out.trans (hx.ax.below.mono HWB.out.p3);have hK':∀ ww v,IO (w.heap.size+2) ww v D→Below w'.heap.size w' ww→K _ ww:=fun ww v hv hb=>hK ww v (by simpa using hv) (hx.step (fun _ _ _ b h=>h.below b) 3 (by decide) _ hb (fun h=>absurd h (by decide))) (by rw[if_neg (by decide)];exact hb)
   clear hK;rw[if_pos (by rfl)];refine wp_appG 22 2 (.int .i64 0) 1 8 Tryz.infoI64 Tryz.underlying22 rfl (by decide) (by decide) w' (.tmp 3) (.tmp 5) rfl (w.heap.size+2) (t 0) rfl f0 aD nD cD D d2 (by rw[HLN.out.1,Nat.mul_one]) (HAD.out.below bw) mD hsz ?_;intro v' ww h1 h2;have hK2:=hK' ww v' (by unfold IO;rw[HLN.out.1];exact h1) h2;clear hK' h1 h2;simpa[upd,Act.put] using hK2
  ·clear hdep;have hsz:w.heap.size+2≤w'.heap.size:=by have:=hx.lt;omega
   have bb:Below w'.heap.size w' (w'.alloc (.cells #[] 2)):=(Below.refl _ _).alloc (Nat.le_refl _) _;have hK':=hK (w'.alloc (.cells #[] 2)) (.slice (some ⟨w'.heap.size,0,none⟩) 0 0) (by simpa using EmS.new 2 w' hsz) (hx.step (fun _ _ _ b h=>h.below b) 4 (by decide) _ bb (fun h=>absurd h (by decide))) (by rw[if_neg (by decide)];exact bb);clear hK bb;rw[if_pos (by rfl)];go_simp;simpa[upd] using hK'
  ·clear hdep;have hK':=hK w' (.pointer (some ⟨w.heap.size,1,none⟩)) (by simp) (hx.step (fun _ _ _ b h=>h.below b) 5 (by decide) _ (Below.refl _ _) (fun h=>absurd h (by decide))) (by rw[if_neg (by decide)];exact(Below.refl _ _));clear hK;rw[if_pos (by rfl)];go_simp;simpa[upd] using hK'
  ·have d5:t 5=.pointer (some ⟨w.heap.size,1,none⟩):=by simpa using(hdep ⟨5,.data⟩ (by simp) rfl).2
   clear hdep;have cc:w'.cell? ⟨w.heap.size,1,none⟩=some (.slice aU nU cU):=by rw[World.cell?_of_block (a:=⟨w.heap.size,1,none⟩) (w:=wb) (hx.ax.below.block _ HWB.out.p1),cell_of_row wb w.heap.size 1 _ _ _ HWB.out.p2];rfl
   have hK':=hK w' (.slice aU nU cU) (by simp) (hx.step (fun _ _ _ b h=>h.below b) 6 (by decide) _ (Below.refl _ _) (fun h=>absurd h (by decide))) (by rw[if_neg (by decide)];exact(Below.refl _ _));clear hK;rw[if_pos (by rfl)];go_simp;simpa[upd,d5] using hK'
  ·have f4:EmS (w.heap.size+2) 2 w' (t 4):=by simpa using(hdep ⟨4,.data⟩ (by simp) rfl).2
   have d6:t 6=.slice aU nU cU:=by simpa using(hdep ⟨6,.data⟩ (by simp) rfl).2
   clear hdep;have hsz:w.heap.size+2≤w'.heap.size:=by have:=hx.lt;omega
   have bw:Below w.heap.size w w':=HBW.out.trans (hx.ax.below.mono HWB.out.p3);have hK':∀ ww v,IO (w.heap.size+2) ww v U→Below w'.heap.size w' ww→K _ ww:=fun ww v hv hb=>hK ww v (by simpa using hv) (hx.step (fun _ _ _ b h=>h.below b) 7 (by decide) _ hb (fun h=>absurd h (by decide))) (by rw[if_neg (by decide)];exact hb)
   clear hK;rw[if_pos (by rfl)];refine wp_appG 22 2 (.int .i64 0) 1 8 Tryz.infoI64 Tryz.underlying22 rfl (by decide) (by decide) w' (.tmp 7) (.tmp 9) rfl (w.heap.size+2) (t 4) rfl f4 aU nU cU U d6 (by rw[HLN.out.2.1,Nat.mul_one]) (HAU.out.below bw) mU hsz ?_;intro v' ww h1 h2;have hK2:=hK' ww v' (by unfold IO;rw[HLN.out.2.1];exact h1) h2;clear hK' h1 h2;simpa[upd,Act.put] using hK2
  ·clear hdep;have hK':=hK w' (.pointer (some ⟨w.heap.size,2,none⟩)) (by simp) (hx.step (fun _ _ _ b h=>h.below b) 8 (by decide) _ (Below.refl _ _) (fun h=>absurd h (by decide))) (by rw[if_neg (by decide)];exact(Below.refl _ _));clear hK;rw[if_pos (by rfl)];go_simp;simpa[upd] using hK'
  ·have d8:t 8=.pointer (some ⟨w.heap.size,2,none⟩):=by simpa using(hdep ⟨8,.data⟩ (by simp) rfl).2
   clear hdep;have cc:w'.cell? ⟨w.heap.size,2,none⟩=some (.int .i64 k):=by rw[World.cell?_of_block (a:=⟨w.heap.size,2,none⟩) (w:=wb) (hx.ax.below.block _ HWB.out.p1),cell_of_row wb w.heap.size 2 _ _ _ HWB.out.p2];rfl
   have hK':=hK w' (.int .i64 k) (by simp) (hx.step (fun _ _ _ b h=>h.below b) 9 (by decide) _ (Below.refl _ _) (fun h=>absurd h (by decide))) (by rw[if_neg (by decide)];exact(Below.refl _ _));clear hK;rw[if_pos (by rfl)];go_simp;simpa[upd,d8] using hK'
  ·clear hdep;have hsz:w.heap.size+2≤w'.heap.size:=by have:=hx.lt;omega
   have bb:Below w'.heap.size w' (w'.alloc (.cells #[] 77)):=(Below.refl _ _).alloc (Nat.le_refl _) _;have hK':=hK (w'.alloc (.cells #[] 77)) (.slice (some ⟨w'.heap.size,0,none⟩) 0 0) (by simpa using EmS.new 77 w' hsz) (hx.step (fun _ _ _ b h=>h.below b) 10 (by decide) _ bb (fun h=>absurd h (by decide))) (by rw[if_neg (by decide)];exact bb);clear hK bb;rw[if_pos (by rfl)];go_simp;simpa[upd] using hK'
  ·clear hdep;have hK':=hK w' (.pointer (some ⟨w.heap.size,3,none⟩)) (by simp) (hx.step (fun _ _ _ b h=>h.below b) 11 (by decide) _ (Below.refl _ _) (fun h=>absurd h (by decide))) (by rw[if_neg (by decide)];exact(Below.refl _ _));clear hK;rw[if_pos (by rfl)];go_simp;simpa[upd] using hK'
  ·have d11:t 11=.pointer (some ⟨w.heap.size,3,none⟩):=by simpa using(hdep ⟨11,.data⟩ (by simp) rfl).2
   clear hdep;have cc:w'.cell? ⟨w.heap.size,3,none⟩=some (.slice aT nT cT):=by rw[World.cell?_of_block (a:=⟨w.heap.size,3,none⟩) (w:=wb) (hx.ax.below.block _ HWB.out.p1),cell_of_row wb w.heap.size 3 _ _ _ HWB.out.p2];rfl
   have hK':=hK w' (.slice aT nT cT) (by simp) (hx.step (fun _ _ _ b h=>h.below b) 12 (by decide) _ (Below.refl _ _) (fun h=>absurd h (by decide))) (by rw[if_neg (by decide)];exact(Below.refl _ _));clear hK;rw[if_pos (by rfl)];go_simp;simpa[upd,d11] using hK'
  ·have f10:EmS (w.heap.size+2) 77 w' (t 10):=by simpa using(hdep ⟨10,.data⟩ (by simp) rfl).2
   have d12:t 12=.slice aT nT cT:=by simpa using(hdep ⟨12,.data⟩ (by simp) rfl).2
   clear hdep;have hsz:w.heap.size+2≤w'.heap.size:=by have:=hx.lt;omega
   have bw:Below w.heap.size w w':=HBW.out.trans (hx.ax.below.mono HWB.out.p3);have hK':∀ ww v,TapO (w.heap.size+2) ww v T nT→Below w'.heap.size w' ww→K _ ww:=fun ww v hv hb=>hK ww v (by simpa using hv) (hx.step (fun _ _ _ b h=>h.below b) 13 (by decide) _ hb (fun h=>absurd h (by decide))) (by rw[if_neg (by decide)];exact hb)
   clear hK;rw[if_pos (by rfl)];refine wp_appG 31 77 (.agg #[.int .i64 0,.int .i64 0]) 2 16 Tryz.infoTap Tryz.underlying31 rfl (by decide) (by decide) w' (.tmp 13) (.tmp 15) rfl (w.heap.size+2) (t 10) rfl f10 aT nT cT T d12 HLN.out.2.2 (HAT.out.below bw) mT hsz ?_;intro v' ww h1 h2;have hK2:=hK' ww v' h1 h2;clear hK' h1 h2;simpa[upd,Act.put] using hK2
  ·have f3:IO (w.heap.size+2) w' (t 3) D:=by simpa using(hdep ⟨3,.data⟩ (by simp) rfl).2
   have f7:IO (w.heap.size+2) w' (t 7) U:=by simpa using(hdep ⟨7,.data⟩ (by simp) rfl).2
   have d9:t 9=.int .i64 k:=by simpa using(hdep ⟨9,.data⟩ (by simp) rfl).2
   have f13:TapO (w.heap.size+2) w' (t 13) T nT:=by simpa using(hdep ⟨13,.data⟩ (by simp) rfl).2
   clear hdep;obtain⟨aD',nD',cD',d3⟩:=f3.form;obtain⟨aU',nU',cU',d7⟩:=f7.form;obtain⟨aT',cT',d13⟩:=f13.tapV.slice;rw[d3] at f3;rw[d7] at f7;rw[d13] at f13;have hK':=hK w' (.agg #[.slice aD' nD' cD',.slice aU' nU' cU',.int .i64 k,.slice aT' nT cT']) (by simpa using⟨_,rfl,aD',nD',cD',aU',nU',cU',aT',cT',rfl,f3,f7,f13⟩) (hx.step (fun _ _ _ b h=>h.below b) 14 (by decide) _ (Below.refl _ _) (fun h=>absurd h (by decide))) (by rw[if_neg (by decide)];exact(Below.refl _ _));clear hK f3 f7 f13;rw[if_pos (by rfl)];go_simp;simpa[upd,d3,d7,d9,d13] using hK'
  ·have f14:CpBd (w.heap.size+2) k D U T nT w' (t 14):=by simpa using(hdep ⟨14,.data⟩ (by simp) rfl).2
   clear hdep;obtain⟨cs,e9,aD',nD',cD',aU',nU',cU',aT',cT',rfl,f3,f7,f13⟩:=f14;have hrs:=hx.pre hLi;have hK':∀ ww,Wr (w.heap.size+1) w' ww→ww.heap[w.heap.size+1]?=some (.cells #[.slice aD' nD' cD',.slice aU' nU' cU',.int .i64 k,.slice aT' nT cT'] 33 (0,0))→K _ ww:=fun ww hw hr=>hK ww undef (by simp[updK]) (hx.put HWB.out.p4 (by decide) _ hw hr ⟨aD',nD',cD',aU',nU',cU',aT',cT',rfl,f3.wr hw (by omega),f7.wr hw (by omega),f13.wrk hw (by omega)⟩) (by rw[if_pos rfl];exact hw)
   clear hK f3 f7 f13;rw[if_pos (by rfl)];refine wp_store_row 33 (.tmp 2) (.tmp 17) rfl (w.heap.size+1) _ rfl e9 33 _ hrs HSZ.out rfl (by simp[Value.oneCell']) ?_;have hK2:=hK' _ (Wr.setRow _ _ _) (setRow_heap _ _ _ _ _ _ hrs);clear hK';simpa[upd,Act.put] using hK2
 case hdone=>
  intro L t w' hx hg;have l15:L 15=true:=by simpa using hg 15 (by decide)
  clear hg;obtain⟨cs,hr,hfin⟩:=hx.fin l15;have HR9:Hid (w'.heap[w.heap.size+1]?=some (.cells cs 33 (0,0))):=hr;have HF:Hid (CpFin w.heap.size k D U T nT w' cs∧Below w.heap.size w w'):=⟨hfin.mono (by omega),HBW.out.trans (hx.ax.below.mono HWB.out.p3)⟩
  have HS4:Hid ((Tryz.prog.info? 33).map (·.size)=some cs.size):=by
   obtain⟨aD',nD',cD',aU',nU',cU',aT',cT',e,_⟩:=hfin;rw[e];exact HSZ.out
  clear hx hr hfin;go_wp2_with fail;exact bodyPost_ret (v:=.agg cs) (results_cell_row rfl _ _ (w.heap.size+1) 33 _ (0,0) _ rfl HR9.out Tryz.underlying33 rfl HS4.out) rfl ⟨cs,rfl,HF.out.1,HF.out.2⟩
theorem run_nilS (t tE:TypeId) (hu:Tryz.prog.underlying t=some (.slice tE)) (w:World) (a:Option Addr) (n c:Nat):(binOp .eql t (.slice a n c) (.slice none 0 0)).run Tryz.prog w=.ok (.bool a.isNone) w:=by
 have h:∀ d,(Op.equalIn (d+1) t (.slice a n c) (.slice none 0 0)).run Tryz.prog w=.ok a.isNone w:=fun d=>by
  cases a<;>simp[Op.equalIn,run_underlying hu]
 have h':(Op.equal t (.slice a n c) (.slice none 0 0)).run Tryz.prog w=.ok a.isNone w:=h 9999;simp only[binOp];simp[h']
set_option maxRecDepth 100000 in
set_option maxHeartbeats 1000000 in
theorem clnI_any (a:Option Addr) (n cap:Nat) (xs:List Int) (w:World) (hn:xs.length=n) (hm:n≤1048576) (ha:At .i64 w a xs) :
  Calls Tryz.prog 48 #[.slice a n cap] w fun e w'=>∃ v,e=.returned v∧IO w.heap.size w' v xs∧Below w.heap.size w w':=by
 have E:=run_nilS 22 2 Tryz.underlying22 w a n cap;cases a with
 |none=>
  have hx:xs=[]:=by rcases ha with h|⟨b,o,e,_⟩;exact h;cases e
  have HP:Hid (IO w.heap.size w (.slice none 0 0) xs):=by
   subst hx
   skip
   exact⟨rfl,.inl ⟨rfl,rfl⟩⟩
  clear hn ha hm hx;go_enter Tryz.func48,Tryz.ntmps48;go_wp2
  go_ret
  exact⟨_,rfl,HP.out,Below.refl _ _⟩
 |some ad=>
  have bb:Below w.heap.size w (w.alloc (.cells #[] 2)):=(Below.refl _ _).alloc (Nat.le_refl _) _;have HA:Hid (At .i64 (w.alloc (.cells #[] 2)) (some ad) xs∧EmS w.heap.size 2 (w.alloc (.cells #[] 2)) (.slice (some ⟨w.heap.size,0,none⟩) 0 0)):=⟨ha.below bb,EmS.new _ w (Nat.le_refl _)⟩
  have HB:=hid_ofV bb;have HN:=hid_ofV (And.intro hn hm);clear hn ha hm bb;go_enter Tryz.func48,Tryz.ntmps48;go_wp2_with (first
   |(refine wpList_plain rfl fun K hK=>wp_appG 22 2 (.int .i64 0) 1 8 Tryz.infoI64 Tryz.underlying22 rfl (by decide) (by decide) _ (.tmp 5) (.tmp 6) rfl w.heap.size _ rfl HA.out.2 (some ad) n cap xs rfl (by rw[HN.out.1,Nat.mul_one]) HA.out.1 HN.out.2 (by simp) fun v' w3 ho hb=>hK _ _ ?_)
   |fail)
  have HF:Hid (IO w.heap.size w3 v' xs∧Below w.heap.size w w3):=⟨by first|exact ho|(unfold IO;rw[HN.out.1];exact ho),HB.out.trans (hb.mono HB.out.size)⟩
  clear ho hb HA HB HN;go_wp2
  go_ret
  exact⟨_,rfl,HF.out.1,HF.out.2⟩
set_option maxRecDepth 100000 in
set_option maxHeartbeats 1000000 in
theorem clnT0_any (a:Option Addr) (n cap:Nat) (xs:List Int) (w:World) (hn:xs.length=n*2) (hm:n≤1048576) (ha:At .i64 w a xs) :
  Calls Tryz.prog 47 #[.slice a n cap] w fun e w'=>∃ v,e=.returned v∧TapO w.heap.size w' v xs n∧Below w.heap.size w w':=by
 have E:=run_nilS 31 77 Tryz.underlying31 w a n cap;cases a with
 |none=>
  have hx:xs=[]:=by rcases ha with h|⟨b,o,e,_⟩;exact h;cases e
  have HP:Hid (TapO w.heap.size w (.slice none 0 0) xs n):=by
   subst hx;obtain rfl:n=0:=by simp at hn;omega
   exact⟨rfl,.inl ⟨rfl,rfl⟩⟩
  clear hn ha hm hx;go_enter Tryz.func47,Tryz.ntmps47;go_wp2
  go_ret
  exact⟨_,rfl,HP.out,Below.refl _ _⟩
 |some ad=>
  have bb:Below w.heap.size w (w.alloc (.cells #[] 77)):=(Below.refl _ _).alloc (Nat.le_refl _) _;have HA:Hid (At .i64 (w.alloc (.cells #[] 77)) (some ad) xs∧EmS w.heap.size 77 (w.alloc (.cells #[] 77)) (.slice (some ⟨w.heap.size,0,none⟩) 0 0)):=⟨ha.below bb,EmS.new _ w (Nat.le_refl _)⟩
  have HB:=hid_ofV bb;have HN:=hid_ofV (And.intro hn hm);clear hn ha hm bb;go_enter Tryz.func47,Tryz.ntmps47;go_wp2_with (first
   |(refine wpList_plain rfl fun K hK=>wp_appG 31 77 (.agg #[.int .i64 0,.int .i64 0]) 2 16 Tryz.infoTap Tryz.underlying31 rfl (by decide) (by decide) _ (.tmp 5) (.tmp 6) rfl w.heap.size _ rfl HA.out.2 (some ad) n cap xs rfl HN.out.1 HA.out.1 HN.out.2 (by simp) fun v' w3 ho hb=>hK _ _ ?_)
   |fail)
  have HF:Hid (TapO w.heap.size w3 v' xs n∧Below w.heap.size w w3):=⟨by first|exact ho|(unfold TapO;rw[HN.out.1];exact ho),HB.out.trans (hb.mono HB.out.size)⟩
  clear ho hb HA HB HN;go_wp2
  go_ret
  exact⟨_,rfl,HF.out.1,HF.out.2⟩
theorem own_fresh {w0 w:World} {tE:TypeId} {k n:Nat} {v:Value} {xs:List Value} (h:w.ownsRow w0.heap.size tE k v n xs):FreshH w0 w v:=by
 intro j hj;rcases h.2 with⟨rfl,_⟩|⟨g,c,cur,rfl,hb,hh,_⟩
 ·rcases hj with⟨a,e,_⟩|⟨cs,e,_⟩<;>cases e
 ·rcases hj with⟨a,e,rfl⟩|⟨cs,e,_⟩
  ·cases e;exact⟨hb,(Array.getElem?_eq_some_iff.1 hh).1⟩
  ·cases e
theorem rowLo {w:World} {lo lo':Nat} {tE:TypeId} {k n:Nat} {v:Value} {xs:List Value} (h:w.ownsRow lo tE k v n xs) (hl:lo'≤lo):w.ownsRow lo' tE k v n xs:=by
 refine⟨h.1,?_⟩;rcases h.2 with h|⟨g,c,cur,e,hb,r⟩
 ·exact .inl h
 ·exact .inr ⟨g,c,cur,e,Nat.le_trans hl hb,r⟩
theorem IO.lo {lo lo':Nat} {w:World} {v:Value} {xs:List Int} (h:IO lo w v xs) (hl:lo'≤lo):IO lo' w v xs:=rowLo h hl
theorem TapO.lo {lo lo' n:Nat} {w:World} {v:Value} {xs:List Int} (h:TapO lo w v xs n) (hl:lo'≤lo):TapO lo' w v xs n:=rowLo h hl
theorem TapO.frm {B:Nat} {w:World} {v:Value} {T:List Int} {m:Nat} (h:TapO B w v T m):∃ a c,v=.slice a m c:=by
 rcases h.2 with⟨rfl,h0⟩|⟨g,c,cur,rfl,_⟩
 ·have:=h.1;rw[h0] at this;simp at this;exact⟨none,0,by rw[show m=0 by omega]⟩
 ·exact⟨_,_,rfl⟩
theorem ap_slice {a a':Option Addr} {n c n' c':Nat} (h:ApVH (.slice a n c) (.slice a' n' c')):Aprt a a':=fun x y e e' h'=>h x.block (.inl ⟨x,e,rfl⟩) (.inl ⟨y,e',h'.symm⟩)
theorem S3.lo {lo lo':Nat} {w:World} {aD aU aT:Option Addr} {nD nU nT:Nat} {D U T:List Int} (h:S3 lo w aD aU aT nD nU nT D U T) (hl:lo'≤lo):S3 lo' w aD aU aT nD nU nT D U T:=
 ⟨h.d,h.u,h.t,h.nd,h.nu,h.nt,h.ld.mono hl (Nat.le_refl _),h.lu.mono hl (Nat.le_refl _),h.lt.mono hl (Nat.le_refl _),h.du,h.dt,h.ut⟩
theorem s3_of {lo:Nat} {w:World} {aD aU aT:Option Addr} {nD cD nU cU nT cT:Nat} {D U T:List Int} (h1:IO lo w (.slice aD nD cD) D) (h2:IO lo w (.slice aU nU cU) U) (h3:TapO lo w (.slice aT nT cT) T nT) (a1:Aprt aD aU) (a2:Aprt aD aT) (a3:Aprt aU aT):S3 lo w aD aU aT nD nU nT D U T:=by
 obtain⟨d1,d2,d3⟩:=h1.sat;obtain⟨u1,u2,u3⟩:=h2.sat;obtain⟨t1,t2,t3⟩:=h3.tapV.sat;exact⟨d1,u1,t1,d2,u2,t2,d3,u3,t3,a1,a2,a3⟩
def STY (lo:Nat) (w:World) (v:Value) (D U:List Int) (k:Int) (T:List Int) (nT:Nat):Prop:=∃ bD mD dD bU mU dU bT dT,v=.agg #[.slice bD mD dD,.slice bU mU dU,.int .i64 k,.slice bT nT dT]∧S3 lo w bD bU bT mD mU nT D U T
theorem STY.below {lo:Nat} {w w':World} {v:Value} {D U:List Int} {k:Int} {T:List Int} {nT:Nat} (h:STY lo w v D U k T nT) (b:Below w.heap.size w w'):STY lo w' v D U k T nT:=by
 obtain⟨bD,mD,dD,bU,mU,dU,bT,dT,e,h⟩:=h;exact⟨bD,mD,dD,bU,mU,dU,bT,dT,e,h.below b⟩
set_option maxRecDepth 100000 in
set_option maxHeartbeats 4000000 in
theorem cpSt_any (aD aU aT:Option Addr) (nD cD nU cU nT cT:Nat) (D U:List Int) (k:Int) (T:List Int) (w:World) (hD:D.length=nD) (hU:U.length=nU) (hT:T.length=nT*2) (mD:nD≤1048576) (mU:nU≤1048576) (mT:nT≤1048576) (haD:At .i64 w aD D) (haU:At .i64 w aU U) (haT:At .i64 w aT T) :
  Calls Tryz.prog 30 #[.agg #[.slice aD nD cD,.slice aU nU cU,.int .i64 k,.slice aT nT cT]] w fun e w'=>∃ v,e=.returned v∧STY w.heap.size w' v D U k T nT∧Below w.heap.size w w':=by
 have HCD:=hid_ofV (fun ww (b:Below w.heap.size w ww)=>clnI_any aD nD cD D ww hD mD (haD.below b));have HCU:=hid_ofV (fun ww (b:Below w.heap.size w ww)=>clnI_any aU nU cU U ww hU mU (haU.below b));have HCT:=hid_ofV (fun ww (b:Below w.heap.size w ww)=>clnT0_any aT nT cT T ww hT mT (haT.below b));have HSZ:Hid ((Tryz.prog.info? 33).map (·.size)=some 4):=by show _=_;kernel_rfl
 have HE1:Hid (BE w 33 #[.slice aD nD cD,.slice aU nU cU,.int .i64 k,.slice aT nT cT] #[.slice none 0 0,.slice none 0 0,.int .i64 0,.slice none 0 0] ((w.alloc (.cells #[.slice aD nD cD,.slice aU nU cU,.int .i64 k,.slice aT nT cT] 33)).alloc (.cells #[.slice none 0 0,.slice none 0 0,.int .i64 0,.slice none 0 0] 33))):=BE.start _ _ _ _;have HL1:Hid (w.heap.size<((w.alloc (.cells #[.slice aD nD cD,.slice aU nU cU,.int .i64 k,.slice aT nT cT] 33)).alloc (.cells #[.slice none 0 0,.slice none 0 0,.int .i64 0,.slice none 0 0] 33)).heap.size):=(Array.getElem?_eq_some_iff.1 HE1.out.b0).1;clear hD hU hT mD mU mT haD haU haT;go_enter Tryz.func30,Tryz.ntmps30;go_wp2_with fail;generalize ((w.alloc (.cells #[.slice aD nD cD,.slice aU nU cU,.int .i64 k,.slice aT nT cT] 33)).alloc (.cells #[.slice none 0 0,.slice none 0 0,.int .i64 0,.slice none 0 0] 33))=w1 at *;refine wp_region_any (by kernel_rfl) ?_;refine wpAny_slotsF 12 (fun _ a b=>Below a.heap.size a b) (frame:=(fun (a b c:Value)=>fun (t:Nat→Value)=>({ tmps:=List.toArray [a,b,c,t 0,t 1,t 2,t 3,t 4,t 5,t 6,t 7,t 8,t 9,t 10,t 11],defers:=[] }:Act)) _ _ _)
  (Ext:=fun L u w'=>ApH w1 [2,5,10] L u w') (Good:=fun i L w' v=>if i=0 then v=.pointer (some ⟨w.heap.size,0,none⟩) else if i=1 then v=.slice aD nD cD else if i=2 then IO w1.heap.size w' v D else if i=3 then v=.pointer (some ⟨w.heap.size,1,none⟩) else if i=4 then v=.slice aU nU cU else if i=5 then IO w1.heap.size w' v U else if i=6 then v=.pointer (some ⟨w.heap.size,2,none⟩) else if i=7 then v=.int .i64 k else if i=8 then v=.pointer (some ⟨w.heap.size,3,none⟩) else if i=9 then v=.slice aT nT cT else if i=10 then TapO w1.heap.size w' v T nT else if i=11 then STY w1.heap.size w' v D U k T nT else True) (Fin:=fun _ ww=>∃ bD mD dD bU mU dU bT dT,ww.heap[w.heap.size+1]?=some (.cells #[.slice bD mD dD,.slice bU mU dU,.int .i64 k,.slice bT nT dT] 33 (0,0))∧S3 w.heap.size ww bD bU bT mD mU nT D U T∧Below w.heap.size w ww) rfl (by kernel_rfl) ?hstab (by kernel_rfl) ?hop ?hend ?hdone _ _ ((fun (x0 x1 x2 x3 x4 x5 x6 x7 x8 x9 x10 x11:Value)=>fun (i:Nat)=>if i=0 then x0 else if i=1 then x1 else if i=2 then x2 else if i=3 then x3 else if i=4 then x4 else if i=5 then x5 else if i=6 then x6 else if i=7 then x7 else if i=8 then x8 else if i=9 then x9 else if i=10 then x10 else if i=11 then x11 else undef) _ _ _ _ _ _ _ _ _ _ _ _) _ (by simp) ?none ?ext (by simp)
 case none=>intro i;rw[Array.getD_eq_getD_getElem?,Array.getElem?_replicate];split<;>rfl
 case ext=>exact ApH.start w1 [2,5,10] _ _ (fun i=>by rw[Array.getD_eq_getD_getElem?,Array.getElem?_replicate];split<;>rfl) ⟨rfl,rfl,rfl,Nat.le_refl _,fun _ _=>rfl⟩
 case hstab=>
  intro j L w9 w' i v _ hM _ _ h;by_cases h2:j=2
  ·subst h2;simp at h ⊢;exact h.below hM
  by_cases h5:j=5
  ·subst h5;simp at h ⊢;exact h.below hM
  by_cases h10:j=10
  ·subst h10;simp at h ⊢;exact h.below hM
  by_cases h11:j=11
  ·subst h11;simp at h ⊢;exact h.below hM
  simp only[if_neg h2,if_neg h5,if_neg h10,if_neg h11] at h ⊢;exact h
 case hop=>
  intro i o L t w' hi ho hLi hx hdep K hK;have cX:∀ q9:Nat,w'.cell? ⟨w.heap.size,q9,none⟩=(#[.slice aD nD cD,.slice aU nU cU,.int .i64 k,.slice aT nT cT]:Array Value)[q9]?:=fun q9=>by rw[World.cell?_of_block (a:=⟨w.heap.size,q9,none⟩) (w:=w1) (hx.below.block _ HL1.out),cell_of_row w1 w.heap.size q9 _ _ _ HE1.out.b0]
  obtain rfl|rfl|rfl|rfl|rfl|rfl|rfl|rfl|rfl|rfl|rfl|rfl:i=0∨i=1∨i=2∨i=3∨i=4∨i=5∨i=6∨i=7∨i=8∨i=9∨i=10∨i=11:=by omega
  all_goals(simp at ho;subst ho)
  all_goals try(have hK':=hK w' _ rfl (hx.step _ _ (Below.refl _ _) (fun h=>absurd h (by decide))) (Below.refl _ _);clear hK;simp[Region.binds] at hdep;rw[if_pos (by rfl)];go_simp;simpa[upd,hdep] using hK')
  ·have d1:t 1=.slice aD nD cD:=by simpa using(hdep ⟨1,.data⟩ (by simp) rfl).2
   clear hdep;have bw:Below w.heap.size w w':=HE1.out.below.trans (hx.below.mono HE1.out.below.size);have hsz:w1.heap.size≤w'.heap.size:=hx.below.size;have A:=HCD.out w' bw;have hK':∀ ww v,IO w1.heap.size ww v D→FreshH w' ww v→Below w'.heap.size w' ww→K _ ww:=fun ww v hv hf hb=>hK ww v (by simpa using hv) (hx.step 2 v hb (fun _=>hf)) hb
   clear hK;rw[if_pos (by rfl)];go_simp;try simp only[d1]
   refine A.mono ?_;rintro e w9 ⟨v9,rfl,h9,hb9⟩;have hK2:=hK' w9 v9 (h9.lo hsz) (own_fresh h9) hb9;clear hK' A h9 hb9;go_simp;simpa[upd,d1] using hK2
  ·have d4:t 4=.slice aU nU cU:=by simpa using(hdep ⟨4,.data⟩ (by simp) rfl).2
   clear hdep;have bw:Below w.heap.size w w':=HE1.out.below.trans (hx.below.mono HE1.out.below.size);have hsz:w1.heap.size≤w'.heap.size:=hx.below.size;have A:=HCU.out w' bw;have hK':∀ ww v,IO w1.heap.size ww v U→FreshH w' ww v→Below w'.heap.size w' ww→K _ ww:=fun ww v hv hf hb=>hK ww v (by simpa using hv) (hx.step 5 v hb (fun _=>hf)) hb
   clear hK;rw[if_pos (by rfl)];go_simp;try simp only[d4]
   refine A.mono ?_;rintro e w9 ⟨v9,rfl,h9,hb9⟩;have hK2:=hK' w9 v9 (h9.lo hsz) (own_fresh h9) hb9;clear hK' A h9 hb9;go_simp;simpa[upd,d4] using hK2
  ·have d9:t 9=.slice aT nT cT:=by simpa using(hdep ⟨9,.data⟩ (by simp) rfl).2
   clear hdep;have bw:Below w.heap.size w w':=HE1.out.below.trans (hx.below.mono HE1.out.below.size);have hsz:w1.heap.size≤w'.heap.size:=hx.below.size;have A:=HCT.out w' bw;have hK':∀ ww v,TapO w1.heap.size ww v T nT→FreshH w' ww v→Below w'.heap.size w' ww→K _ ww:=fun ww v hv hf hb=>hK ww v (by simpa using hv) (hx.step 10 v hb (fun _=>hf)) hb
   clear hK;rw[if_pos (by rfl)];go_simp;try simp only[d9]
   refine A.mono ?_;rintro e w9 ⟨v9,rfl,h9,hb9⟩;have hK2:=hK' w9 v9 (h9.lo hsz) (own_fresh h9) hb9;clear hK' A h9 hb9;go_simp;simpa[upd,d9] using hK2
  ·have l2:L 2=true:=(hdep ⟨2,.data⟩ (by simp) rfl).1;have f2:IO w1.heap.size w' (t 2) D:=by simpa using(hdep ⟨2,.data⟩ (by simp) rfl).2
   have l5:L 5=true:=(hdep ⟨5,.data⟩ (by simp) rfl).1;have f5:IO w1.heap.size w' (t 5) U:=by simpa using(hdep ⟨5,.data⟩ (by simp) rfl).2
   have d7:t 7=.int .i64 k:=by simpa using(hdep ⟨7,.data⟩ (by simp) rfl).2
   have l10:L 10=true:=(hdep ⟨10,.data⟩ (by simp) rfl).1;have f10:TapO w1.heap.size w' (t 10) T nT:=by simpa using(hdep ⟨10,.data⟩ (by simp) rfl).2
   clear hdep;have a1:=hx.ap 2 (by decide) 5 (by decide) (by decide) l2 l5;have a2:=hx.ap 2 (by decide) 10 (by decide) (by decide) l2 l10;have a3:=hx.ap 5 (by decide) 10 (by decide) (by decide) l5 l10;obtain⟨bD,mD,dD,eD⟩:=f2.form;obtain⟨bU,mU,dU,eU⟩:=f5.form;obtain⟨bT,dT,eT⟩:=f10.frm;rw[eD] at f2 a1 a2;rw[eU] at f5 a1 a3;rw[eT] at f10 a2 a3;have hsv:STY w1.heap.size w' (.agg #[.slice bD mD dD,.slice bU mU dU,.int .i64 k,.slice bT nT dT]) D U k T nT:=⟨bD,mD,dD,bU,mU,dU,bT,dT,rfl,s3_of f2 f5 f10 (ap_slice a1) (ap_slice a2) (ap_slice a3)⟩
   have hK':=hK w' _ (by simpa using hsv) (hx.step 11 _ (Below.refl _ _) (fun h=>absurd h (by decide))) (Below.refl _ _);clear hK f2 f5 f10 hsv a1 a2 a3;rw[if_pos (by rfl)];go_simp;simpa[upd,d7,eD,eU,eT] using hK'
 case hend=>
  intro o L t w' ho hx hg K hK;simp at ho;subst ho;have f11:STY w1.heap.size w' (t 11) D U k T nT:=by simpa using(hg 11 (by decide)).2
  clear hg;obtain⟨bD,mD,dD,bU,mU,dU,bT,dT,e11,s11⟩:=f11;have hrs:=(hx.below.block _ (Array.getElem?_eq_some_iff.1 HE1.out.b1).1).trans HE1.out.b1;have hK':∀ ww,Wr (w.heap.size+1) w' ww→ww.heap[w.heap.size+1]?=some (.cells #[.slice bD mD dD,.slice bU mU dU,.int .i64 k,.slice bT nT dT] 33 (0,0))→K _ ww:=fun ww hw hr=>hK ww undef ⟨bD,mD,dD,bU,mU,dU,bT,dT,hr,(s11.keep (Nat.le_of_eq hw.size.symm) (fun k hk _=>hw.block k (by have:=(Array.getElem?_eq_some_iff.1 HE1.out.b1).1;omega))).lo (by have:=HE1.out.below.size;omega),(HE1.out.below.trans (hx.below.mono HE1.out.below.size)).trans (hw.below (by omega))⟩
  clear hK s11;rw[if_pos (by rfl)];refine wp_store_row 33 (.tmp 2) (.tmp 14) rfl (w.heap.size+1) #[.slice bD mD dD,.slice bU mU dU,.int .i64 k,.slice bT nT dT] rfl e11 33 _ hrs HSZ.out rfl (by simp[Value.oneCell']) ?_;have hK2:=hK' _ (Wr.setRow _ _ _) (setRow_heap _ _ _ _ _ _ hrs);clear hK';simpa[upd,Act.put] using hK2
 case hdone=>
  intro t w9 hf;obtain⟨bD,mD,dD,bU,mU,dU,bT,dT,hr,hI,hb9⟩:=hf;have HR9:Hid (w9.heap[w.heap.size+1]?=some (.cells #[.slice bD mD dD,.slice bU mU dU,.int .i64 k,.slice bT nT dT] 33 (0,0))):=hr;have HF:Hid (STY w.heap.size w9 (.agg #[.slice bD mD dD,.slice bU mU dU,.int .i64 k,.slice bT nT dT]) D U k T nT∧Below w.heap.size w w9):=⟨⟨bD,mD,dD,bU,mU,dU,bT,dT,rfl,hI⟩,hb9⟩
  clear hr hI hb9;go_wp2_with fail;exact bodyPost_ret (v:=.agg #[.slice bD mD dD,.slice bU mU dU,.int .i64 k,.slice bT nT dT]) (results_cell_row rfl _ _ (w.heap.size+1) 33 _ (0,0) _ rfl HR9.out Tryz.underlying33 rfl HSZ.out) rfl ⟨_,rfl,HF.out.1,HF.out.2⟩
def WPV (lo:Nat) (w:World) (v:Value) (r:ApR):Prop:=
 ∃ aD nD cD aU nU cU aT nT cT,v=.agg #[.bool r.ok,.slice aD nD cD,.slice aU nU cU,.int .i64 r.k,.slice aT nT cT]∧At .i64 w aD r.D∧At .i64 w aU r.U∧At .i64 w aT r.T∧r.D.length=nD∧r.U.length=nU∧r.T.length=nT*2∧Lies lo w aD∧Lies lo w aU∧Lies lo w aT∧nT≤cT∧cT≤9223372036854775807
theorem WPV.no (lo:Nat) (w:World):WPV lo w (.agg #[.bool false,.slice none 0 0,.slice none 0 0,.int .i64 0,.slice none 0 0]) apNo:=⟨none,0,0,none,0,0,none,0,0,rfl,.inl rfl,.inl rfl,.inl rfl,rfl,rfl,rfl,fun _ h=>(by cases h),fun _ h=>(by cases h),fun _ h=>(by cases h),by decide,by decide⟩
theorem TapO.cap {B:Nat} {w:World} {a:Option Addr} {n c n':Nat} {T:List Int} (h:TapO B w (.slice a n c) T n'):n≤c∧c≤9223372036854775807:=by
 rcases h.2 with⟨h1,h2⟩|⟨g,c',cur,h1,_,_,h4,h5,_⟩
 ·cases h1;exact⟨Nat.le_refl _,by decide⟩
 ·cases h1;exact⟨h4,by unfold maxLen at h5;omega⟩
structure SX (w:World) (sc fr:Array Value) (wr:World):Prop where
 below:Below w.heap.size w wr
 sb:wr.heap[w.heap.size]?=some (.cells sc 33 (0,0))
 fb:wr.heap[w.heap.size+1]?=some (.cells fr 56 (0,0))
 rb:wr.heap[w.heap.size+2]?=some (.cells #[.bool false,.slice none 0 0,.slice none 0 0,.int .i64 0,.slice none 0 0] 60 (0,0))
theorem SX.keep {w wr w':World} {sc fr:Array Value} (h:SX w sc fr wr) (b:Below (w.heap.size+3) wr w'):SX w sc fr w':=
 ⟨h.below.trans (b.mono (by omega)),by rw[b.block _ (by omega)];exact h.sb,by rw[b.block _ (by omega)];exact h.fb,by rw[b.block _ (by omega)];exact h.rb⟩
theorem SX.lt {w wr:World} {sc fr:Array Value} (h:SX w sc fr wr):w.heap.size+3≤wr.heap.size:=(Array.getElem?_eq_some_iff.1 h.rb).1
theorem SX.call {w wr w':World} {sc fr:Array Value} (h:SX w sc fr wr) (b:Below wr.heap.size wr w'):SX w sc fr w':=h.keep (b.mono h.lt)
theorem SX.start (w:World) (sc fr:Array Value):SX w sc fr (((w.alloc (.cells sc 33)).alloc (.cells fr 56)).alloc (.cells #[.bool false,.slice none 0 0,.slice none 0 0,.int .i64 0,.slice none 0 0] 60)):=by
 have h:=IX.start w sc fr;refine⟨h.below,?_,h.fb,h.rb⟩;rw[Below.heap_alloc _ _ w.heap.size (by simp;omega),Below.heap_alloc _ _ w.heap.size (by simp)];exact heap_alloc_new w _
structure OX (w:World) (sc fr:Array Value) (O:Nat) (cs:Array Value) (wr:World):Prop where
 sx:SX w sc fr wr
 out:wr.heap[O]?=some (.cells cs 33 (0,0))
 hO:w.heap.size+3≤O
theorem OX.lt {w wr:World} {sc fr cs:Array Value} {O:Nat} (h:OX w sc fr O cs wr):O<wr.heap.size:=(Array.getElem?_eq_some_iff.1 h.out).1
theorem OX.call {w wr w':World} {sc fr cs:Array Value} {O:Nat} (h:OX w sc fr O cs wr) (b:Below wr.heap.size wr w'):OX w sc fr O cs w':=⟨h.sx.call b,by rw[b.block _ h.lt];exact h.out,h.hO⟩
theorem OX.put {w wr:World} {sc fr cs:Array Value} {O:Nat} (h:OX w sc fr O cs wr) (i:Nat) (v:Value):OX w sc fr O (cs.setIfInBounds i v) (wr.setCell ⟨O,i,none⟩ v):=by
 have hw:Wr O wr (wr.setCell ⟨O,i,none⟩ v):=(Wr.refl _ _).setCell _ _;exact⟨h.sx.keep (hw.below h.hO),heap_setCell_same _ _ _ _ _ _ h.out,h.hO⟩
def LK (lo O:Nat) (w:World) (a:Option Addr) (xs:List Int):Prop:=At .i64 w a xs∧∀ ad,a=some ad→lo≤ad.block∧ad.block≠O∧ad.block<w.heap.size
theorem LK.below {lo O:Nat} {w w':World} {a:Option Addr} {xs:List Int} (h:LK lo O w a xs) (b:Below w.heap.size w w'):LK lo O w' a xs:=⟨h.1.below b,fun ad e=>by have:=h.2 ad e;have:=b.size;omega⟩
theorem LK.wr {lo O:Nat} {w w':World} {a:Option Addr} {xs:List Int} (h:LK lo O w a xs) (hw:Wr O w w'):LK lo O w' a xs:=
 ⟨h.1.keepT (by rw[hw.size];exact Nat.le_refl _) (fun ad e _=>hw.block _ (h.2 ad e).2.1),fun ad e=>by rw[hw.size];exact h.2 ad e⟩
theorem LK.grown {lo O:Nat} {w w':World} {a:Option Addr} {xs:List Int} {row:Option Nat} (h:LK lo O w a xs) (hg:w.grownBy w' row) (hne:∀ ad,a=some ad→some ad.block≠row):LK lo O w' a xs:=
 ⟨h.1.keepT hg.size (fun ad e hl=>hg.block _ hl (hne ad e)),fun ad e=>by have:=h.2 ad e;have:=hg.size;omega⟩
theorem At.wrR {lo O R:Nat} {w w':World} {a:Option Addr} {xs:List Int} (h:At .i64 w a xs) (hw:Wr R w w') (h2:∀ ad,a=some ad→lo≤ad.block∧ad.block≠O∧ad.block<w.heap.size) (hR:R<lo:=by omega):At .i64 w' a xs:=
 h.keepT (by rw[hw.size];exact Nat.le_refl _) (fun ad e _=>hw.block _ (by have:=(h2 ad e).1;omega))
theorem IO.lk {lo O B:Nat} {w:World} {a:Option Addr} {n c:Nat} {xs:List Int} (h:IO B w (.slice a n c) xs) (hB:lo≤B) (hO:O<B∨w.heap.size≤O):LK lo O w a xs:=by
 obtain⟨h1,h2,h3⟩:=h.sat;exact⟨h1.at_,fun ad e=>by have:=h3 ad e;omega⟩
theorem TapO.lk {lo O B:Nat} {w:World} {a:Option Addr} {n c:Nat} {T:List Int} (h:TapO B w (.slice a n c) T n) (hB:lo≤B) (hO:O<B∨w.heap.size≤O):LK lo O w a T:=by
 obtain⟨h1,h2,h3⟩:=h.tapV.sat;exact⟨h1.at_,fun ad e=>by have:=h3 ad e;omega⟩
theorem io_tap {B B':Nat} {w:World} {a a':Option Addr} {n c n' c':Nat} {xs T:List Int} (h:IO B w (.slice a n c) xs) (h':TapO B' w (.slice a' n' c') T n'):∀ ad,a=some ad→some ad.block≠(Value.slice a' n' c').ownBlock:=by
 intro ad e he;rcases h.2 with⟨h1,_⟩|⟨g,cap,cur,h1,_,hh,_⟩
 ·cases h1;cases e
 ·cases h1;cases e;rcases h'.2 with⟨h2,_⟩|⟨g',cap',cur',h2,_,hh',_⟩
  ·cases h2;simp[Value.ownBlock] at he
  ·cases h2;simp[Value.ownBlock] at he;subst he;rw[hh] at hh';injection hh' with e1
   injection e1 with _ e2 _
   exact absurd e2 (by decide)
theorem apR_tap {D U:List Int} {k:Int} {T:List Int} {n a b:Nat} (h:a<256∧¬ (a:Int)∈U∧¬ (a:Int)∈D):apR D U k T n 1 a b=⟨true,D,withS U a,k,T++[(a:Int),(b:Int)],n+1⟩:=by unfold apR;rw[if_pos rfl,if_pos h]
theorem apR_tapNo {D U:List Int} {k:Int} {T:List Int} {n a b:Nat} (h:¬ (a<256∧¬ (a:Int)∈U∧¬ (a:Int)∈D)):apR D U k T n 1 a b=apNo:=by unfold apR;rw[if_pos rfl,if_neg h]
theorem apR_add {D U:List Int} {k:Int} {T:List Int} {n a:Nat} (h:a<256∧¬ (a:Int)∈D∧¬ D.length=16):apR D U k T n 2 a 1=⟨true,withS D a,U,k,T,n⟩:=by unfold apR;rw[if_neg (by decide),if_pos rfl,if_pos ⟨rfl,h⟩]
theorem apR_rem {D U:List Int} {k:Int} {T:List Int} {n a:Nat} (h:a<256∧(a:Int)∈D):apR D U k T n 2 a 0=⟨true,lessS D a,U,k,T,n⟩:=by unfold apR;rw[if_neg (by decide),if_pos rfl,if_neg (fun h=>by cases h.1),if_pos ⟨rfl,h⟩]
theorem apR_denyNo {D U:List Int} {k:Int} {T:List Int} {n a b:Nat} (h:¬ (b=1∧a<256∧¬ (a:Int)∈D∧¬ D.length=16)) (h':¬ (b=0∧a<256∧(a:Int)∈D)):apR D U k T n 2 a b=apNo:=by unfold apR;rw[if_neg (by decide),if_pos rfl,if_neg h,if_neg h']
theorem apR_ack {D U:List Int} {k:Int} {T:List Int} {n a:Nat} (h:(a:Int)≤k+n):apR D U k T n 3 a 0=⟨true,D,U,max a k,T.drop (ackM k a*2),n-ackM k a⟩:=by unfold apR;rw[if_neg (by decide),if_neg (by decide),if_pos rfl,if_pos ⟨rfl,h⟩]
theorem apR_ackNo {D U:List Int} {k:Int} {T:List Int} {n a b:Nat} (h:¬ (b=0∧(a:Int)≤k+n)):apR D U k T n 3 a b=apNo:=by unfold apR;rw[if_neg (by decide),if_neg (by decide),if_pos rfl,if_neg h]
theorem apR_other {D U:List Int} {k:Int} {T:List Int} {n a b:Nat} {kind:Int} (h1:¬ kind=1) (h2:¬ kind=2) (h3:¬ kind=3):apR D U k T n kind a b=apNo:=by unfold apR;rw[if_neg h1,if_neg h2,if_neg h3]
set_option maxRecDepth 100000 in
set_option maxHeartbeats 8000000 in
theorem sap_any (aD aU aT:Option Addr) (nD cD nU cU nT cT:Nat) (D U:List Int) (k:Int) (T:List Int) (seq kind:Int) (a b:Nat) (w:World) (hD:D.length=nD) (hU:U.length=nU) (hT:T.length=nT*2) (mD:nD≤1048576) (mU:nU≤1048576) (mT:nT≤1048576)
  (haD:At .i64 w aD D) (haU:At .i64 w aU U) (haT:At .i64 w aT T) (hcT:nT≤cT) (hcm:cT≤9223372036854775807) (hk0:-9223372036854775808≤k) (hk1:k<9223372036854775808) (ha:a<4294967296) (hbb:b<4294967296) :
  Calls Tryz.prog 26 #[.agg #[.slice aD nD cD,.slice aU nU cU,.int .i64 k,.slice aT nT cT],.agg #[.int .u32 seq,.int .i64 kind,.int .u32 a,.int .u32 b]] w fun e w'=>∃ v,e=.returned v∧WPV w.heap.size w' v (apF D U k T nT kind a b)∧Below w.heap.size w w':=by
 have HX0:Hid (SX w #[.slice aD nD cD,.slice aU nU cU,.int .i64 k,.slice aT nT cT] #[.int .u32 seq,.int .i64 kind,.int .u32 a,.int .u32 b] (((w.alloc (.cells #[.slice aD nD cD,.slice aU nU cU,.int .i64 k,.slice aT nT cT] 33)).alloc (.cells #[.int .u32 seq,.int .i64 kind,.int .u32 a,.int .u32 b] 56)).alloc (.cells #[.bool false,.slice none 0 0,.slice none 0 0,.int .i64 0,.slice none 0 0] 60))):=SX.start _ _ _;have HLN:Hid (D.length=nD∧U.length=nU∧T.length=nT*2):=⟨hD,hU,hT⟩
 have HA:Hid (∀ wz,Below w.heap.size w wz→At .i64 wz aD D∧At .i64 wz aU U∧At .i64 wz aT T):=fun wz h=>⟨haD.below h,haU.below h,haT.below h⟩
 have HC:=svs_any aD aU aT nD cD nU cU nT cT D U k T _ hD hU hT mD mU mT (haD.below HX0.out.below) (haU.below HX0.out.below) (haT.below HX0.out.below) hk0 hk1;have HRZ:Hid ((Tryz.prog.info? 60).map (·.size)=some 5):=by show _=_;kernel_rfl
 have HSZ:Hid ((Tryz.prog.info? 33).map (·.size)=some 4):=by show _=_;kernel_rfl
 have HAF:Hid (apF D U k T nT kind a b=if stB D U k T nT=true then apR D U k T nT kind a b else apNo):=rfl;have HST:Hid (stB D U k T nT=true→StP D U k T nT):=stP_of;clear haD haU haT hD hU hT;go_enter Tryz.func26,Tryz.ntmps26;go_wp2_with fail;generalize (((w.alloc (.cells #[.slice aD nD cD,.slice aU nU cU,.int .i64 k,.slice aT nT cT] 33)).alloc (.cells #[.int .u32 seq,.int .i64 kind,.int .u32 a,.int .u32 b] 56)).alloc (.cells #[.bool false,.slice none 0 0,.slice none 0 0,.int .i64 0,.slice none 0 0] 60))=w0 at *;refine HC.mono ?_;rintro e w1 ⟨rfl,hb1⟩;have HX1:Hid (SX w #[.slice aD nD cD,.slice aU nU cU,.int .i64 k,.slice aT nT cT] #[.int .u32 seq,.int .i64 kind,.int .u32 a,.int .u32 b] w1):=HX0.out.call hb1;clear HC HX0 hb1;generalize hq:stB D U k T nT=q at *;have HQ:Hid (stB D U k T nT=q):=hq;clear hq;cases q with
 |false=>
  have HFN:Hid (apF D U k T nT kind a b=apNo):=by show _=_;rw[HAF.out];rfl
  have HRB:Hid (w1.heap[w.heap.size+2]?=some (.cells #[.bool false,.slice none 0 0,.slice none 0 0,.int .i64 0,.slice none 0 0] 60 (0,0))):=HX1.out.rb;have HF:Hid (WPV w.heap.size (w1.setRow (w.heap.size+2) #[.bool false,.slice none 0 0,.slice none 0 0,.int .i64 0,.slice none 0 0]) (.agg #[.bool false,.slice none 0 0,.slice none 0 0,.int .i64 0,.slice none 0 0]) (apF D U k T nT kind a b)∧Below w.heap.size w (w1.setRow (w.heap.size+2) #[.bool false,.slice none 0 0,.slice none 0 0,.int .i64 0,.slice none 0 0])):=⟨by rw[HFN.out];exact WPV.no _ _,HX1.out.below.trans ((Wr.setRow _ _ _).below (by omega))⟩
  go_upto_region 2 with fail
  go_wp2_with (first
   |(refine wpList_store_row rfl 60 (.tmp 4) (.tmp 10) rfl (w.heap.size+2) #[.bool false,.slice none 0 0,.slice none 0 0,.int .i64 0,.slice none 0 0] rfl rfl 60 _ HRB.out HRZ.out rfl (by simp[Value.oneCell']) ?_)
   |fail)
  exact bodyPost_ret (v:=.agg #[.bool false,.slice none 0 0,.slice none 0 0,.int .i64 0,.slice none 0 0]) (results_cell_row rfl _ _ (w.heap.size+2) 60 _ (0,0) _ rfl (setRow_heap _ _ _ _ _ _ HRB.out) Tryz.underlying60 rfl HRZ.out) rfl ⟨_,rfl,HF.out.1,HF.out.2⟩
 |true=>
  have HAR:Hid (apF D U k T nT kind a b=apR D U k T nT kind a b):=by show _=_;rw[HAF.out];rfl
  have hst:=HST.out rfl;have hk0':0≤k:=hst.2.2.2.1;have hkn:k+nT=(nU:Int):=by have:=hst.2.2.2.2.1;rw[HLN.out.2.1] at this;exact this
  have hd16:nD≤16:=by have:=hst.2.1;rw[HLN.out.1] at this;exact this
  have HSD:Hid (∀ z,z∈D→0≤z∧z<256):=fun z hz=>hst.1.range hz
  clear hst HST HAF;have HL:=l5c_any aD aU aT nD cD nU cU nT cT D U k T w1 HLN.out.1 HLN.out.2.1 HLN.out.2.2 mD mU mT (HA.out w1 HX1.out.below).1 (HA.out w1 HX1.out.below).2.1 (HA.out w1 HX1.out.below).2.2;have s0:w1.cell? ⟨w.heap.size,0,none⟩=some (.slice aD nD cD):=by rw[cell_of_row w1 _ 0 _ _ _ HX1.out.sb];rfl
  have s1:w1.cell? ⟨w.heap.size,1,none⟩=some (.slice aU nU cU):=by rw[cell_of_row w1 _ 1 _ _ _ HX1.out.sb];rfl
  have s2:w1.cell? ⟨w.heap.size,2,none⟩=some (.int .i64 k):=by rw[cell_of_row w1 _ 2 _ _ _ HX1.out.sb];rfl
  have s3:w1.cell? ⟨w.heap.size,3,none⟩=some (.slice aT nT cT):=by rw[cell_of_row w1 _ 3 _ _ _ HX1.out.sb];rfl
  go_wp2_with fail;refine HL.mono ?_;rintro e w3 ⟨cs,rfl,⟨aD',nD',cD',aU',nU',cU',aT',cT',rfl,hcD,hcU,hcTT⟩,hb3⟩;have HCC:Hid (nT≤cT'∧cT'≤9223372036854775807):=hcTT.cap;have b4:Below w3.heap.size w3 (w3.alloc (.cells #[.slice aD' nD' cD',.slice aU' nU' cU',.int .i64 k,.slice aT' nT cT'] 33)):=(Below.refl _ _).alloc (Nat.le_refl _) _;have HO:Hid (OX w #[.slice aD nD cD,.slice aU nU cU,.int .i64 k,.slice aT nT cT] #[.int .u32 seq,.int .i64 kind,.int .u32 a,.int .u32 b] w3.heap.size #[.slice aD' nD' cD',.slice aU' nU' cU',.int .i64 k,.slice aT' nT cT'] (w3.alloc (.cells #[.slice aD' nD' cD',.slice aU' nU' cU',.int .i64 k,.slice aT' nT cT'] 33))):=⟨(HX1.out.call hb3).call b4,heap_alloc_new w3 _,(HX1.out.call hb3).lt⟩
  have hb1:=HX1.out.lt;have HKD:Hid (LK (w.heap.size+3) w3.heap.size (w3.alloc (.cells #[.slice aD' nD' cD',.slice aU' nU' cU',.int .i64 k,.slice aT' nT cT'] 33)) aD' D):=(hcD.lk hb1 (.inr (Nat.le_refl _))).below b4;have HKU:Hid (LK (w.heap.size+3) w3.heap.size (w3.alloc (.cells #[.slice aD' nD' cD',.slice aU' nU' cU',.int .i64 k,.slice aT' nT cT'] 33)) aU' U):=(hcU.lk hb1 (.inr (Nat.le_refl _))).below b4;have HKT:Hid (LK (w.heap.size+3) w3.heap.size (w3.alloc (.cells #[.slice aD' nD' cD',.slice aU' nU' cU',.int .i64 k,.slice aT' nT cT'] 33)) aT' T):=(hcTT.lk hb1 (.inr (Nat.le_refl _))).below b4;have HTO:Hid (TapO (w.heap.size+3) (w3.alloc (.cells #[.slice aD' nD' cD',.slice aU' nU' cU',.int .i64 k,.slice aT' nT cT'] 33)) (.slice aT' nT cT') T nT):=(TapO.mono hcTT hb1).below b4;have HDT:Hid (∀ ad,aD'=some ad→some ad.block≠(Value.slice aT' nT cT').ownBlock):=io_tap hcD hcTT;have HTNE:Hid (NeG w3.heap.size (.slice aT' nT cT')):=fun t ht e=>by
   obtain⟨_,_,q3⟩:=hcTT.tapV.sat;cases aT' with
   |none=>simp[Value.ownBlock] at ht
   |some ad=>
    simp[Value.ownBlock] at ht;have:=(q3 ad rfl).2;omega
  have HND:Hid (D.length=nD'∧U.length=nU'∧T.length=nT*2):=⟨hcD.sat.2.1,hcU.sat.2.1,HLN.out.2.2⟩
  clear hcD hcU hcTT hb3 b4 HL HX1 s0 s1 s2 s3 hb1
  go_upto_region 4 with fail
  generalize w3.alloc (.cells #[.slice aD' nD' cD',.slice aU' nU' cU',.int .i64 k,.slice aT' nT cT'] 33)=w4 at *;generalize w3.heap.size=O at *;have s0:w4.cell? ⟨w.heap.size,0,none⟩=some (.slice aD nD cD):=by rw[cell_of_row w4 _ 0 _ _ _ HO.out.sx.sb];rfl
  have s1:w4.cell? ⟨w.heap.size,1,none⟩=some (.slice aU nU cU):=by rw[cell_of_row w4 _ 1 _ _ _ HO.out.sx.sb];rfl
  have s2:w4.cell? ⟨w.heap.size,2,none⟩=some (.int .i64 k):=by rw[cell_of_row w4 _ 2 _ _ _ HO.out.sx.sb];rfl
  have s3:w4.cell? ⟨w.heap.size,3,none⟩=some (.slice aT nT cT):=by rw[cell_of_row w4 _ 3 _ _ _ HO.out.sx.sb];rfl
  have f1:w4.cell? ⟨w.heap.size+1,1,none⟩=some (.int .i64 kind):=by rw[cell_of_row w4 _ 1 _ _ _ HO.out.sx.fb];rfl
  have f2:w4.cell? ⟨w.heap.size+1,2,none⟩=some (.int .u32 a):=by rw[cell_of_row w4 _ 2 _ _ _ HO.out.sx.fb];rfl
  have f3:w4.cell? ⟨w.heap.size+1,3,none⟩=some (.int .u32 b):=by rw[cell_of_row w4 _ 3 _ _ _ HO.out.sx.fb];rfl
  have HAD:Hid (At .i64 w4 aD D∧At .i64 w4 aU U∧At .i64 w4 aT T):=HA.out w4 HO.out.sx.below;have HON:Hid (w.heap.size+3≤O∧O<w4.heap.size):=⟨HO.out.hO,HO.out.lt⟩
  by_cases k1:kind=1
  ·subst k1;by_cases hc:a<256∧¬ (a:Int)∈U∧¬ (a:Int)∈D
   ·have HR:Hid (apF D U k T nT 1 a b=⟨true,D,withS U a,k,T++[(a:Int),(b:Int)],nT+1⟩):=by show _=_;rw[HAR.out,apR_tap hc]
    have h256:¬ ((a:Int)≥256):=by omega
    have HMU:Hid (memB (a:Int) U=false):=memB_no hc.2.1;have HMD:Hid (memB (a:Int) D=false):=memB_no hc.2.2;clear hc;go_wp2_with fail;refine(holds_any _ _ _ U _ _ HLN.out.2.1 mU HAD.out.2.1).mono ?_;rintro e w5 ⟨rfl,rfl⟩;rw[HMU.out];go_wp2_with fail;refine(holds_any _ _ _ D _ _ HLN.out.1 mD HAD.out.1).mono ?_;rintro e w5 ⟨rfl,rfl⟩;rw[HMD.out];go_wp2_with fail;refine(with_any _ _ _ U a _ HLN.out.2.1 mU HAD.out.2.1).mono ?_;rintro e w6 ⟨v6,rfl,hv6,hb6⟩;obtain⟨aU2,nU2,cU2,rfl⟩:=hv6.form;have HO6:Hid (OX w #[.slice aD nD cD,.slice aU nU cU,.int .i64 k,.slice aT nT cT] #[.int .u32 seq,.int .i64 1,.int .u32 a,.int .u32 b] O #[.slice aD' nD' cD',.slice aU' nU' cU',.int .i64 k,.slice aT' nT cT'] w6):=HO.out.call hb6;have HKD6:Hid (LK (w.heap.size+3) O w6 aD' D):=HKD.out.below hb6;have HKU6:Hid (LK (w.heap.size+3) O w6 aU2 (withS U a)):=hv6.lk (by have:=HON.out;omega) (.inl HON.out.2);have HNU6:Hid ((withS U a).length=nU2):=hv6.sat.2.1;have HTO6:Hid (TapO (w.heap.size+3) w6 (.slice aT' nT cT') T nT):=HTO.out.below hb6;have HUT6:Hid (∀ ad,aU2=some ad→some ad.block≠(Value.slice aT' nT cT').ownBlock):=io_tap hv6 HTO6.out;have HON6:Hid (w.heap.size+3≤O∧O<w6.heap.size):=⟨HO6.out.hO,HO6.out.lt⟩
    have v1:w6.cell? ⟨O,1,none⟩=some (.slice aU' nU' cU'):=by rw[cell_of_row w6 _ 1 _ _ _ HO6.out.out];rfl
    have g1:=frozen_of_row w6 O 1 _ _ HO6.out.out;clear hv6 hb6 s0 s1 s2 s3 f1 f2 f3 HKD HKU HKT HTO HAD
    go_upto_region 10 with fail
    have hw7:Wr O w6 (w6.setCell ⟨O,1,none⟩ (.slice aU2 nU2 cU2)):=(Wr.refl _ _).setCell _ _;have HO7:Hid (OX w #[.slice aD nD cD,.slice aU nU cU,.int .i64 k,.slice aT nT cT] #[.int .u32 seq,.int .i64 1,.int .u32 a,.int .u32 b] O #[.slice aD' nD' cD',.slice aU2 nU2 cU2,.int .i64 k,.slice aT' nT cT'] (w6.setCell ⟨O,1,none⟩ (.slice aU2 nU2 cU2))):=HO6.out.put 1 _;have HKD7:Hid (LK (w.heap.size+3) O (w6.setCell ⟨O,1,none⟩ (.slice aU2 nU2 cU2)) aD' D):=HKD6.out.wr hw7;have HKU7:Hid (LK (w.heap.size+3) O (w6.setCell ⟨O,1,none⟩ (.slice aU2 nU2 cU2)) aU2 (withS U a)):=HKU6.out.wr hw7;have hTne:NeG O (.slice aT' nT cT'):=fun t ht e=>HTNE.out t ht e
    have HTO7:Hid (TapO (w.heap.size+3) (w6.setCell ⟨O,1,none⟩ (.slice aU2 nU2 cU2)) (.slice aT' nT cT') T nT):=HTO6.out.wrg hTne hw7;have HON7:Hid (w.heap.size+3≤(w6.setCell ⟨O,1,none⟩ (.slice aU2 nU2 cU2)).heap.size):=by show _≤_;rw[hw7.size];have:=HON6.out;omega
    clear v1 g1 hw7 HO6 HKD6 HKU6 HTO6;generalize w6.setCell ⟨O,1,none⟩ (.slice aU2 nU2 cU2)=w7 at *;have t3:w7.cell? ⟨O,3,none⟩=some (.slice aT' nT cT'):=by rw[cell_of_row w7 _ 3 _ _ _ HO7.out.out];rfl
    have f3:w7.cell? ⟨w.heap.size+1,3,none⟩=some (.int .u32 b):=by rw[cell_of_row w7 _ 3 _ _ _ HO7.out.sx.fb];rfl
    have b8:Below w7.heap.size w7 (w7.alloc (.cells #[.int .i64 (a:Int),.int .i64 (b:Int)] 77)):=(Below.refl _ _).alloc (Nat.le_refl _) _;have HTO8:Hid (TapO (w.heap.size+3) (w7.alloc (.cells #[.int .i64 (a:Int),.int .i64 (b:Int)] 77)) (.slice aT' nT cT') T nT):=HTO7.out.below b8;have HB8:Hid (w.heap.size+3≤(w7.alloc (.cells #[.int .i64 (a:Int),.int .i64 (b:Int)] 77)).heap.size):=by show _≤_;have:=HON7.out;have:=b8.size;omega
    go_wp2_with (first
     |(refine wpList_appT0 _ rfl (.tmp 41) (.tmp 47) rfl (w.heap.size+3) (.slice aT' nT cT') T nT rfl HTO8.out w7 a b rfl rfl mT HB8.out ?_)
     |fail)
    intro v9 w9 h1 ho h2 hgr how;obtain⟨aT2,cT2,rfl⟩:=h1.tapV.slice;have HC2:Hid (nT+1≤cT2∧cT2≤9223372036854775807):=h1.cap;have hO8:O<(w7.alloc (.cells #[.int .i64 (a:Int),.int .i64 (b:Int)] 77)).heap.size:=by have:=HO7.out.lt;have:=b8.size;omega
    have HO9:Hid (OX w #[.slice aD nD cD,.slice aU nU cU,.int .i64 k,.slice aT nT cT] #[.int .u32 seq,.int .i64 1,.int .u32 a,.int .u32 b] O #[.slice aD' nD' cD',.slice aU2 nU2 cU2,.int .i64 k,.slice aT' nT cT'] w9):=⟨(HO7.out.call b8).sx.keep h2,by rw[hgr.block O hO8 (fun e=>hTne O e.symm rfl)];exact(HO7.out.call b8).out,HO7.out.hO⟩
    have HKD9:Hid (LK (w.heap.size+3) O w9 aD' D):=(HKD7.out.below b8).grown hgr HDT.out;have HKU9:Hid (LK (w.heap.size+3) O w9 aU2 (withS U a)):=(HKU7.out.below b8).grown hgr HUT6.out;have hTne9:NeG O (.slice aT2 (nT+1:Nat) cT2):=fun x hx=>by
     rcases how with e1|e1
     ·exact hTne x (e1 ▸ hx)
     ·rw[e1] at hx;have hx':=Option.some.inj hx;have hO7:=HO7.out.lt;have hz8:=b8.size;omega
    have HKT9:Hid (LK (w.heap.size+3) O w9 aT2 (T++[(a:Int),(b:Int)])):=by
     obtain⟨q1,q2,q3⟩:=h1.tapV.sat;exact⟨q1.at_,fun ad e=>⟨(q3 ad e).1,hTne9 _ (by rw[e];rfl),(q3 ad e).2⟩⟩
    have v3:w9.cell? ⟨O,3,none⟩=some (.slice aT' nT cT'):=by rw[cell_of_row w9 _ 3 _ _ _ HO9.out.out];rfl
    have g3:=frozen_of_row w9 O 3 _ _ HO9.out.out;have hw10:Wr O w9 (w9.setCell ⟨O,3,none⟩ (.slice aT2 (nT+1:Nat) cT2)):=(Wr.refl _ _).setCell _ _;have HO10:Hid (OX w #[.slice aD nD cD,.slice aU nU cU,.int .i64 k,.slice aT nT cT] #[.int .u32 seq,.int .i64 1,.int .u32 a,.int .u32 b] O #[.slice aD' nD' cD',.slice aU2 nU2 cU2,.int .i64 k,.slice aT2 (nT+1:Nat) cT2] (w9.setCell ⟨O,3,none⟩ (.slice aT2 (nT+1:Nat) cT2))):=HO9.out.put 3 _;have HK10:Hid (LK (w.heap.size+3) O (w9.setCell ⟨O,3,none⟩ (.slice aT2 (nT+1:Nat) cT2)) aD' D∧LK (w.heap.size+3) O (w9.setCell ⟨O,3,none⟩ (.slice aT2 (nT+1:Nat) cT2)) aU2 (withS U a)∧LK (w.heap.size+3) O (w9.setCell ⟨O,3,none⟩ (.slice aT2 (nT+1:Nat) cT2)) aT2 (T++[(a:Int),(b:Int)])):=⟨HKD9.out.wr hw10,HKU9.out.wr hw10,HKT9.out.wr hw10⟩
    have HLT:Hid ((T++[(a:Int),(b:Int)]).length=(nT+1)*2):=by show _=_;rw[List.length_append,HND.out.2.2];simp;omega
    clear h1 h2 hgr how hTne hTne9 hw10 HO9 HKD9 HKU9 HKT9 t3 f3 b8 HTO8 HB8 hO8 HO7 HKD7 HKU7 HTO7;have HRB:Hid ((w9.setCell ⟨O,3,none⟩ (.slice aT2 (nT+1:Nat) cT2)).heap[w.heap.size+2]?=some (.cells #[.bool false,.slice none 0 0,.slice none 0 0,.int .i64 0,.slice none 0 0] 60 (0,0))):=HO10.out.sx.rb;have HOB:Hid ((w9.setCell ⟨O,3,none⟩ (.slice aT2 (nT+1:Nat) cT2)).heap[O]?=some (.cells #[.slice aD' nD' cD',.slice aU2 nU2 cU2,.int .i64 k,.slice aT2 (nT+1:Nat) cT2] 33 (0,0))):=HO10.out.out;have HF:Hid (WPV w.heap.size ((w9.setCell ⟨O,3,none⟩ (.slice aT2 (nT+1:Nat) cT2)).setRow (w.heap.size+2) #[.bool true,.slice aD' nD' cD',.slice aU2 nU2 cU2,.int .i64 k,.slice aT2 (nT+1:Nat) cT2]) (.agg #[.bool true,.slice aD' nD' cD',.slice aU2 nU2 cU2,.int .i64 k,.slice aT2 (nT+1:Nat) cT2]) (apF D U k T nT 1 a b)∧Below w.heap.size w ((w9.setCell ⟨O,3,none⟩ (.slice aT2 (nT+1:Nat) cT2)).setRow (w.heap.size+2) #[.bool true,.slice aD' nD' cD',.slice aU2 nU2 cU2,.int .i64 k,.slice aT2 (nT+1:Nat) cT2])):=by
     have hw:Wr (w.heap.size+2) (w9.setCell ⟨O,3,none⟩ (.slice aT2 (nT+1:Nat) cT2)) ((w9.setCell ⟨O,3,none⟩ (.slice aT2 (nT+1:Nat) cT2)).setRow (w.heap.size+2) #[.bool true,.slice aD' nD' cD',.slice aU2 nU2 cU2,.int .i64 k,.slice aT2 (nT+1:Nat) cT2]):=Wr.setRow _ _ _;refine⟨?_,HO10.out.sx.below.trans (hw.below (by omega))⟩;rw[HR.out];exact⟨_,_,_,_,_,_,_,_,_,rfl,HK10.out.1.1.wrR hw HK10.out.1.2,HK10.out.2.1.1.wrR hw HK10.out.2.1.2,HK10.out.2.2.1.wrR hw HK10.out.2.2.2,HND.out.1,HNU6.out,HLT.out,fun ad e=>⟨by have:=(HK10.out.1.2 ad e).1;omega,by rw[hw.size];exact(HK10.out.1.2 ad e).2.2⟩,fun ad e=>⟨by have:=(HK10.out.2.1.2 ad e).1;omega,by rw[hw.size];exact(HK10.out.2.1.2 ad e).2.2⟩,fun ad e=>⟨by have:=(HK10.out.2.2.2 ad e).1;omega,by rw[hw.size];exact(HK10.out.2.2.2 ad e).2.2⟩,HC2.out.1,HC2.out.2⟩
    go_upto_region 11 with fail
    generalize (w9.setCell ⟨O,3,none⟩ (.slice aT2 (nT+1:Nat) cT2))=wz at *;go_wp2_with (first
     |(refine wpList_load_row rfl 33 (.tmp 5) rfl O rfl 33 _ (0,0) _ HOB.out Tryz.underlying33 rfl HSZ.out ?_)
     |(refine wpList_store_row rfl 60 (.tmp 4) (.tmp 51) rfl (w.heap.size+2) #[.bool true,.slice aD' nD' cD',.slice aU2 nU2 cU2,.int .i64 k,.slice aT2 (nT+1:Nat) cT2] rfl rfl 60 _ HRB.out HRZ.out rfl (by simp[Value.oneCell']) ?_)
     |fail)
    exact bodyPost_ret (v:=.agg #[.bool true,.slice aD' nD' cD',.slice aU2 nU2 cU2,.int .i64 k,.slice aT2 (nT+1:Nat) cT2]) (results_cell_row rfl _ _ (w.heap.size+2) 60 _ (0,0) _ rfl (setRow_heap _ _ _ _ _ _ HRB.out) Tryz.underlying60 rfl HRZ.out) rfl ⟨_,rfl,HF.out.1,HF.out.2⟩
   ·have HAN:Hid (apF D U k T nT 1 a b=apNo):=by show _=_;rw[HAR.out,apR_tapNo hc]
    have HX4:Hid (SX w #[.slice aD nD cD,.slice aU nU cU,.int .i64 k,.slice aT nT cT] #[.int .u32 seq,.int .i64 1,.int .u32 a,.int .u32 b] w4):=HO.out.sx;by_cases h256:(a:Int)≥256
    ·have HFN:Hid (apF D U k T nT 1 a b=apNo):=HAN.out;have HRB:Hid (w4.heap[w.heap.size+2]?=some (.cells #[.bool false,.slice none 0 0,.slice none 0 0,.int .i64 0,.slice none 0 0] 60 (0,0))):=HX4.out.rb;have HF:Hid (WPV w.heap.size (w4.setRow (w.heap.size+2) #[.bool false,.slice none 0 0,.slice none 0 0,.int .i64 0,.slice none 0 0]) (.agg #[.bool false,.slice none 0 0,.slice none 0 0,.int .i64 0,.slice none 0 0]) (apF D U k T nT 1 a b)∧Below w.heap.size w (w4.setRow (w.heap.size+2) #[.bool false,.slice none 0 0,.slice none 0 0,.int .i64 0,.slice none 0 0])):=⟨by rw[HFN.out];exact WPV.no _ _,HX4.out.below.trans ((Wr.setRow _ _ _).below (by omega))⟩
     go_upto_region 8 with fail
     go_wp2_with (first
      |(refine wpList_store_row rfl 60 (.tmp 4) (.tmp 34) rfl (w.heap.size+2) #[.bool false,.slice none 0 0,.slice none 0 0,.int .i64 0,.slice none 0 0] rfl rfl 60 _ HRB.out HRZ.out rfl (by simp[Value.oneCell']) ?_)
      |fail)
     exact bodyPost_ret (v:=.agg #[.bool false,.slice none 0 0,.slice none 0 0,.int .i64 0,.slice none 0 0]) (results_cell_row rfl _ _ (w.heap.size+2) 60 _ (0,0) _ rfl (setRow_heap _ _ _ _ _ _ HRB.out) Tryz.underlying60 rfl HRZ.out) rfl ⟨_,rfl,HF.out.1,HF.out.2⟩
    have HH:Hid (¬ (¬ (a:Int)∈U∧¬ (a:Int)∈D)):=fun h=>hc ⟨by omega,h⟩
    clear hc;by_cases hu:(a:Int)∈U
    ·have HMU:Hid (memB (a:Int) U=true):=memB_yes hu;go_wp2_with fail;refine(holds_any _ _ _ U _ _ HLN.out.2.1 mU HAD.out.2.1).mono ?_;rintro e w5 ⟨rfl,rfl⟩;rw[HMU.out];have HFN:Hid (apF D U k T nT 1 a b=apNo):=HAN.out;have HRB:Hid (w5.heap[w.heap.size+2]?=some (.cells #[.bool false,.slice none 0 0,.slice none 0 0,.int .i64 0,.slice none 0 0] 60 (0,0))):=HX4.out.rb;have HF:Hid (WPV w.heap.size (w5.setRow (w.heap.size+2) #[.bool false,.slice none 0 0,.slice none 0 0,.int .i64 0,.slice none 0 0]) (.agg #[.bool false,.slice none 0 0,.slice none 0 0,.int .i64 0,.slice none 0 0]) (apF D U k T nT 1 a b)∧Below w.heap.size w (w5.setRow (w.heap.size+2) #[.bool false,.slice none 0 0,.slice none 0 0,.int .i64 0,.slice none 0 0])):=⟨by rw[HFN.out];exact WPV.no _ _,HX4.out.below.trans ((Wr.setRow _ _ _).below (by omega))⟩
     go_upto_region 8 with fail
     go_wp2_with (first
      |(refine wpList_store_row rfl 60 (.tmp 4) (.tmp 34) rfl (w.heap.size+2) #[.bool false,.slice none 0 0,.slice none 0 0,.int .i64 0,.slice none 0 0] rfl rfl 60 _ HRB.out HRZ.out rfl (by simp[Value.oneCell']) ?_)
      |fail)
     exact bodyPost_ret (v:=.agg #[.bool false,.slice none 0 0,.slice none 0 0,.int .i64 0,.slice none 0 0]) (results_cell_row rfl _ _ (w.heap.size+2) 60 _ (0,0) _ rfl (setRow_heap _ _ _ _ _ _ HRB.out) Tryz.underlying60 rfl HRZ.out) rfl ⟨_,rfl,HF.out.1,HF.out.2⟩
    ·have hd:(a:Int)∈D:=Classical.byContradiction fun h=>HH.out ⟨hu,h⟩
     have HMU:Hid (memB (a:Int) U=false):=memB_no hu;have HMD:Hid (memB (a:Int) D=true):=memB_yes hd;go_wp2_with fail;refine(holds_any _ _ _ U _ _ HLN.out.2.1 mU HAD.out.2.1).mono ?_;rintro e w5 ⟨rfl,rfl⟩;rw[HMU.out];go_wp2_with fail;refine(holds_any _ _ _ D _ _ HLN.out.1 mD HAD.out.1).mono ?_;rintro e w5 ⟨rfl,rfl⟩;rw[HMD.out];have HFN:Hid (apF D U k T nT 1 a b=apNo):=HAN.out;have HRB:Hid (w5.heap[w.heap.size+2]?=some (.cells #[.bool false,.slice none 0 0,.slice none 0 0,.int .i64 0,.slice none 0 0] 60 (0,0))):=HX4.out.rb;have HF:Hid (WPV w.heap.size (w5.setRow (w.heap.size+2) #[.bool false,.slice none 0 0,.slice none 0 0,.int .i64 0,.slice none 0 0]) (.agg #[.bool false,.slice none 0 0,.slice none 0 0,.int .i64 0,.slice none 0 0]) (apF D U k T nT 1 a b)∧Below w.heap.size w (w5.setRow (w.heap.size+2) #[.bool false,.slice none 0 0,.slice none 0 0,.int .i64 0,.slice none 0 0])):=⟨by rw[HFN.out];exact WPV.no _ _,HX4.out.below.trans ((Wr.setRow _ _ _).below (by omega))⟩
     go_upto_region 8 with fail
     go_wp2_with (first
      |(refine wpList_store_row rfl 60 (.tmp 4) (.tmp 34) rfl (w.heap.size+2) #[.bool false,.slice none 0 0,.slice none 0 0,.int .i64 0,.slice none 0 0] rfl rfl 60 _ HRB.out HRZ.out rfl (by simp[Value.oneCell']) ?_)
      |fail)
     exact bodyPost_ret (v:=.agg #[.bool false,.slice none 0 0,.slice none 0 0,.int .i64 0,.slice none 0 0]) (results_cell_row rfl _ _ (w.heap.size+2) 60 _ (0,0) _ rfl (setRow_heap _ _ _ _ _ _ HRB.out) Tryz.underlying60 rfl HRZ.out) rfl ⟨_,rfl,HF.out.1,HF.out.2⟩
  by_cases k2:kind=2
  ·subst k2;clear k1;by_cases hc:b=1∧a<256∧¬ (a:Int)∈D∧¬ D.length=16
   ·have HR:Hid (apF D U k T nT 2 a b=⟨true,withS D a,U,k,T,nT⟩):=by show _=_;rw[HAR.out,hc.1,apR_add hc.2]
    obtain⟨hb1,h256',hd,h16⟩:=hc;subst hb1;have h256:(a:Int)<256:=by omega
    have h16':(nD:Int)<16:=by rw[HLN.out.1] at h16;omega
    have HMD:Hid (memB (a:Int) D=false):=memB_no hd;clear hd h16;go_wp2_with fail;refine(holds_any _ _ _ D _ _ HLN.out.1 mD HAD.out.1).mono ?_;rintro e w5 ⟨rfl,rfl⟩;rw[HMD.out];go_wp2_with fail;refine(with_any _ _ _ D a _ HLN.out.1 mD HAD.out.1).mono ?_;rintro e w6 ⟨v6,rfl,hv6,hb6⟩;obtain⟨aD2,nD2,cD2,rfl⟩:=hv6.form;have HO6:Hid (OX w #[.slice aD nD cD,.slice aU nU cU,.int .i64 k,.slice aT nT cT] #[.int .u32 seq,.int .i64 2,.int .u32 a,.int .u32 1] O #[.slice aD' nD' cD',.slice aU' nU' cU',.int .i64 k,.slice aT' nT cT'] w6):=HO.out.call hb6;have HKU6:Hid (LK (w.heap.size+3) O w6 aU' U):=HKU.out.below hb6;have HKT6:Hid (LK (w.heap.size+3) O w6 aT' T):=HKT.out.below hb6;have HKD6:Hid (LK (w.heap.size+3) O w6 aD2 (withS D a)):=hv6.lk (by have:=HON.out;omega) (.inl HON.out.2);have HNU6:Hid ((withS D a).length=nD2):=hv6.sat.2.1;have v1:w6.cell? ⟨O,0,none⟩=some (.slice aD' nD' cD'):=by rw[cell_of_row w6 _ 0 _ _ _ HO6.out.out];rfl
    have g1:=frozen_of_row w6 O 0 _ _ HO6.out.out;have hw7:Wr O w6 (w6.setCell ⟨O,0,none⟩ (.slice aD2 nD2 cD2)):=(Wr.refl _ _).setCell _ _;have HO7:Hid (OX w #[.slice aD nD cD,.slice aU nU cU,.int .i64 k,.slice aT nT cT] #[.int .u32 seq,.int .i64 2,.int .u32 a,.int .u32 1] O #[.slice aD2 nD2 cD2,.slice aU' nU' cU',.int .i64 k,.slice aT' nT cT'] (w6.setCell ⟨O,0,none⟩ (.slice aD2 nD2 cD2))):=HO6.out.put 0 _;have HK7:Hid (LK (w.heap.size+3) O (w6.setCell ⟨O,0,none⟩ (.slice aD2 nD2 cD2)) aD2 (withS D a)∧LK (w.heap.size+3) O (w6.setCell ⟨O,0,none⟩ (.slice aD2 nD2 cD2)) aU' U∧LK (w.heap.size+3) O (w6.setCell ⟨O,0,none⟩ (.slice aD2 nD2 cD2)) aT' T):=⟨HKD6.out.wr hw7,HKU6.out.wr hw7,HKT6.out.wr hw7⟩
    clear hv6 hb6 s0 s1 s2 s3 f1 f2 f3 HKD HKU HKT HTO HAD hw7 HO6 HKU6 HKT6 HKD6;have HRB:Hid ((w6.setCell ⟨O,0,none⟩ (.slice aD2 nD2 cD2)).heap[w.heap.size+2]?=some (.cells #[.bool false,.slice none 0 0,.slice none 0 0,.int .i64 0,.slice none 0 0] 60 (0,0))):=HO7.out.sx.rb;have HOB:Hid ((w6.setCell ⟨O,0,none⟩ (.slice aD2 nD2 cD2)).heap[O]?=some (.cells #[.slice aD2 nD2 cD2,.slice aU' nU' cU',.int .i64 k,.slice aT' nT cT'] 33 (0,0))):=HO7.out.out;have HF:Hid (WPV w.heap.size ((w6.setCell ⟨O,0,none⟩ (.slice aD2 nD2 cD2)).setRow (w.heap.size+2) #[.bool true,.slice aD2 nD2 cD2,.slice aU' nU' cU',.int .i64 k,.slice aT' nT cT']) (.agg #[.bool true,.slice aD2 nD2 cD2,.slice aU' nU' cU',.int .i64 k,.slice aT' nT cT']) (apF D U k T nT 2 a 1)∧Below w.heap.size w ((w6.setCell ⟨O,0,none⟩ (.slice aD2 nD2 cD2)).setRow (w.heap.size+2) #[.bool true,.slice aD2 nD2 cD2,.slice aU' nU' cU',.int .i64 k,.slice aT' nT cT'])):=by
     have hw:Wr (w.heap.size+2) (w6.setCell ⟨O,0,none⟩ (.slice aD2 nD2 cD2)) ((w6.setCell ⟨O,0,none⟩ (.slice aD2 nD2 cD2)).setRow (w.heap.size+2) #[.bool true,.slice aD2 nD2 cD2,.slice aU' nU' cU',.int .i64 k,.slice aT' nT cT']):=Wr.setRow _ _ _;refine⟨?_,HO7.out.sx.below.trans (hw.below (by omega))⟩;rw[HR.out];exact⟨_,_,_,_,_,_,_,_,_,rfl,HK7.out.1.1.wrR hw HK7.out.1.2,HK7.out.2.1.1.wrR hw HK7.out.2.1.2,HK7.out.2.2.1.wrR hw HK7.out.2.2.2,HNU6.out,HND.out.2.1,HND.out.2.2,fun ad e=>⟨by have:=(HK7.out.1.2 ad e).1;omega,by rw[hw.size];exact(HK7.out.1.2 ad e).2.2⟩,fun ad e=>⟨by have:=(HK7.out.2.1.2 ad e).1;omega,by rw[hw.size];exact(HK7.out.2.1.2 ad e).2.2⟩,fun ad e=>⟨by have:=(HK7.out.2.2.2 ad e).1;omega,by rw[hw.size];exact(HK7.out.2.2.2 ad e).2.2⟩,HCC.out.1,HCC.out.2⟩
    go_upto_region 15 with fail
    generalize (w6.setCell ⟨O,0,none⟩ (.slice aD2 nD2 cD2))=wz at *;go_wp2_with (first
     |(refine wpList_load_row rfl 33 (.tmp 5) rfl O rfl 33 _ (0,0) _ HOB.out Tryz.underlying33 rfl HSZ.out ?_)
     |(refine wpList_store_row rfl 60 (.tmp 4) (.tmp 80) rfl (w.heap.size+2) #[.bool true,.slice aD2 nD2 cD2,.slice aU' nU' cU',.int .i64 k,.slice aT' nT cT'] rfl rfl 60 _ HRB.out HRZ.out rfl (by simp[Value.oneCell']) ?_)
     |fail)
    exact bodyPost_ret (v:=.agg #[.bool true,.slice aD2 nD2 cD2,.slice aU' nU' cU',.int .i64 k,.slice aT' nT cT']) (results_cell_row rfl _ _ (w.heap.size+2) 60 _ (0,0) _ rfl (setRow_heap _ _ _ _ _ _ HRB.out) Tryz.underlying60 rfl HRZ.out) rfl ⟨_,rfl,HF.out.1,HF.out.2⟩
   by_cases hc0:b=0∧a<256∧(a:Int)∈D
   ·have HR:Hid (apF D U k T nT 2 a b=⟨true,lessS D a,U,k,T,nT⟩):=by show _=_;rw[HAR.out,hc0.1,apR_rem hc0.2]
    obtain⟨hb1,h256',hd⟩:=hc0;subst hb1;have HMD:Hid (memB (a:Int) D=true):=memB_yes hd;clear hd hc;go_wp2_with fail;refine(holds_any _ _ _ D _ _ HLN.out.1 mD HAD.out.1).mono ?_;rintro e w5 ⟨rfl,rfl⟩;rw[HMD.out];go_wp2_with fail;refine(less_any _ _ _ D a _ HLN.out.1 mD HAD.out.1).mono ?_;rintro e w6 ⟨v6,rfl,hv6,hb6⟩;obtain⟨aD2,nD2,cD2,rfl⟩:=hv6.form;have HO6:Hid (OX w #[.slice aD nD cD,.slice aU nU cU,.int .i64 k,.slice aT nT cT] #[.int .u32 seq,.int .i64 2,.int .u32 a,.int .u32 0] O #[.slice aD' nD' cD',.slice aU' nU' cU',.int .i64 k,.slice aT' nT cT'] w6):=HO.out.call hb6;have HKU6:Hid (LK (w.heap.size+3) O w6 aU' U):=HKU.out.below hb6;have HKT6:Hid (LK (w.heap.size+3) O w6 aT' T):=HKT.out.below hb6;have HKD6:Hid (LK (w.heap.size+3) O w6 aD2 (lessS D a)):=hv6.lk (by have:=HON.out;omega) (.inl HON.out.2);have HNU6:Hid ((lessS D a).length=nD2):=hv6.sat.2.1;have v1:w6.cell? ⟨O,0,none⟩=some (.slice aD' nD' cD'):=by rw[cell_of_row w6 _ 0 _ _ _ HO6.out.out];rfl
    have g1:=frozen_of_row w6 O 0 _ _ HO6.out.out;have hw7:Wr O w6 (w6.setCell ⟨O,0,none⟩ (.slice aD2 nD2 cD2)):=(Wr.refl _ _).setCell _ _;have HO7:Hid (OX w #[.slice aD nD cD,.slice aU nU cU,.int .i64 k,.slice aT nT cT] #[.int .u32 seq,.int .i64 2,.int .u32 a,.int .u32 0] O #[.slice aD2 nD2 cD2,.slice aU' nU' cU',.int .i64 k,.slice aT' nT cT'] (w6.setCell ⟨O,0,none⟩ (.slice aD2 nD2 cD2))):=HO6.out.put 0 _;have HK7:Hid (LK (w.heap.size+3) O (w6.setCell ⟨O,0,none⟩ (.slice aD2 nD2 cD2)) aD2 (lessS D a)∧LK (w.heap.size+3) O (w6.setCell ⟨O,0,none⟩ (.slice aD2 nD2 cD2)) aU' U∧LK (w.heap.size+3) O (w6.setCell ⟨O,0,none⟩ (.slice aD2 nD2 cD2)) aT' T):=⟨HKD6.out.wr hw7,HKU6.out.wr hw7,HKT6.out.wr hw7⟩
    clear hv6 hb6 s0 s1 s2 s3 f1 f2 f3 HKD HKU HKT HTO HAD hw7 HO6 HKU6 HKT6 HKD6;have HRB:Hid ((w6.setCell ⟨O,0,none⟩ (.slice aD2 nD2 cD2)).heap[w.heap.size+2]?=some (.cells #[.bool false,.slice none 0 0,.slice none 0 0,.int .i64 0,.slice none 0 0] 60 (0,0))):=HO7.out.sx.rb;have HOB:Hid ((w6.setCell ⟨O,0,none⟩ (.slice aD2 nD2 cD2)).heap[O]?=some (.cells #[.slice aD2 nD2 cD2,.slice aU' nU' cU',.int .i64 k,.slice aT' nT cT'] 33 (0,0))):=HO7.out.out;have HF:Hid (WPV w.heap.size ((w6.setCell ⟨O,0,none⟩ (.slice aD2 nD2 cD2)).setRow (w.heap.size+2) #[.bool true,.slice aD2 nD2 cD2,.slice aU' nU' cU',.int .i64 k,.slice aT' nT cT']) (.agg #[.bool true,.slice aD2 nD2 cD2,.slice aU' nU' cU',.int .i64 k,.slice aT' nT cT']) (apF D U k T nT 2 a 0)∧Below w.heap.size w ((w6.setCell ⟨O,0,none⟩ (.slice aD2 nD2 cD2)).setRow (w.heap.size+2) #[.bool true,.slice aD2 nD2 cD2,.slice aU' nU' cU',.int .i64 k,.slice aT' nT cT'])):=by
     have hw:Wr (w.heap.size+2) (w6.setCell ⟨O,0,none⟩ (.slice aD2 nD2 cD2)) ((w6.setCell ⟨O,0,none⟩ (.slice aD2 nD2 cD2)).setRow (w.heap.size+2) #[.bool true,.slice aD2 nD2 cD2,.slice aU' nU' cU',.int .i64 k,.slice aT' nT cT']):=Wr.setRow _ _ _;refine⟨?_,HO7.out.sx.below.trans (hw.below (by omega))⟩;rw[HR.out];exact⟨_,_,_,_,_,_,_,_,_,rfl,HK7.out.1.1.wrR hw HK7.out.1.2,HK7.out.2.1.1.wrR hw HK7.out.2.1.2,HK7.out.2.2.1.wrR hw HK7.out.2.2.2,HNU6.out,HND.out.2.1,HND.out.2.2,fun ad e=>⟨by have:=(HK7.out.1.2 ad e).1;omega,by rw[hw.size];exact(HK7.out.1.2 ad e).2.2⟩,fun ad e=>⟨by have:=(HK7.out.2.1.2 ad e).1;omega,by rw[hw.size];exact(HK7.out.2.1.2 ad e).2.2⟩,fun ad e=>⟨by have:=(HK7.out.2.2.2 ad e).1;omega,by rw[hw.size];exact(HK7.out.2.2.2 ad e).2.2⟩,HCC.out.1,HCC.out.2⟩
    go_upto_region 18 with fail
    generalize (w6.setCell ⟨O,0,none⟩ (.slice aD2 nD2 cD2))=wz at *;go_wp2_with (first
     |(refine wpList_load_row rfl 33 (.tmp 5) rfl O rfl 33 _ (0,0) _ HOB.out Tryz.underlying33 rfl HSZ.out ?_)
     |(refine wpList_store_row rfl 60 (.tmp 4) (.tmp 96) rfl (w.heap.size+2) #[.bool true,.slice aD2 nD2 cD2,.slice aU' nU' cU',.int .i64 k,.slice aT' nT cT'] rfl rfl 60 _ HRB.out HRZ.out rfl (by simp[Value.oneCell']) ?_)
     |fail)
    exact bodyPost_ret (v:=.agg #[.bool true,.slice aD2 nD2 cD2,.slice aU' nU' cU',.int .i64 k,.slice aT' nT cT']) (results_cell_row rfl _ _ (w.heap.size+2) 60 _ (0,0) _ rfl (setRow_heap _ _ _ _ _ _ HRB.out) Tryz.underlying60 rfl HRZ.out) rfl ⟨_,rfl,HF.out.1,HF.out.2⟩
   ·have HAN:Hid (apF D U k T nT 2 a b=apNo):=by show _=_;rw[HAR.out,apR_denyNo hc hc0]
    have HX4:Hid (SX w #[.slice aD nD cD,.slice aU nU cU,.int .i64 k,.slice aT nT cT] #[.int .u32 seq,.int .i64 2,.int .u32 a,.int .u32 b] w4):=HO.out.sx;by_cases hb1:b=1
    ·subst hb1;by_cases h256':a<256
     ·have h256:(a:Int)<256:=by omega
      by_cases hd:(a:Int)∈D
      ·have HMD:Hid (memB (a:Int) D=true):=memB_yes hd;clear hd hc hc0;go_wp2_with fail;refine(holds_any _ _ _ D _ _ HLN.out.1 mD HAD.out.1).mono ?_;rintro e w5 ⟨rfl,rfl⟩;rw[HMD.out];have HFN:Hid (apF D U k T nT 2 a 1=apNo):=HAN.out;have HRB:Hid (w5.heap[w.heap.size+2]?=some (.cells #[.bool false,.slice none 0 0,.slice none 0 0,.int .i64 0,.slice none 0 0] 60 (0,0))):=HX4.out.rb;have HF:Hid (WPV w.heap.size (w5.setRow (w.heap.size+2) #[.bool false,.slice none 0 0,.slice none 0 0,.int .i64 0,.slice none 0 0]) (.agg #[.bool false,.slice none 0 0,.slice none 0 0,.int .i64 0,.slice none 0 0]) (apF D U k T nT 2 a 1)∧Below w.heap.size w (w5.setRow (w.heap.size+2) #[.bool false,.slice none 0 0,.slice none 0 0,.int .i64 0,.slice none 0 0])):=⟨by rw[HFN.out];exact WPV.no _ _,HX4.out.below.trans ((Wr.setRow _ _ _).below (by omega))⟩
       go_upto_region 25 with fail
       go_wp2_with (first
        |(refine wpList_store_row rfl 60 (.tmp 4) (.tmp 130) rfl (w.heap.size+2) #[.bool false,.slice none 0 0,.slice none 0 0,.int .i64 0,.slice none 0 0] rfl rfl 60 _ HRB.out HRZ.out rfl (by simp[Value.oneCell']) ?_)
        |fail)
       exact bodyPost_ret (v:=.agg #[.bool false,.slice none 0 0,.slice none 0 0,.int .i64 0,.slice none 0 0]) (results_cell_row rfl _ _ (w.heap.size+2) 60 _ (0,0) _ rfl (setRow_heap _ _ _ _ _ _ HRB.out) Tryz.underlying60 rfl HRZ.out) rfl ⟨_,rfl,HF.out.1,HF.out.2⟩
      ·have h16':¬ ((nD:Int)<16):=fun h=>hc ⟨rfl,h256',hd,by rw[HLN.out.1];omega⟩
       have HMD:Hid (memB (a:Int) D=false):=memB_no hd;clear hd hc hc0;go_wp2_with fail;refine(holds_any _ _ _ D _ _ HLN.out.1 mD HAD.out.1).mono ?_;rintro e w5 ⟨rfl,rfl⟩;rw[HMD.out];have HFN:Hid (apF D U k T nT 2 a 1=apNo):=HAN.out;have HRB:Hid (w5.heap[w.heap.size+2]?=some (.cells #[.bool false,.slice none 0 0,.slice none 0 0,.int .i64 0,.slice none 0 0] 60 (0,0))):=HX4.out.rb;have HF:Hid (WPV w.heap.size (w5.setRow (w.heap.size+2) #[.bool false,.slice none 0 0,.slice none 0 0,.int .i64 0,.slice none 0 0]) (.agg #[.bool false,.slice none 0 0,.slice none 0 0,.int .i64 0,.slice none 0 0]) (apF D U k T nT 2 a 1)∧Below w.heap.size w (w5.setRow (w.heap.size+2) #[.bool false,.slice none 0 0,.slice none 0 0,.int .i64 0,.slice none 0 0])):=⟨by rw[HFN.out];exact WPV.no _ _,HX4.out.below.trans ((Wr.setRow _ _ _).below (by omega))⟩
       go_upto_region 25 with fail
       go_wp2_with (first
        |(refine wpList_store_row rfl 60 (.tmp 4) (.tmp 130) rfl (w.heap.size+2) #[.bool false,.slice none 0 0,.slice none 0 0,.int .i64 0,.slice none 0 0] rfl rfl 60 _ HRB.out HRZ.out rfl (by simp[Value.oneCell']) ?_)
        |fail)
       exact bodyPost_ret (v:=.agg #[.bool false,.slice none 0 0,.slice none 0 0,.int .i64 0,.slice none 0 0]) (results_cell_row rfl _ _ (w.heap.size+2) 60 _ (0,0) _ rfl (setRow_heap _ _ _ _ _ _ HRB.out) Tryz.underlying60 rfl HRZ.out) rfl ⟨_,rfl,HF.out.1,HF.out.2⟩
     ·have h256:¬ ((a:Int)<256):=by omega
      clear hc hc0;have HFN:Hid (apF D U k T nT 2 a 1=apNo):=HAN.out;have HRB:Hid (w4.heap[w.heap.size+2]?=some (.cells #[.bool false,.slice none 0 0,.slice none 0 0,.int .i64 0,.slice none 0 0] 60 (0,0))):=HX4.out.rb;have HF:Hid (WPV w.heap.size (w4.setRow (w.heap.size+2) #[.bool false,.slice none 0 0,.slice none 0 0,.int .i64 0,.slice none 0 0]) (.agg #[.bool false,.slice none 0 0,.slice none 0 0,.int .i64 0,.slice none 0 0]) (apF D U k T nT 2 a 1)∧Below w.heap.size w (w4.setRow (w.heap.size+2) #[.bool false,.slice none 0 0,.slice none 0 0,.int .i64 0,.slice none 0 0])):=⟨by rw[HFN.out];exact WPV.no _ _,HX4.out.below.trans ((Wr.setRow _ _ _).below (by omega))⟩
      go_upto_region 25 with fail
      go_wp2_with (first
       |(refine wpList_store_row rfl 60 (.tmp 4) (.tmp 130) rfl (w.heap.size+2) #[.bool false,.slice none 0 0,.slice none 0 0,.int .i64 0,.slice none 0 0] rfl rfl 60 _ HRB.out HRZ.out rfl (by simp[Value.oneCell']) ?_)
       |fail)
      exact bodyPost_ret (v:=.agg #[.bool false,.slice none 0 0,.slice none 0 0,.int .i64 0,.slice none 0 0]) (results_cell_row rfl _ _ (w.heap.size+2) 60 _ (0,0) _ rfl (setRow_heap _ _ _ _ _ _ HRB.out) Tryz.underlying60 rfl HRZ.out) rfl ⟨_,rfl,HF.out.1,HF.out.2⟩
    ·by_cases hb0:b=0
     ·subst hb0;have hd:¬ (a:Int)∈D:=fun h=>hc0 ⟨rfl,by have:=HSD.out _ h;omega,h⟩
      have HMD:Hid (memB (a:Int) D=false):=memB_no hd;clear hd hc hc0 hb1;go_wp2_with fail;refine(holds_any _ _ _ D _ _ HLN.out.1 mD HAD.out.1).mono ?_;rintro e w5 ⟨rfl,rfl⟩;rw[HMD.out];have HFN:Hid (apF D U k T nT 2 a 0=apNo):=HAN.out;have HRB:Hid (w5.heap[w.heap.size+2]?=some (.cells #[.bool false,.slice none 0 0,.slice none 0 0,.int .i64 0,.slice none 0 0] 60 (0,0))):=HX4.out.rb;have HF:Hid (WPV w.heap.size (w5.setRow (w.heap.size+2) #[.bool false,.slice none 0 0,.slice none 0 0,.int .i64 0,.slice none 0 0]) (.agg #[.bool false,.slice none 0 0,.slice none 0 0,.int .i64 0,.slice none 0 0]) (apF D U k T nT 2 a 0)∧Below w.heap.size w (w5.setRow (w.heap.size+2) #[.bool false,.slice none 0 0,.slice none 0 0,.int .i64 0,.slice none 0 0])):=⟨by rw[HFN.out];exact WPV.no _ _,HX4.out.below.trans ((Wr.setRow _ _ _).below (by omega))⟩
      go_upto_region 25 with fail
      go_wp2_with (first
       |(refine wpList_store_row rfl 60 (.tmp 4) (.tmp 130) rfl (w.heap.size+2) #[.bool false,.slice none 0 0,.slice none 0 0,.int .i64 0,.slice none 0 0] rfl rfl 60 _ HRB.out HRZ.out rfl (by simp[Value.oneCell']) ?_)
       |fail)
      exact bodyPost_ret (v:=.agg #[.bool false,.slice none 0 0,.slice none 0 0,.int .i64 0,.slice none 0 0]) (results_cell_row rfl _ _ (w.heap.size+2) 60 _ (0,0) _ rfl (setRow_heap _ _ _ _ _ _ HRB.out) Tryz.underlying60 rfl HRZ.out) rfl ⟨_,rfl,HF.out.1,HF.out.2⟩
     ·have hb1':¬ ((b:Int)=1):=by omega
      have hb0':¬ ((b:Int)=0):=by omega
      clear hc hc0;have HFN:Hid (apF D U k T nT 2 a b=apNo):=HAN.out;have HRB:Hid (w4.heap[w.heap.size+2]?=some (.cells #[.bool false,.slice none 0 0,.slice none 0 0,.int .i64 0,.slice none 0 0] 60 (0,0))):=HX4.out.rb;have HF:Hid (WPV w.heap.size (w4.setRow (w.heap.size+2) #[.bool false,.slice none 0 0,.slice none 0 0,.int .i64 0,.slice none 0 0]) (.agg #[.bool false,.slice none 0 0,.slice none 0 0,.int .i64 0,.slice none 0 0]) (apF D U k T nT 2 a b)∧Below w.heap.size w (w4.setRow (w.heap.size+2) #[.bool false,.slice none 0 0,.slice none 0 0,.int .i64 0,.slice none 0 0])):=⟨by rw[HFN.out];exact WPV.no _ _,HX4.out.below.trans ((Wr.setRow _ _ _).below (by omega))⟩
      go_upto_region 25 with fail
      go_wp2_with (first
       |(refine wpList_store_row rfl 60 (.tmp 4) (.tmp 130) rfl (w.heap.size+2) #[.bool false,.slice none 0 0,.slice none 0 0,.int .i64 0,.slice none 0 0] rfl rfl 60 _ HRB.out HRZ.out rfl (by simp[Value.oneCell']) ?_)
       |fail)
      exact bodyPost_ret (v:=.agg #[.bool false,.slice none 0 0,.slice none 0 0,.int .i64 0,.slice none 0 0]) (results_cell_row rfl _ _ (w.heap.size+2) 60 _ (0,0) _ rfl (setRow_heap _ _ _ _ _ _ HRB.out) Tryz.underlying60 rfl HRZ.out) rfl ⟨_,rfl,HF.out.1,HF.out.2⟩
  by_cases k3:kind=3
  ·subst k3;clear k1 k2;by_cases hc:b=0∧(a:Int)≤k+nT
   ·have HR:Hid (apF D U k T nT 3 a b=⟨true,D,U,max a k,T.drop (ackM k a*2),nT-ackM k a⟩):=by show _=_;rw[HAR.out,hc.1,apR_ack hc.2]
    obtain⟨hb0,hle⟩:=hc;subst hb0;by_cases hgt:k<(a:Int)
    ·obtain⟨m,hm⟩:∃ m:Nat,(a:Int)=k+m:=⟨(a-k).toNat,by omega⟩
     have hmn:m≤nT:=by omega
     have e:ackM k a=m:=by unfold ackM;omega
     have HR2:Hid (apF D U k T nT 3 a 0=⟨true,D,U,(a:Int),T.drop (m*2),nT-m⟩):=by
      show _=_
      rw[HR.out,e,show max (a:Int) k=a by omega]
     have hsub:(a:Int)-k=m:=by omega
     obtain⟨t0,o0,eT,ht0,hct0⟩:=HAD.out.2.2.get (by rw[HND.out.2.2];omega);subst eT;have HCT:Hid (t0<w4.heap.size∧∀ i,i<T.length→w4.cell? ⟨t0,o0+i,none⟩=some (.int .i64 (T.getD i 0))):=⟨ht0,hct0⟩
     have HEM:Hid (EmS (w.heap.size+3) 77 (w4.alloc (.cells #[] 77)) (.slice (some ⟨w4.heap.size,0,none⟩) 0 0)):=EmS.new _ w4 (by have:=HON.out;omega);have HLD:Hid ((T.drop (m*2)).length=(nT-m)*2):=by show _=_;rw[List.length_drop,HND.out.2.2];omega
     have HMN:Hid (nT-m≤1048576):=by show _≤_;omega
     have HS5:Hid (w.heap.size+3≤(w4.alloc (.cells #[] 77)).heap.size):=by show _≤_;have:=HON.out;simp;omega
     have z3:(w4.alloc (.cells #[] 77)).cell? ⟨w.heap.size,3,none⟩=some (.slice (some ⟨t0,o0,none⟩) nT cT):=by rw[World.cell?_alloc_old _ _ _ (by show w.heap.size≠w4.heap.size;have:=HON.out;omega)];exact s3
     have z2:(w4.alloc (.cells #[] 77)).cell? ⟨w.heap.size,2,none⟩=some (.int .i64 k):=by rw[World.cell?_alloc_old _ _ _ (by show w.heap.size≠w4.heap.size;have:=HON.out;omega)];exact s2
     clear hct0 ht0 e hm HR;by_cases hcm2:cT=m
     ·have hnm:nT=m:=by omega
      have HZ:Hid (T.drop (m*2)=[]):=by show _=_;exact List.eq_nil_of_length_eq_zero (by rw[HLD.out];omega)
      subst hcm2;have hb6:Below w4.heap.size w4 (w4.alloc (.cells #[] 77)):=(Below.refl _ _).alloc (Nat.le_refl _) _;have HO6:Hid (OX w #[.slice aD nD cD,.slice aU nU cU,.int .i64 k,.slice (some ⟨t0,o0,none⟩) nT cT] #[.int .u32 seq,.int .i64 3,.int .u32 a,.int .u32 0] O #[.slice aD' nD' cD',.slice aU' nU' cU',.int .i64 k,.slice aT' nT cT'] (w4.alloc (.cells #[] 77))):=HO.out.call hb6;have HK6:Hid (LK (w.heap.size+3) O (w4.alloc (.cells #[] 77)) aD' D∧LK (w.heap.size+3) O (w4.alloc (.cells #[] 77)) aU' U):=⟨HKD.out.below hb6,HKU.out.below hb6⟩
      have HKT6:Hid (LK (w.heap.size+3) O (w4.alloc (.cells #[] 77)) (some ⟨w4.heap.size,0,none⟩) (T.drop (cT*2))):=⟨.inl HZ.out,fun ad e=>by cases e;have:=HON.out;simp;omega⟩
      have HNT:Hid ((T.drop (cT*2)).length=0*2):=by show _=_;rw[HZ.out];rfl
      have v3:(w4.alloc (.cells #[] 77)).cell? ⟨O,3,none⟩=some (.slice aT' nT cT'):=by rw[cell_of_row _ _ 3 _ _ _ HO6.out.out];rfl
      have v2:(w4.alloc (.cells #[] 77)).cell? ⟨O,2,none⟩=some (.int .i64 k):=by rw[cell_of_row _ _ 2 _ _ _ HO6.out.out];rfl
      have g3:=frozen_of_row (w4.alloc (.cells #[] 77)) O 3 _ _ HO6.out.out;have g2:=frozen_of_row (w4.alloc (.cells #[] 77)) O 2 _ _ HO6.out.out;have hw7:Wr O (w4.alloc (.cells #[] 77)) (((w4.alloc (.cells #[] 77)).setCell ⟨O,3,none⟩ (.slice (some ⟨w4.heap.size,0,none⟩) 0 0)).setCell ⟨O,2,none⟩ (.int .i64 (a:Int))):=((Wr.refl _ _).setCell _ _).setCell _ _;have HO7:Hid (OX w #[.slice aD nD cD,.slice aU nU cU,.int .i64 k,.slice (some ⟨t0,o0,none⟩) nT cT] #[.int .u32 seq,.int .i64 3,.int .u32 a,.int .u32 0] O #[.slice aD' nD' cD',.slice aU' nU' cU',.int .i64 (a:Int),.slice (some ⟨w4.heap.size,0,none⟩) 0 0] (((w4.alloc (.cells #[] 77)).setCell ⟨O,3,none⟩ (.slice (some ⟨w4.heap.size,0,none⟩) 0 0)).setCell ⟨O,2,none⟩ (.int .i64 (a:Int)))):=(HO6.out.put 3 _).put 2 _;have HK7:Hid (LK (w.heap.size+3) O (((w4.alloc (.cells #[] 77)).setCell ⟨O,3,none⟩ (.slice (some ⟨w4.heap.size,0,none⟩) 0 0)).setCell ⟨O,2,none⟩ (.int .i64 (a:Int))) aD' D∧LK (w.heap.size+3) O (((w4.alloc (.cells #[] 77)).setCell ⟨O,3,none⟩ (.slice (some ⟨w4.heap.size,0,none⟩) 0 0)).setCell ⟨O,2,none⟩ (.int .i64 (a:Int))) aU' U∧LK (w.heap.size+3) O (((w4.alloc (.cells #[] 77)).setCell ⟨O,3,none⟩ (.slice (some ⟨w4.heap.size,0,none⟩) 0 0)).setCell ⟨O,2,none⟩ (.int .i64 (a:Int))) (some ⟨w4.heap.size,0,none⟩) (T.drop (cT*2))):=⟨HK6.out.1.wr hw7,HK6.out.2.wr hw7,HKT6.out.wr hw7⟩
      clear hb6 HO6 HK6 HKT6 hw7 HKD HKU HKT HTO HAD HEM HS5 HO;have HRB:Hid ((((w4.alloc (.cells #[] 77)).setCell ⟨O,3,none⟩ (.slice (some ⟨w4.heap.size,0,none⟩) 0 0)).setCell ⟨O,2,none⟩ (.int .i64 (a:Int))).heap[w.heap.size+2]?=some (.cells #[.bool false,.slice none 0 0,.slice none 0 0,.int .i64 0,.slice none 0 0] 60 (0,0))):=HO7.out.sx.rb;have HOB:Hid ((((w4.alloc (.cells #[] 77)).setCell ⟨O,3,none⟩ (.slice (some ⟨w4.heap.size,0,none⟩) 0 0)).setCell ⟨O,2,none⟩ (.int .i64 (a:Int))).heap[O]?=some (.cells #[.slice aD' nD' cD',.slice aU' nU' cU',.int .i64 (a:Int),.slice (some ⟨w4.heap.size,0,none⟩) 0 0] 33 (0,0))):=HO7.out.out;have HF:Hid (WPV w.heap.size ((((w4.alloc (.cells #[] 77)).setCell ⟨O,3,none⟩ (.slice (some ⟨w4.heap.size,0,none⟩) 0 0)).setCell ⟨O,2,none⟩ (.int .i64 (a:Int))).setRow (w.heap.size+2) #[.bool true,.slice aD' nD' cD',.slice aU' nU' cU',.int .i64 (a:Int),.slice (some ⟨w4.heap.size,0,none⟩) 0 0]) (.agg #[.bool true,.slice aD' nD' cD',.slice aU' nU' cU',.int .i64 (a:Int),.slice (some ⟨w4.heap.size,0,none⟩) 0 0]) (apF D U k T nT 3 a 0)∧Below w.heap.size w ((((w4.alloc (.cells #[] 77)).setCell ⟨O,3,none⟩ (.slice (some ⟨w4.heap.size,0,none⟩) 0 0)).setCell ⟨O,2,none⟩ (.int .i64 (a:Int))).setRow (w.heap.size+2) #[.bool true,.slice aD' nD' cD',.slice aU' nU' cU',.int .i64 (a:Int),.slice (some ⟨w4.heap.size,0,none⟩) 0 0])):=by
       have hw:Wr (w.heap.size+2) (((w4.alloc (.cells #[] 77)).setCell ⟨O,3,none⟩ (.slice (some ⟨w4.heap.size,0,none⟩) 0 0)).setCell ⟨O,2,none⟩ (.int .i64 (a:Int))) ((((w4.alloc (.cells #[] 77)).setCell ⟨O,3,none⟩ (.slice (some ⟨w4.heap.size,0,none⟩) 0 0)).setCell ⟨O,2,none⟩ (.int .i64 (a:Int))).setRow (w.heap.size+2) #[.bool true,.slice aD' nD' cD',.slice aU' nU' cU',.int .i64 (a:Int),.slice (some ⟨w4.heap.size,0,none⟩) 0 0]):=Wr.setRow _ _ _;refine⟨?_,HO7.out.sx.below.trans (hw.below (by omega))⟩;rw[HR2.out];exact⟨_,_,_,_,_,_,_,_,_,rfl,HK7.out.1.1.wrR hw HK7.out.1.2,HK7.out.2.1.1.wrR hw HK7.out.2.1.2,HK7.out.2.2.1.wrR hw HK7.out.2.2.2,HND.out.1,HND.out.2.1,HNT.out,fun ad e=>⟨by have:=(HK7.out.1.2 ad e).1;omega,by rw[hw.size];exact(HK7.out.1.2 ad e).2.2⟩,fun ad e=>⟨by have:=(HK7.out.2.1.2 ad e).1;omega,by rw[hw.size];exact(HK7.out.2.1.2 ad e).2.2⟩,fun ad e=>⟨by have:=(HK7.out.2.2.2 ad e).1;omega,by rw[hw.size];exact(HK7.out.2.2.2 ad e).2.2⟩,by decide,by decide⟩
      go_upto_region 24 with fail
      generalize (((w4.alloc (.cells #[] 77)).setCell ⟨O,3,none⟩ (.slice (some ⟨w4.heap.size,0,none⟩) 0 0)).setCell ⟨O,2,none⟩ (.int .i64 (a:Int)))=wz at *;go_wp2_with (first
       |(refine wpList_load_row rfl 33 (.tmp 5) rfl O rfl 33 _ (0,0) _ HOB.out Tryz.underlying33 rfl HSZ.out ?_)
       |(refine wpList_store_row rfl 60 (.tmp 4) (.tmp 129) rfl (w.heap.size+2) #[.bool true,.slice aD' nD' cD',.slice aU' nU' cU',.int .i64 (a:Int),.slice (some ⟨w4.heap.size,0,none⟩) 0 0] rfl rfl 60 _ HRB.out HRZ.out rfl (by simp[Value.oneCell']) ?_)
       |fail)
      exact bodyPost_ret (v:=.agg #[.bool true,.slice aD' nD' cD',.slice aU' nU' cU',.int .i64 (a:Int),.slice (some ⟨w4.heap.size,0,none⟩) 0 0]) (results_cell_row rfl _ _ (w.heap.size+2) 60 _ (0,0) _ rfl (setRow_heap _ _ _ _ _ _ HRB.out) Tryz.underlying60 rfl HRZ.out) rfl ⟨_,rfl,HF.out.1,HF.out.2⟩
     ·have HDR:Hid (At .i64 w4 (some ⟨t0,o0+m*2,none⟩) (T.drop (m*2))):=.inr ⟨t0,o0+m*2,rfl,HCT.out.1,fun i hi=>by
       rw[List.length_drop] at hi;have:=HCT.out.2 (m*2+i) (by omega);rw[←Nat.add_assoc] at this;rw[this];simp[List.getD]⟩
      have HAT5:Hid (At .i64 (w4.alloc (.cells #[] 77)) (some ⟨t0,o0+m*2,none⟩) (T.drop (m*2))):=At.below (HDR.out) ((Below.refl _ _).alloc (Nat.le_refl _) _);go_wp2_with (first
       |(refine wpList_appG 31 77 (.agg #[.int .i64 0,.int .i64 0]) 2 16 Tryz.infoTap Tryz.underlying31 rfl (by decide) (by decide) _ rfl (.tmp 116) (.tmp 123) rfl (w.heap.size+3) _ rfl HEM.out (some ⟨t0,o0+m*2,none⟩) (nT-m) (cT-m) (T.drop (m*2)) rfl HLD.out HAT5.out HMN.out HS5.out ?_)
       |fail)
      intro v6 w6 h1 h2;have h1':TapO (w.heap.size+3) w6 v6 (T.drop (m*2)) (nT-m):=by unfold TapO;rw[List.map_drop];exact h1
      obtain⟨aT2,cT2,rfl⟩:=h1'.tapV.slice;have HC2:Hid (nT-m≤cT2∧cT2≤9223372036854775807):=h1'.cap;have hb6:Below w4.heap.size w4 w6:=((Below.refl _ _).alloc (Nat.le_refl _) _).trans (h2.mono (by simp));have HO6:Hid (OX w #[.slice aD nD cD,.slice aU nU cU,.int .i64 k,.slice (some ⟨t0,o0,none⟩) nT cT] #[.int .u32 seq,.int .i64 3,.int .u32 a,.int .u32 0] O #[.slice aD' nD' cD',.slice aU' nU' cU',.int .i64 k,.slice aT' nT cT'] w6):=HO.out.call hb6;have HK6:Hid (LK (w.heap.size+3) O w6 aD' D∧LK (w.heap.size+3) O w6 aU' U):=⟨HKD.out.below hb6,HKU.out.below hb6⟩
      have HKT6:Hid (LK (w.heap.size+3) O w6 aT2 (T.drop (m*2))):=by
       obtain⟨q1,q2,q3⟩:=h1'.tapV.sat;refine⟨q1.at_,fun ad e=>⟨(q3 ad e).1,fun eo=>?_,(q3 ad e).2⟩⟩;rcases h1'.2 with⟨e2,_⟩|⟨g',cap',cur',e2,_,hh',_⟩
       ·injection e2 with e5
        rw[e5] at e;cases e
       ·injection e2 with e5
        rw[e5] at e;cases e;have h9:=HO6.out.out;rw[←eo,hh'] at h9;injection h9 with e3
        injection e3 with _ e4 _
        exact absurd e4 (by decide)
      have HNT:Hid ((T.drop (m*2)).length=(nT-m)*2):=HLD.out;have v3:w6.cell? ⟨O,3,none⟩=some (.slice aT' nT cT'):=by rw[cell_of_row w6 _ 3 _ _ _ HO6.out.out];rfl
      have v2:w6.cell? ⟨O,2,none⟩=some (.int .i64 k):=by rw[cell_of_row w6 _ 2 _ _ _ HO6.out.out];rfl
      have g3:=frozen_of_row w6 O 3 _ _ HO6.out.out;have g2:=frozen_of_row w6 O 2 _ _ HO6.out.out;have hw7:Wr O w6 ((w6.setCell ⟨O,3,none⟩ (.slice aT2 (nT-m:Nat) cT2)).setCell ⟨O,2,none⟩ (.int .i64 (a:Int))):=((Wr.refl _ _).setCell _ _).setCell _ _;have HO7:Hid (OX w #[.slice aD nD cD,.slice aU nU cU,.int .i64 k,.slice (some ⟨t0,o0,none⟩) nT cT] #[.int .u32 seq,.int .i64 3,.int .u32 a,.int .u32 0] O #[.slice aD' nD' cD',.slice aU' nU' cU',.int .i64 (a:Int),.slice aT2 (nT-m:Nat) cT2] ((w6.setCell ⟨O,3,none⟩ (.slice aT2 (nT-m:Nat) cT2)).setCell ⟨O,2,none⟩ (.int .i64 (a:Int)))):=(HO6.out.put 3 _).put 2 _;have HK7:Hid (LK (w.heap.size+3) O ((w6.setCell ⟨O,3,none⟩ (.slice aT2 (nT-m:Nat) cT2)).setCell ⟨O,2,none⟩ (.int .i64 (a:Int))) aD' D∧LK (w.heap.size+3) O ((w6.setCell ⟨O,3,none⟩ (.slice aT2 (nT-m:Nat) cT2)).setCell ⟨O,2,none⟩ (.int .i64 (a:Int))) aU' U∧LK (w.heap.size+3) O ((w6.setCell ⟨O,3,none⟩ (.slice aT2 (nT-m:Nat) cT2)).setCell ⟨O,2,none⟩ (.int .i64 (a:Int))) aT2 (T.drop (m*2))):=⟨HK6.out.1.wr hw7,HK6.out.2.wr hw7,HKT6.out.wr hw7⟩
      clear h1 h1' h2 hb6 HO6 HK6 HKT6 hw7 z2 z3 s0 s1 s2 s3 f1 f2 f3 HKD HKU HKT HTO HAD HAT5 HEM HS5 HO;have HRB:Hid (((w6.setCell ⟨O,3,none⟩ (.slice aT2 (nT-m:Nat) cT2)).setCell ⟨O,2,none⟩ (.int .i64 (a:Int))).heap[w.heap.size+2]?=some (.cells #[.bool false,.slice none 0 0,.slice none 0 0,.int .i64 0,.slice none 0 0] 60 (0,0))):=HO7.out.sx.rb;have HOB:Hid (((w6.setCell ⟨O,3,none⟩ (.slice aT2 (nT-m:Nat) cT2)).setCell ⟨O,2,none⟩ (.int .i64 (a:Int))).heap[O]?=some (.cells #[.slice aD' nD' cD',.slice aU' nU' cU',.int .i64 (a:Int),.slice aT2 (nT-m:Nat) cT2] 33 (0,0))):=HO7.out.out;have HF:Hid (WPV w.heap.size (((w6.setCell ⟨O,3,none⟩ (.slice aT2 (nT-m:Nat) cT2)).setCell ⟨O,2,none⟩ (.int .i64 (a:Int))).setRow (w.heap.size+2) #[.bool true,.slice aD' nD' cD',.slice aU' nU' cU',.int .i64 (a:Int),.slice aT2 (nT-m:Nat) cT2]) (.agg #[.bool true,.slice aD' nD' cD',.slice aU' nU' cU',.int .i64 (a:Int),.slice aT2 (nT-m:Nat) cT2]) (apF D U k T nT 3 a 0)∧Below w.heap.size w (((w6.setCell ⟨O,3,none⟩ (.slice aT2 (nT-m:Nat) cT2)).setCell ⟨O,2,none⟩ (.int .i64 (a:Int))).setRow (w.heap.size+2) #[.bool true,.slice aD' nD' cD',.slice aU' nU' cU',.int .i64 (a:Int),.slice aT2 (nT-m:Nat) cT2])):=by
       have hw:Wr (w.heap.size+2) ((w6.setCell ⟨O,3,none⟩ (.slice aT2 (nT-m:Nat) cT2)).setCell ⟨O,2,none⟩ (.int .i64 (a:Int))) (((w6.setCell ⟨O,3,none⟩ (.slice aT2 (nT-m:Nat) cT2)).setCell ⟨O,2,none⟩ (.int .i64 (a:Int))).setRow (w.heap.size+2) #[.bool true,.slice aD' nD' cD',.slice aU' nU' cU',.int .i64 (a:Int),.slice aT2 (nT-m:Nat) cT2]):=Wr.setRow _ _ _;refine⟨?_,HO7.out.sx.below.trans (hw.below (by omega))⟩;rw[HR2.out];exact⟨_,_,_,_,_,_,_,_,_,rfl,HK7.out.1.1.wrR hw HK7.out.1.2,HK7.out.2.1.1.wrR hw HK7.out.2.1.2,HK7.out.2.2.1.wrR hw HK7.out.2.2.2,HND.out.1,HND.out.2.1,HNT.out,fun ad e=>⟨by have:=(HK7.out.1.2 ad e).1;omega,by rw[hw.size];exact(HK7.out.1.2 ad e).2.2⟩,fun ad e=>⟨by have:=(HK7.out.2.1.2 ad e).1;omega,by rw[hw.size];exact(HK7.out.2.1.2 ad e).2.2⟩,fun ad e=>⟨by have:=(HK7.out.2.2.2 ad e).1;omega,by rw[hw.size];exact(HK7.out.2.2.2 ad e).2.2⟩,HC2.out.1,HC2.out.2⟩
      go_upto_region 24 with fail
      generalize ((w6.setCell ⟨O,3,none⟩ (.slice aT2 (nT-m:Nat) cT2)).setCell ⟨O,2,none⟩ (.int .i64 (a:Int)))=wz at *;go_wp2_with (first
       |(refine wpList_load_row rfl 33 (.tmp 5) rfl O rfl 33 _ (0,0) _ HOB.out Tryz.underlying33 rfl HSZ.out ?_)
       |(refine wpList_store_row rfl 60 (.tmp 4) (.tmp 129) rfl (w.heap.size+2) #[.bool true,.slice aD' nD' cD',.slice aU' nU' cU',.int .i64 (a:Int),.slice aT2 (nT-m:Nat) cT2] rfl rfl 60 _ HRB.out HRZ.out rfl (by simp[Value.oneCell']) ?_)
       |fail)
      exact bodyPost_ret (v:=.agg #[.bool true,.slice aD' nD' cD',.slice aU' nU' cU',.int .i64 (a:Int),.slice aT2 (nT-m:Nat) cT2]) (results_cell_row rfl _ _ (w.heap.size+2) 60 _ (0,0) _ rfl (setRow_heap _ _ _ _ _ _ HRB.out) Tryz.underlying60 rfl HRZ.out) rfl ⟨_,rfl,HF.out.1,HF.out.2⟩
    ·have HR2:Hid (apF D U k T nT 3 a 0=⟨true,D,U,k,T,nT⟩):=by
      show _=_
      have e:ackM k a=0:=by unfold ackM;omega
      rw[HR.out,e];simp;omega
     have HRB:Hid (w4.heap[w.heap.size+2]?=some (.cells #[.bool false,.slice none 0 0,.slice none 0 0,.int .i64 0,.slice none 0 0] 60 (0,0))):=HO.out.sx.rb;have HOB:Hid (w4.heap[O]?=some (.cells #[.slice aD' nD' cD',.slice aU' nU' cU',.int .i64 k,.slice aT' nT cT'] 33 (0,0))):=HO.out.out;have HF:Hid (WPV w.heap.size (w4.setRow (w.heap.size+2) #[.bool true,.slice aD' nD' cD',.slice aU' nU' cU',.int .i64 k,.slice aT' nT cT']) (.agg #[.bool true,.slice aD' nD' cD',.slice aU' nU' cU',.int .i64 k,.slice aT' nT cT']) (apF D U k T nT 3 a 0)∧Below w.heap.size w (w4.setRow (w.heap.size+2) #[.bool true,.slice aD' nD' cD',.slice aU' nU' cU',.int .i64 k,.slice aT' nT cT'])):=by
      have hw:Wr (w.heap.size+2) w4 (w4.setRow (w.heap.size+2) #[.bool true,.slice aD' nD' cD',.slice aU' nU' cU',.int .i64 k,.slice aT' nT cT']):=Wr.setRow _ _ _;refine⟨?_,HO.out.sx.below.trans (hw.below (by omega))⟩;rw[HR2.out];exact⟨_,_,_,_,_,_,_,_,_,rfl,HKD.out.1.wrR hw HKD.out.2,HKU.out.1.wrR hw HKU.out.2,HKT.out.1.wrR hw HKT.out.2,HND.out.1,HND.out.2.1,HND.out.2.2,fun ad e=>⟨by have:=(HKD.out.2 ad e).1;omega,by rw[hw.size];exact(HKD.out.2 ad e).2.2⟩,fun ad e=>⟨by have:=(HKU.out.2 ad e).1;omega,by rw[hw.size];exact(HKU.out.2 ad e).2.2⟩,fun ad e=>⟨by have:=(HKT.out.2 ad e).1;omega,by rw[hw.size];exact(HKT.out.2 ad e).2.2⟩,HCC.out.1,HCC.out.2⟩
     go_upto_region 24 with fail
     generalize w4=wz at *;go_wp2_with (first
      |(refine wpList_load_row rfl 33 (.tmp 5) rfl O rfl 33 _ (0,0) _ HOB.out Tryz.underlying33 rfl HSZ.out ?_)
      |(refine wpList_store_row rfl 60 (.tmp 4) (.tmp 129) rfl (w.heap.size+2) #[.bool true,.slice aD' nD' cD',.slice aU' nU' cU',.int .i64 k,.slice aT' nT cT'] rfl rfl 60 _ HRB.out HRZ.out rfl (by simp[Value.oneCell']) ?_)
      |fail)
     exact bodyPost_ret (v:=.agg #[.bool true,.slice aD' nD' cD',.slice aU' nU' cU',.int .i64 k,.slice aT' nT cT']) (results_cell_row rfl _ _ (w.heap.size+2) 60 _ (0,0) _ rfl (setRow_heap _ _ _ _ _ _ HRB.out) Tryz.underlying60 rfl HRZ.out) rfl ⟨_,rfl,HF.out.1,HF.out.2⟩
   ·have HAN:Hid (apF D U k T nT 3 a b=apNo):=by show _=_;rw[HAR.out,apR_ackNo hc]
    have HX4:Hid (SX w #[.slice aD nD cD,.slice aU nU cU,.int .i64 k,.slice aT nT cT] #[.int .u32 seq,.int .i64 3,.int .u32 a,.int .u32 b] w4):=HO.out.sx;by_cases hb0:b=0
    ·subst hb0;have hle:¬ ((a:Int)≤k+nT):=fun h=>hc ⟨rfl,h⟩
     clear hc;have HFN:Hid (apF D U k T nT 3 a 0=apNo):=HAN.out;have HRB:Hid (w4.heap[w.heap.size+2]?=some (.cells #[.bool false,.slice none 0 0,.slice none 0 0,.int .i64 0,.slice none 0 0] 60 (0,0))):=HX4.out.rb;have HF:Hid (WPV w.heap.size (w4.setRow (w.heap.size+2) #[.bool false,.slice none 0 0,.slice none 0 0,.int .i64 0,.slice none 0 0]) (.agg #[.bool false,.slice none 0 0,.slice none 0 0,.int .i64 0,.slice none 0 0]) (apF D U k T nT 3 a 0)∧Below w.heap.size w (w4.setRow (w.heap.size+2) #[.bool false,.slice none 0 0,.slice none 0 0,.int .i64 0,.slice none 0 0])):=⟨by rw[HFN.out];exact WPV.no _ _,HX4.out.below.trans ((Wr.setRow _ _ _).below (by omega))⟩
     go_upto_region 25 with fail
     go_wp2_with (first
      |(refine wpList_store_row rfl 60 (.tmp 4) (.tmp 130) rfl (w.heap.size+2) #[.bool false,.slice none 0 0,.slice none 0 0,.int .i64 0,.slice none 0 0] rfl rfl 60 _ HRB.out HRZ.out rfl (by simp[Value.oneCell']) ?_)
      |fail)
     exact bodyPost_ret (v:=.agg #[.bool false,.slice none 0 0,.slice none 0 0,.int .i64 0,.slice none 0 0]) (results_cell_row rfl _ _ (w.heap.size+2) 60 _ (0,0) _ rfl (setRow_heap _ _ _ _ _ _ HRB.out) Tryz.underlying60 rfl HRZ.out) rfl ⟨_,rfl,HF.out.1,HF.out.2⟩
    ·have hb0':¬ ((b:Int)=0):=by omega
     clear hc;have HFN:Hid (apF D U k T nT 3 a b=apNo):=HAN.out;have HRB:Hid (w4.heap[w.heap.size+2]?=some (.cells #[.bool false,.slice none 0 0,.slice none 0 0,.int .i64 0,.slice none 0 0] 60 (0,0))):=HX4.out.rb;have HF:Hid (WPV w.heap.size (w4.setRow (w.heap.size+2) #[.bool false,.slice none 0 0,.slice none 0 0,.int .i64 0,.slice none 0 0]) (.agg #[.bool false,.slice none 0 0,.slice none 0 0,.int .i64 0,.slice none 0 0]) (apF D U k T nT 3 a b)∧Below w.heap.size w (w4.setRow (w.heap.size+2) #[.bool false,.slice none 0 0,.slice none 0 0,.int .i64 0,.slice none 0 0])):=⟨by rw[HFN.out];exact WPV.no _ _,HX4.out.below.trans ((Wr.setRow _ _ _).below (by omega))⟩
     go_upto_region 25 with fail
     go_wp2_with (first
      |(refine wpList_store_row rfl 60 (.tmp 4) (.tmp 130) rfl (w.heap.size+2) #[.bool false,.slice none 0 0,.slice none 0 0,.int .i64 0,.slice none 0 0] rfl rfl 60 _ HRB.out HRZ.out rfl (by simp[Value.oneCell']) ?_)
      |fail)
     exact bodyPost_ret (v:=.agg #[.bool false,.slice none 0 0,.slice none 0 0,.int .i64 0,.slice none 0 0]) (results_cell_row rfl _ _ (w.heap.size+2) 60 _ (0,0) _ rfl (setRow_heap _ _ _ _ _ _ HRB.out) Tryz.underlying60 rfl HRZ.out) rfl ⟨_,rfl,HF.out.1,HF.out.2⟩
  have HAN:Hid (apF D U k T nT kind a b=apNo):=by show _=_;rw[HAR.out,apR_other k1 k2 k3]
  have HX4:Hid (SX w #[.slice aD nD cD,.slice aU nU cU,.int .i64 k,.slice aT nT cT] #[.int .u32 seq,.int .i64 kind,.int .u32 a,.int .u32 b] w4):=HO.out.sx;have HFN:Hid (apF D U k T nT kind a b=apNo):=HAN.out;have HRB:Hid (w4.heap[w.heap.size+2]?=some (.cells #[.bool false,.slice none 0 0,.slice none 0 0,.int .i64 0,.slice none 0 0] 60 (0,0))):=HX4.out.rb;have HF:Hid (WPV w.heap.size (w4.setRow (w.heap.size+2) #[.bool false,.slice none 0 0,.slice none 0 0,.int .i64 0,.slice none 0 0]) (.agg #[.bool false,.slice none 0 0,.slice none 0 0,.int .i64 0,.slice none 0 0]) (apF D U k T nT kind a b)∧Below w.heap.size w (w4.setRow (w.heap.size+2) #[.bool false,.slice none 0 0,.slice none 0 0,.int .i64 0,.slice none 0 0])):=⟨by rw[HFN.out];exact WPV.no _ _,HX4.out.below.trans ((Wr.setRow _ _ _).below (by omega))⟩
  go_upto_region 25 with fail
  go_wp2_with (first
   |(refine wpList_store_row rfl 60 (.tmp 4) (.tmp 130) rfl (w.heap.size+2) #[.bool false,.slice none 0 0,.slice none 0 0,.int .i64 0,.slice none 0 0] rfl rfl 60 _ HRB.out HRZ.out rfl (by simp[Value.oneCell']) ?_)
   |fail)
  exact bodyPost_ret (v:=.agg #[.bool false,.slice none 0 0,.slice none 0 0,.int .i64 0,.slice none 0 0]) (results_cell_row rfl _ _ (w.heap.size+2) 60 _ (0,0) _ rfl (setRow_heap _ _ _ _ _ _ HRB.out) Tryz.underlying60 rfl HRZ.out) rfl ⟨_,rfl,HF.out.1,HF.out.2⟩
structure SpR where
 c:Int
 D:List Int
 U:List Int
 k:Int
 T:List Int
 n:Nat
noncomputable def opR (D U:List Int) (k:Int) (T:List Int) (n:Nat) (ks:List Int) (kind:Int) (tk:List Int) (now N:Int):SpR:=
 if kind=1 then(if tapC D U ks tk now=1 then ⟨1,D,withS U (tkS tk).toNat,k,T++[tkS tk,now],n+1⟩ else ⟨tapC D U ks tk now,D,U,k,T,n⟩)
 else if kind=2 then(if 0≤N∧N<256 then(if memB N D=true then ⟨9,D,U,k,T,n⟩ else if D.length=16 then ⟨10,D,U,k,T,n⟩ else ⟨9,withS D N.toNat,U,k,T,n⟩) else ⟨10,D,U,k,T,n⟩)
 else if kind=3 then(if 0≤N∧N<256 then(if memB N D=true then ⟨9,lessS D N.toNat,U,k,T,n⟩ else ⟨9,D,U,k,T,n⟩) else ⟨10,D,U,k,T,n⟩)
 else if kind=4 then(if N<k then ⟨10,D,U,k,T,n⟩ else if k+(n:Int)<N then ⟨10,D,U,k,T,n⟩ else if N=k then ⟨9,D,U,k,T,n⟩ else ⟨9,D,U,N,T.drop ((N-k).toNat*2),n-(N-k).toNat⟩)
 else if kind=5 then ⟨9,D,U,k,T,n⟩ else ⟨10,D,U,k,T,n⟩
open Classical in
noncomputable def stR (D U:List Int) (k:Int) (T:List Int) (n:Nat) (ks:List Int) (kind:Int) (tk:List Int) (now N:Int):SpR:=
 if stB D U k T n=true∧ks.length=32 then opR D U k T n ks kind tk now N else ⟨10,D,U,k,T,n⟩
section
variable {D U:List Int} {k:Int} {T:List Int} {n:Nat} {ks:List Int} {kind:Int} {tk:List Int} {now N:Int}
theorem memB_of (h:memB N D=true):N∈D:=by unfold memB at h;simpa using h
theorem memB_not (h:¬ memB N D=true):¬ N∈D:=fun hm=>h (memB_yes hm)
theorem tapC_mem (h:tapC D U ks tk now=1):¬ tkS tk∈D∧¬ tkS tk∈U:=by
 unfold tapC at h;by_cases h0:now<0
 ·rw[if_pos h0] at h;omega
 rw[if_neg h0] at h;by_cases h1:4294967295<now
 ·rw[if_pos h1] at h;omega
 rw[if_neg h1] at h;by_cases h2:tkB tk=false
 ·rw[if_pos h2] at h;omega
 rw[if_neg h2] at h;by_cases h3:256≤tkS tk
 ·rw[if_pos h3] at h;omega
 rw[if_neg h3] at h;by_cases h4:tkE tk<now
 ·rw[if_pos h4] at h;omega
 rw[if_neg h4] at h;by_cases h5:memB (tkS tk) D=true
 ·rw[if_pos h5] at h;omega
 rw[if_neg h5] at h;by_cases h6:memB (tkS tk) U=true
 ·rw[if_pos h6] at h;omega
 exact⟨memB_not h5,memB_not h6⟩
theorem ackM_of (h:k≤N):ackM k N=(N-k).toNat:=by unfold ackM;rw[Int.max_eq_left h]
theorem du_op (hst:stB D U k T n=true) (hz:Byte tk) (h0:0≤k) (h1:k≤1048576) (hn:n≤1048576) (hD:D.length≤16) (hk1:1≤kind) (hk5:kind≤5) :
  ((duR D U k n ks kind tk now N).fk=0→opR D U k T n ks kind tk now N=⟨(duR D U k n ks kind tk now N).c,D,U,k,T,n⟩)∧
  (¬ (duR D U k n ks kind tk now N).fk=0→∃ o:SpR,opR D U k T n ks kind tk now N=o∧o.c=(duR D U k n ks kind tk now N).c∧apF D U k T n (duR D U k n ks kind tk now N).fk (duR D U k n ks kind tk now N).a (duR D U k n ks kind tk now N).b=⟨true,o.D,o.U,o.k,o.T,o.n⟩∧(duR D U k n ks kind tk now N).a<4294967296∧(duR D U k n ks kind tk now N).b<4294967296):=by
 have hap:∀ kd a b,apF D U k T n kd a b=apR D U k T n kd a b:=fun kd a b=>by unfold apF;rw[if_pos hst]
 obtain rfl|rfl|rfl|rfl|rfl:kind=1∨kind=2∨kind=3∨kind=4∨kind=5:=by omega
 ·have e1:duR D U k n ks 1 tk now N=if tapC D U ks tk now=1 then ⟨1,1,(tkS tk).toNat,now.toNat⟩ else ⟨tapC D U ks tk now,0,0,0⟩:=by unfold duR;rw[if_pos rfl]
  have e2:opR D U k T n ks 1 tk now N=if tapC D U ks tk now=1 then ⟨1,D,withS U (tkS tk).toNat,k,T++[tkS tk,now],n+1⟩ else ⟨tapC D U ks tk now,D,U,k,T,n⟩:=by unfold opR;rw[if_pos rfl]
  rw[e1,e2];by_cases hc:tapC D U ks tk now=1
  ·rw[if_pos hc,if_pos hc];obtain⟨s,m,hs,rfl,hs2,hm2,htb⟩:=tapC_one hz hc;obtain⟨hd,hu⟩:=tapC_mem hc;rw[hs] at hd hu ⊢;refine⟨fun h=>absurd h (by simp),fun _=>⟨_,rfl,rfl,?_,by simp;omega,by simp;omega⟩⟩;dsimp only;rw[hap];exact apR_tap ⟨by simpa using hs2,by simpa using hu,by simpa using hd⟩
  ·rw[if_neg hc,if_neg hc];exact⟨fun _=>rfl,fun h=>absurd rfl h⟩
 ·have e1:duR D U k n ks 2 tk now N=if 0≤N∧N<256 then(if memB N D=true then ⟨9,0,0,0⟩ else if D.length=16 then ⟨10,0,0,0⟩ else ⟨9,2,N.toNat,1⟩) else ⟨10,0,0,0⟩:=by unfold duR;rw[if_neg (by decide),if_pos rfl]
  have e2:opR D U k T n ks 2 tk now N=if 0≤N∧N<256 then(if memB N D=true then ⟨9,D,U,k,T,n⟩ else if D.length=16 then ⟨10,D,U,k,T,n⟩ else ⟨9,withS D N.toNat,U,k,T,n⟩) else ⟨10,D,U,k,T,n⟩:=by unfold opR;rw[if_neg (by decide),if_pos rfl]
  rw[e1,e2];by_cases hs:0≤N∧N<256
  ·rw[if_pos hs,if_pos hs];by_cases hm:memB N D=true
   ·rw[if_pos hm,if_pos hm];exact⟨fun _=>rfl,fun h=>absurd rfl h⟩
   ·rw[if_neg hm,if_neg hm];by_cases h16:D.length=16
    ·rw[if_pos h16,if_pos h16];exact⟨fun _=>rfl,fun h=>absurd rfl h⟩
    ·rw[if_neg h16,if_neg h16];refine⟨fun h=>absurd h (by simp),fun _=>⟨_,rfl,rfl,?_,by simp;omega,by simp⟩⟩;dsimp only;rw[hap];exact apR_add ⟨by omega,by rw[Int.toNat_of_nonneg hs.1];exact memB_not hm,h16⟩
  ·rw[if_neg hs,if_neg hs];exact⟨fun _=>rfl,fun h=>absurd rfl h⟩
 ·have e1:duR D U k n ks 3 tk now N=if 0≤N∧N<256 then(if memB N D=true then ⟨9,2,N.toNat,0⟩ else ⟨9,0,0,0⟩) else ⟨10,0,0,0⟩:=by unfold duR;rw[if_neg (by decide),if_neg (by decide),if_pos rfl]
  have e2:opR D U k T n ks 3 tk now N=if 0≤N∧N<256 then(if memB N D=true then ⟨9,lessS D N.toNat,U,k,T,n⟩ else ⟨9,D,U,k,T,n⟩) else ⟨10,D,U,k,T,n⟩:=by unfold opR;rw[if_neg (by decide),if_neg (by decide),if_pos rfl]
  rw[e1,e2];by_cases hs:0≤N∧N<256
  ·rw[if_pos hs,if_pos hs];by_cases hm:memB N D=true
   ·rw[if_pos hm,if_pos hm];refine⟨fun h=>absurd h (by simp),fun _=>⟨_,rfl,rfl,?_,by simp;omega,by simp⟩⟩;dsimp only;rw[hap];exact apR_rem ⟨by omega,by rw[Int.toNat_of_nonneg hs.1];exact memB_of hm⟩
   ·rw[if_neg hm,if_neg hm];exact⟨fun _=>rfl,fun h=>absurd rfl h⟩
  ·rw[if_neg hs,if_neg hs];exact⟨fun _=>rfl,fun h=>absurd rfl h⟩
 ·have e2:opR D U k T n ks 4 tk now N=if N<k then ⟨10,D,U,k,T,n⟩ else if k+(n:Int)<N then ⟨10,D,U,k,T,n⟩ else if N=k then ⟨9,D,U,k,T,n⟩ else ⟨9,D,U,N,T.drop ((N-k).toNat*2),n-(N-k).toNat⟩:=by unfold opR;rw[if_neg (by decide),if_neg (by decide),if_neg (by decide),if_pos rfl]
  rw[duR_4,e2];by_cases hlo:N<k
  ·rw[if_pos hlo,if_pos hlo];exact⟨fun _=>rfl,fun h=>absurd rfl h⟩
  rw[if_neg hlo,if_neg hlo];by_cases hhi:k+(n:Int)<N
  ·rw[if_pos hhi,if_pos hhi];exact⟨fun _=>rfl,fun h=>absurd rfl h⟩
  rw[if_neg hhi,if_neg hhi];by_cases hne:N=k
  ·rw[if_pos hne,if_pos hne];exact⟨fun _=>rfl,fun h=>absurd rfl h⟩
  rw[if_neg hne,if_neg hne];obtain⟨m,rfl⟩:∃ m:Nat,N=m:=⟨N.toNat,by omega⟩
  refine⟨fun h=>absurd h (by simp),fun _=>⟨_,rfl,rfl,?_,by simp;omega,by simp⟩⟩;dsimp only;rw[hap,Int.toNat_natCast,apR_ack (by omega),ackM_of (by omega),Int.max_eq_left (by omega)]
 ·have e1:duR D U k n ks 5 tk now N=⟨9,0,0,0⟩:=by unfold duR;rw[if_neg (by decide),if_neg (by decide),if_neg (by decide),if_neg (by decide)]
  have e2:opR D U k T n ks 5 tk now N=⟨9,D,U,k,T,n⟩:=by unfold opR;rw[if_neg (by decide),if_neg (by decide),if_neg (by decide),if_neg (by decide),if_pos rfl]
  rw[e1,e2];exact⟨fun _=>rfl,fun h=>absurd rfl h⟩
end
def WSV (lo:Nat) (w:World) (v:Value) (r:SpR):Prop:=
 ∃ aD nD cD aU nU cU aT nT cT,v=.agg #[.int .i64 r.c,.slice aD nD cD,.slice aU nU cU,.int .i64 r.k,.slice aT nT cT]∧At .i64 w aD r.D∧At .i64 w aU r.U∧At .i64 w aT r.T∧r.D.length=nD∧r.U.length=nU∧r.T.length=nT*2∧Lies lo w aD∧Lies lo w aU∧Lies lo w aT∧nT≤cT∧cT≤9223372036854775807
end Go.Proofs.YtjdhhgaelgemcaaGreatDoor
namespace Go.Proofs.YtjdhhgaelgemcaaGreatDoor
open Go.RowKit Go.Extern.Stop Go.Stop Go.Extern Go.ChangeShapes Go.WideShapes Go.ChangeAt
set_option linter.unusedVariables false
set_option maxRecDepth 100000
theorem valueOfP (t:Addr) (w:World):(ReflectliteValue.unpack (.iface 120 (.pointer (some t)))).run Tryz.prog w
  =.ok (.agg #[.pointer (some ⟨2,120,none⟩),.pointer (some ⟨w.heap.size,0,none⟩),.int .u64 150]) (w.alloc (.cells #[.pointer (some t)] 120)):=by kernel_rfl
theorem typeP (a : Addr) (w : World) : (ReflectliteValue.methodAny (ReflectliteValue.valueError "reflectlite.Value.Type" 0) (fun t _ _ _ => ReflectliteType.toType t) #[.agg #[.pointer (some ⟨2, 120, none⟩), .pointer (some a), .int .u64 150]]).run Tryz.prog w
  =.ok (.iface 183 (.agg #[.pointer (some ⟨2,120,none⟩)])) w:=by kernel_rfl
theorem methodKindQ (h : Value) (w : World) : (Go.method 347 183 (.agg #[h]) "Kind").run Tryz.prog w = .ok (189, h) w := by kernel_rfl
theorem kindP (w:World):((ReflectliteType.abiMethod fun t=>(fun a:Nat=>Value.int IntKind.u8 (a:Int)) <$> Rtype.kind t) #[.pointer (some ⟨2,120,none⟩)]).run Tryz.prog w=.ok (.int .u8 22) w:=by kernel_rfl
theorem kindT (w:World):((ReflectliteType.abiMethod fun t=>(fun a:Nat=>Value.int IntKind.u8 (a:Int)) <$> Rtype.kind t) #[.pointer (some ⟨2,118,none⟩)]).run Tryz.prog w=.ok (.int .u8 6) w:=by kernel_rfl
theorem rlmQ (z:Sem Value) (f:TypeId→Addr→Nat→Nat→Sem Value) (v:Value) :
  ReflectliteValue.method z f #[v]=(do match ←ReflectliteValue.parts v with|none=>z|some (t,a,fl)=>f t a fl (fl%32)):=rfl
theorem partsP (a:Addr) (w:World):(ReflectliteValue.parts (.agg #[.pointer (some ⟨2,120,none⟩),.pointer (some a),.int .u64 150])).run Tryz.prog w=.ok (some (120,a,150)) w:=by kernel_rfl
theorem isNilP (a p:Addr) (W:World) (ha:W.cell? a=some (.pointer (some p))) :
  (ReflectliteValue.method (ReflectliteValue.valueError "reflectlite.Value.IsNil" 0) ReflectliteValue.isNil #[.agg #[.pointer (some ⟨2, 120, none⟩), .pointer (some a), .int .u64 150]]).run Tryz.prog W = .ok (.bool false) W := by
 rw[rlmQ];simp only[Sem.run_bind,partsP,Result.andThen];simp[ReflectliteValue.isNil,loadVar,isAgg,underlying,Tryz.underlying120,ha,Result.andThen]
theorem methodElemQ (h : Value) (w : World) : (Go.method 347 183 (.agg #[h]) "Elem").run Tryz.prog w = .ok (199, .agg #[h]) w := by kernel_rfl
theorem methodImplQ (h : Value) (w : World) : (Go.method 347 183 (.agg #[h]) "Implements").run Tryz.prog w = .ok (200, .agg #[h]) w := by kernel_rfl
theorem methodAssQ (h : Value) (w : World) : (Go.method 347 183 (.agg #[h]) "AssignableTo").run Tryz.prog w = .ok (197, .agg #[h]) w := by kernel_rfl
theorem elemP (w:World):(ReflectliteType.method ReflectliteType.elem #[.agg #[.pointer (some ⟨2,120,none⟩)]]).run Tryz.prog w=.ok (.iface 183 (.agg #[.pointer (some ⟨2,118,none⟩)])) w:=by kernel_rfl
theorem implT (w : World) : (ReflectliteType.relation "Implements" ReflectliteType.implements_ #[.agg #[.pointer (some ⟨2, 118, none⟩)], .iface 183 (.agg #[.pointer (some ⟨2, 99, none⟩)])]).run Tryz.prog w = .ok (.bool true) w := by kernel_rfl
theorem typeOfT (v:Value) (w:World):(ReflectliteType.typeOf #[.iface 118 v]).run Tryz.prog w=.ok (.iface 183 (.agg #[.pointer (some ⟨2,118,none⟩)])) w:=by kernel_rfl
theorem assT (w : World) : (ReflectliteType.relation "AssignableTo" ReflectliteType.assignableTo #[.agg #[.pointer (some ⟨2, 118, none⟩)], .iface 183 (.agg #[.pointer (some ⟨2, 118, none⟩)])]).run Tryz.prog w = .ok (.bool true) w := by kernel_rfl
theorem valueOfT (c:Int) (w:World):(ReflectliteValue.unpack (.iface 118 (.int .i64 c))).run Tryz.prog w
  =.ok (.agg #[.pointer (some ⟨2,118,none⟩),.pointer (some ⟨w.heap.size,0,none⟩),.int .u64 134]) (w.alloc (.cells #[.int .i64 c] 118)):=by kernel_rfl
theorem elemOfP (w:World):(Rtype.elem? 120).run Tryz.prog w=.ok (some 118) w:=by kernel_rfl
theorem mkT (p:Addr) (w:World):(ReflectliteValue.mk 118 p ReflectliteValue.flagAddr).run Tryz.prog w=.ok (.agg #[.pointer (some ⟨2,118,none⟩),.pointer (some p),.int .u64 390]) w:=by kernel_rfl
theorem elemVP (a p:Addr) (W:World) (ha:W.cell? a=some (.pointer (some p))) :
  (ReflectliteValue.method (ReflectliteValue.valueError "reflectlite.Value.Elem" 0) ReflectliteValue.elem #[.agg #[.pointer (some ⟨2, 120, none⟩), .pointer (some a), .int .u64 150]]).run Tryz.prog W
   =.ok (.agg #[.pointer (some ⟨2,118,none⟩),.pointer (some p),.int .u64 390]) W:=by
 rw[rlmQ];simp only[Sem.run_bind,partsP,Result.andThen];simp[ReflectliteValue.elem,loadVar,isAgg,underlying,Tryz.underlying120,ha,Result.andThen,elemOfP,mkT]
theorem rlsQ (v x:Value):ReflectliteValue.set #[v,x]=(do
  let (some (dst,a,fl),some (src,b,_)):=(←ReflectliteValue.parts v,←ReflectliteValue.parts x)
   | unsupported (.noEntry "extern/(internal/reflectlite.Value).Set.zeroValue")
  if fl / ReflectliteValue.flagAddr % 2 == 0 then unsupported (.noEntry "extern/(internal/reflectlite.Value).Set.unaddressable")
  let val ←loadVar src b
  if ←Rtype.directlyAssignable dst src then storeVar dst a val
  else if ←Rtype.implements dst src then
   if(←Rtype.kind src) == 20 then
    match val with
    | .nilIface => unsupported (.noEntry "extern/reflectlite: a nil value of one interface type handed on as a value of another")
    |_=>storeVar dst a val
   else storeVar dst a (.iface src val)
  else panicString ("reflectlite.Set: value of type " ++ (← Rtype.spelt src) ++ " is not assignable to type " ++ (← Rtype.spelt dst))
  pure (.tuple #[])):=rfl
theorem partsTa (a:Addr) (w:World):(ReflectliteValue.parts (.agg #[.pointer (some ⟨2,118,none⟩),.pointer (some a),.int .u64 390])).run Tryz.prog w=.ok (some (118,a,390)) w:=by kernel_rfl
theorem partsT (a:Addr) (w:World):(ReflectliteValue.parts (.agg #[.pointer (some ⟨2,118,none⟩),.pointer (some a),.int .u64 134])).run Tryz.prog w=.ok (some (118,a,134)) w:=by kernel_rfl
theorem directT (w:World):(Rtype.directlyAssignable 118 118).run Tryz.prog w=.ok true w:=by kernel_rfl
theorem setT (ta b:Addr) (c:Int) (old:Value) (W:World) (hb:W.cell? b=some (.int .i64 c)) (ht:W.cell? ta=some old) (hf:W.frozen? ta=false) :
  (ReflectliteValue.set #[.agg #[.pointer (some ⟨2,118,none⟩),.pointer (some ta),.int .u64 390],.agg #[.pointer (some ⟨2,118,none⟩),.pointer (some b),.int .u64 134]]).run Tryz.prog W
   =.ok (.tuple #[]) (W.setCell ta (.int .i64 c)):=by
 rw[rlsQ];simp only[Sem.run_bind,partsTa,partsT,Result.andThen];simp[ReflectliteValue.flagAddr,loadVar,isAgg,underlying,Tryz.underlying118,hb,Result.andThen,directT,storeVar,Value.cells,storeCells,Addr.add];rw[run_store Tryz.prog W ta _ _ (by rfl)];simp[ht,hf]
def ErrIn (w:World):Prop:=w.cell? ⟨0,0,none⟩=some (.iface 183 (.agg #[.pointer (some ⟨2,99,none⟩)]))
set_option maxHeartbeats 4000000 in
theorem as_hit (c:Int) (t:Addr) (old:Value) (w:World) (hg:ErrIn w) (ht0:w.cell? t=some old) (hf0:w.frozen? t=false) :
  Calls Tryz.prog 82 #[.iface 118 (.int .i64 c),.iface 120 (.pointer (some t))] w fun ev w'=>ev=.returned (.bool true)∧w'=((((w.alloc (.cells #[.pointer (some t)] 120)).alloc (.cells #[.pointer (some ⟨2,120,none⟩),.pointer (some ⟨w.heap.size,0,none⟩),.int .u64 150] 152)).alloc (.cells #[.pointer (some ⟨2,120,none⟩),.pointer (some ⟨w.heap.size,0,none⟩),.int .u64 150] 152)).alloc (.cells #[.int .i64 c] 118)).setCell t (.int .i64 c):=by
 unfold ErrIn at hg;have h6:=@run_callFunc_extern Tryz.prog 111 _ (fun args=>ReflectliteValue.unpack (args.getD 0 (.tuple #[]))) Tryz.func111 (by kernel_rfl) (by kernel_rfl) (by kernel_rfl) (by kernel_rfl)
 have h7 := @run_callFunc_extern Tryz.prog 112 _ (ReflectliteValue.methodAny (ReflectliteValue.valueError "reflectlite.Value.Type" 0) (fun t _ _ _ => ReflectliteType.toType t)) Tryz.func112 (by kernel_rfl) (by kernel_rfl) (by kernel_rfl) (by kernel_rfl)
 have h8 := @run_callFunc_extern Tryz.prog 113 _ (ReflectliteValue.method (ReflectliteValue.valueError "reflectlite.Value.IsNil" 0) ReflectliteValue.isNil) Tryz.func113 (by kernel_rfl) (by kernel_rfl) (by kernel_rfl) (by kernel_rfl)
 have h27:=@run_callFunc_extern Tryz.prog 189 _ (ReflectliteType.abiMethod fun t=>do pure (.int .u8 (←Rtype.kind t))) Tryz.func189 (by kernel_rfl) (by kernel_rfl) (by kernel_rfl) (by kernel_rfl);have h37:=@run_callFunc_extern Tryz.prog 199 _ (ReflectliteType.method ReflectliteType.elem) Tryz.func199 (by kernel_rfl) (by kernel_rfl) (by kernel_rfl) (by kernel_rfl)
 have h38 := @run_callFunc_extern Tryz.prog 200 _ (ReflectliteType.relation "Implements" ReflectliteType.implements_) Tryz.func200 (by kernel_rfl) (by kernel_rfl) (by kernel_rfl) (by kernel_rfl)
 have h10:=@run_callFunc_extern Tryz.prog 143 _ ReflectliteType.typeOf Tryz.func143 (by kernel_rfl) (by kernel_rfl) (by kernel_rfl) (by kernel_rfl)
 have h35 := @run_callFunc_extern Tryz.prog 197 _ (ReflectliteType.relation "AssignableTo" ReflectliteType.assignableTo) Tryz.func197 (by kernel_rfl) (by kernel_rfl) (by kernel_rfl) (by kernel_rfl)
 have h11 := @run_callFunc_extern Tryz.prog 144 _ (ReflectliteValue.method (ReflectliteValue.valueError "reflectlite.Value.Elem" 0) ReflectliteValue.elem) Tryz.func144 (by kernel_rfl) (by kernel_rfl) (by kernel_rfl) (by kernel_rfl)
 have h12:=@run_callFunc_extern Tryz.prog 145 _ ReflectliteValue.set Tryz.func145 (by kernel_rfl) (by kernel_rfl) (by kernel_rfl) (by kernel_rfl);have tO:=typeOfT;have mA:=methodAssQ;have a25:=assT;have v25:=valueOfT;have f6:=valueOfP;have f7:=typeP;have mK:=methodKindQ;have mE:=methodElemQ;have mI:=methodImplQ;have k27:=kindP;have k25:=kindT;have e27:=elemP;have i25:=implT;have n8:=isNilP ⟨w.heap.size,0,none⟩ t ((w.alloc (.cells #[.pointer (some t)] 120)).alloc (.cells #[.pointer (some ⟨2,120,none⟩),.pointer (some ⟨w.heap.size,0,none⟩),.int .u64 150] 152)) (by simp);have hlt:0<w.heap.size:=block_lt_of_cell (a:=⟨0,0,none⟩) hg;have hg2:((w.alloc (.cells #[.pointer (some t)] 120)).alloc (.cells #[.pointer (some ⟨2,120,none⟩),.pointer (some ⟨w.heap.size,0,none⟩),.int .u64 150] 152)).cell? ⟨0,0,none⟩=some (.iface 183 (.agg #[.pointer (some ⟨2,99,none⟩)])):=by
  rw[World.cell?_alloc_lt _ _ ⟨0,0,none⟩ (by simp),World.cell?_alloc_lt _ _ ⟨0,0,none⟩ hlt];exact hg
 have htl:t.block<w.heap.size:=block_lt_of_cell ht0;have el:=elemVP ⟨w.heap.size,0,none⟩ t (((w.alloc (.cells #[.pointer (some t)] 120)).alloc (.cells #[.pointer (some ⟨2,120,none⟩),.pointer (some ⟨w.heap.size,0,none⟩),.int .u64 150] 152)).alloc (.cells #[.pointer (some ⟨2,120,none⟩),.pointer (some ⟨w.heap.size,0,none⟩),.int .u64 150] 152)) (by rw[World.cell?_alloc_lt _ _ ⟨w.heap.size,0,none⟩ (by simp;omega),World.cell?_alloc_lt _ _ ⟨w.heap.size,0,none⟩ (by simp)];simp);have st:=setT t ⟨w.heap.size+1+1+1,0,none⟩ c old ((((w.alloc (.cells #[.pointer (some t)] 120)).alloc (.cells #[.pointer (some ⟨2,120,none⟩),.pointer (some ⟨w.heap.size,0,none⟩),.int .u64 150] 152)).alloc (.cells #[.pointer (some ⟨2,120,none⟩),.pointer (some ⟨w.heap.size,0,none⟩),.int .u64 150] 152)).alloc (.cells #[.int .i64 c] 118))
  (by rw[World.cell?_alloc_at _ _ _ _ (by simp)];rfl)
  (by rw[World.cell?_alloc_lt _ _ t (by simp;omega),World.cell?_alloc_lt _ _ t (by simp;omega),World.cell?_alloc_lt _ _ t (by simp;omega),World.cell?_alloc_lt _ _ t htl];exact ht0)
  (by rw[World.frozen?_alloc_old _ _ t (by simp;omega),World.frozen?_alloc_old _ _ t (by simp;omega),World.frozen?_alloc_old _ _ t (by simp;omega),World.frozen?_alloc_old _ _ t (Nat.ne_of_lt htl)];exact hf0)
 go_enter Tryz.func82,Tryz.ntmps82;go_wp2;refine wp_loop_rounds 1 ?_;rw[rounds_succ];go_wp2
 go_ret
 exact⟨rfl,rfl⟩
set_option maxHeartbeats 4000000 in
theorem cod_any (c:Int) (w:World) (hg:ErrIn w) :
  Calls Tryz.prog 65 #[.iface 118 (.int .i64 c)] w fun e w'=>e=.returned (.int .i64 c)∧Below w.heap.size w w':=by
 have hg1:ErrIn (w.alloc (.cells #[.int .i64 0] 118)):=by
  have hlt:0<w.heap.size:=block_lt_of_cell (a:=⟨0,0,none⟩) hg;unfold ErrIn at hg ⊢;rw[World.cell?_alloc_lt _ _ ⟨0,0,none⟩ hlt];exact hg
 have HA:=as_hit c ⟨w.heap.size,0,none⟩ (.int .i64 0) (w.alloc (.cells #[.int .i64 0] 118)) hg1 (by simp) (by simp);obtain⟨t,ht⟩:∃ t:Addr,t=⟨w.heap.size,0,none⟩:=⟨_,rfl⟩
 have HB0:Hid (Below w.heap.size w (w.alloc (.cells #[.int .i64 0] 118))):=(Below.refl _ _).alloc (Nat.le_refl _) _;have HZ:Hid ((w.alloc (.cells #[.int .i64 0] 118)).heap.size=w.heap.size+1):=by show _=_;simp
 have HC0:Hid ((w.alloc (.cells #[.int .i64 0] 118)).cell? ⟨w.heap.size,0,none⟩=some (.int .i64 0)):=by show _=_;simp
 clear hg hg1 ht t;go_enter Tryz.func65,Tryz.ntmps65;go_wp2_with fail;generalize w.alloc (.cells #[.int .i64 0] 118)=w0 at *;refine HA.mono ?_;rintro e w1 ⟨rfl,hw1⟩;have HBA:Below w0.heap.size w0 ((((w0.alloc (.cells #[.pointer (some ⟨w.heap.size,0,none⟩)] 120)).alloc (.cells #[.pointer (some ⟨2,120,none⟩),.pointer (some ⟨w0.heap.size,0,none⟩),.int .u64 150] 152)).alloc (.cells #[.pointer (some ⟨2,120,none⟩),.pointer (some ⟨w0.heap.size,0,none⟩),.int .u64 150] 152)).alloc (.cells #[.int .i64 c] 118)):=((((Below.refl _ _).alloc (Nat.le_refl _) _).alloc (by simp) _).alloc (by simp;omega) _).alloc (by simp;omega) _;have HCA:((((w0.alloc (.cells #[.pointer (some ⟨w.heap.size,0,none⟩)] 120)).alloc (.cells #[.pointer (some ⟨2,120,none⟩),.pointer (some ⟨w0.heap.size,0,none⟩),.int .u64 150] 152)).alloc (.cells #[.pointer (some ⟨2,120,none⟩),.pointer (some ⟨w0.heap.size,0,none⟩),.int .u64 150] 152)).alloc (.cells #[.int .i64 c] 118)).cell? ⟨w.heap.size,0,none⟩=some (.int .i64 0):=by rw[HBA.cell (p:=⟨w.heap.size,0,none⟩) (by rw[HZ.out];exact Nat.lt_succ_self _)];exact HC0.out
 have hc1:w1.cell? ⟨w.heap.size,0,none⟩=some (.int .i64 c):=by rw[hw1];exact World.cell?_setCell_same' _ _ _ (by rw[HCA];rfl)
 have HB1:Hid (Below w.heap.size w w1):=by
  show Below _ _ _
  rw[hw1];exact(HB0.out.trans (HBA.mono (by rw[HZ.out];omega))).trans (((Wr.refl w.heap.size _).setCell 0 _).below (Nat.le_refl _))
 clear HBA HCA hw1 HA;go_wp2
 go_ret
 exact⟨rfl,HB1.out⟩
end Go.Proofs.YtjdhhgaelgemcaaGreatDoor
