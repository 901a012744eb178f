import Derived.Test.YtfkmfmnfnenbjaaGreatMAppG
namespace Go.Proofs.YtfkmfmnfnenbjaaGreat
open Go.ChangeShapes Go.WideShapes Go.ChangeAt Go.RowKit
set_option linter.unusedVariables false
structure WBN (w wb:World) (sc:Array Value):Prop where
 p1:w.heap.size<wb.heap.size
 p2:wb.heap[w.heap.size]?=some (.cells sc 30 (0,0))
 p3:w.heap.size≤wb.heap.size
 p4:wb.heap.size≤w.heap.size+1
set_option maxRecDepth 100000 in
set_option maxHeartbeats 4000000 in
theorem sto_any (gn tl:Int) (aD aU:Option Addr) (nD cD nU cU:Nat) (D U:List Int) (w:World) (hD:D.length=nD) (hU:U.length=nU) (mD:nD≤1048576) (mU:nU≤1048576)
  (haD:At .i64 w aD D) (haU:At .i64 w aU U) :
  Calls Tryz.prog 20 #[.agg #[.int .u32 gn,.int .u32 tl,.slice aD nD cD,.slice aU nU cU]] w fun e w'=>∃ cs,e=.returned (.agg cs)∧CpFin w.heap.size (nU:Int) D U [] 0 w' cs∧Below w.heap.size w w':=by
 obtain⟨wb,hwb⟩:∃ wb,wb=w.alloc (.cells #[.int .u32 gn,.int .u32 tl,.slice aD nD cD,.slice aU nU cU] 30):=⟨_,rfl⟩
 have HWB:Hid (WBN w wb #[.int .u32 gn,.int .u32 tl,.slice aD nD cD,.slice aU nU cU]):=⟨by rw[hwb];simp,by rw[hwb];exact heap_alloc_new w _,by rw[hwb];simp,by rw[hwb];simp⟩
 have HBW:Hid (Below w.heap.size w wb):=by show Below _ _ _;rw[hwb];exact(Below.refl _ _).alloc (Nat.le_refl _) _
 have HAD:Hid (At .i64 w aD D):=haD
 have HAU:Hid (At .i64 w aU U):=haU
 have HLN:Hid (D.length=nD∧U.length=nU):=⟨hD,hU⟩
 have HSZ:Hid ((Tryz.prog.info? 34).map (·.size)=some 4):=by show _=_;kernel_rfl
 have HW0:Hid (Below wb.heap.size wb ((w.alloc (.cells #[.int .u32 gn,.int .u32 tl,.slice aD nD cD,.slice aU nU cU] 30)).alloc (.cells #[.slice none 0 0,.slice none 0 0,.int .i64 0,.slice none 0 0] 34)).drew):=by
  have h1:Below wb.heap.size wb (wb.alloc (.cells #[.slice none 0 0,.slice none 0 0,.int .i64 0,.slice none 0 0] 34)):=(Below.refl _ _).alloc (Nat.le_refl _) _;rw[hwb] at h1 ⊢;exact⟨h1.os,h1.tape,h1.output,h1.size,h1.block⟩
 have HR0:Hid (((w.alloc (.cells #[.int .u32 gn,.int .u32 tl,.slice aD nD cD,.slice aU nU cU] 30)).alloc (.cells #[.slice none 0 0,.slice none 0 0,.int .i64 0,.slice none 0 0] 34)).drew.heap[w.heap.size+1]?=some (.cells #[.slice none 0 0,.slice none 0 0,.int .i64 0,.slice none 0 0] 34 (0,0))):=by
  have:=heap_alloc_new (w.alloc (.cells #[.int .u32 gn,.int .u32 tl,.slice aD nD cD,.slice aU nU cU] 30)) (.cells #[.slice none 0 0,.slice none 0 0,.int .i64 0,.slice none 0 0] 34)
  rwa [show(w.alloc (.cells #[.int .u32 gn,.int .u32 tl,.slice aD nD cD,.slice aU nU cU] 30)).heap.size=w.heap.size+1 by simp] at this
 clear haD haU hD hU hwb
 go_enter Tryz.func20,Tryz.ntmps20
 go_wp2_with fail
 refine wp_region_any (by kernel_rfl) ?_
 refine wpAny_slotsU (fun i a b=>if i=13 then Wr (w.heap.size+1) a b else Below a.heap.size a b) (frame:=(fun (a b c:Value)=>fun (t:Nat→Value)=>({ tmps:=List.toArray [a,b,c,t 0,t 1,t 2,t 3,t 4,t 5,t 6,t 7,t 8,t 9,t 10,t 11,t 12],defers:=[] }:Act)) _ _ _)
  (Ext:=fun L u w'=>ApS wb (w.heap.size+1) 13 34 #[.slice none 0 0,.slice none 0 0,.int .i64 0,.slice none 0 0] (CpFin (w.heap.size+2) nU D U [] 0) [] L u w') (Good:=fun i L w' v=>if i=0 then EmS (w.heap.size+2) 2 w' v else if i=1 then v=.pointer (some ⟨w.heap.size,2,none⟩) else if i=2 then v=.slice aD nD cD else if i=3 then Iow (w.heap.size+2) w' v D else if i=4 then EmS (w.heap.size+2) 2 w' v else if i=5 then v=.pointer (some ⟨w.heap.size,3,none⟩) else if i=6 then v=.slice aU nU cU else if i=7 then Iow (w.heap.size+2) w' v U else if i=8 then v=.pointer (some ⟨w.heap.size,3,none⟩) else if i=9 then v=.slice aU nU cU else if i=10 then v=.int .i64 (nU:Int) else if i=11 then EmS (w.heap.size+2) 111 w' v else if i=12 then CpBd (w.heap.size+2) nU D U [] 0 w' v else if i=13 then L 13=true else True) ?hstab (by kernel_rfl) ?hop ?hdone _ _ ((fun (x0 x1 x2 x3 x4 x5 x6 x7 x8 x9 x10 x11 x12:Value)=>fun (i:Nat)=>if i=0 then x0 else if i=1 then x1 else if i=2 then x2 else if i=3 then x3 else if i=4 then x4 else if i=5 then x5 else if i=6 then x6 else if i=7 then x7 else if i=8 then x8 else if i=9 then x9 else if i=10 then x10 else if i=11 then x11 else if i=12 then x12 else undef) _ _ _ _ _ _ _ _ _ _ _ _ _) _ (by simp) ?ext ?start (by simp)
 case start=>intro i hi h;exact absurd h (by rw[Array.getD_eq_getD_getElem?,Array.getElem?_replicate];split<;>simp)
 case ext=>exact ApS.start ⟨HW0.out,fun p _ hp=>absurd hp (by rw[Array.getD_eq_getD_getElem?,Array.getElem?_replicate];split<;>simp),fun p _ q _ _ hp=>absurd hp (by rw[Array.getD_eq_getD_getElem?,Array.getElem?_replicate];split<;>simp)⟩ (fun i=>by rw[Array.getD_eq_getD_getElem?,Array.getElem?_replicate];split<;>rfl) HR0.out
 case hstab=>
  intro j L w9 w' i v hM hij hLi h;by_cases h0:j=0
  ·subst h0;by_cases hl:i=13
   ·subst hl;simp at h hM ⊢;exact h.wr hM (by omega)
   ·rw[if_neg hl] at hM;simp at h ⊢;exact h.below hM
  by_cases h3:j=3
  ·subst h3;by_cases hl:i=13
   ·subst hl;simp at h hM ⊢;exact h.wr hM (by omega)
   ·rw[if_neg hl] at hM;simp at h ⊢;exact h.below hM
  by_cases h4:j=4
  ·subst h4;by_cases hl:i=13
   ·subst hl;simp at h hM ⊢;exact h.wr hM (by omega)
   ·rw[if_neg hl] at hM;simp at h ⊢;exact h.below hM
  by_cases h7:j=7
  ·subst h7;by_cases hl:i=13
   ·subst hl;simp at h hM ⊢;exact h.wr hM (by omega)
   ·rw[if_neg hl] at hM;simp at h ⊢;exact h.below hM
  by_cases h11:j=11
  ·subst h11;by_cases hl:i=13
   ·subst hl;simp at h hM ⊢;exact h.wr hM (by omega)
   ·rw[if_neg hl] at hM;simp at h ⊢;exact h.below hM
  by_cases h12:j=12
  ·subst h12;by_cases hl:i=13
   ·subst hl;simp at h hM ⊢;exact h.wr hM (by omega)
   ·rw[if_neg hl] at hM;simp at h ⊢;exact h.below hM
  by_cases hl:j=13
  ·subst hl;simp at h ⊢;unfold updK;simp[h]
  simp only[if_neg h0,if_neg h3,if_neg h4,if_neg h7,if_neg h11,if_neg h12,if_neg hl] at h ⊢;exact h
 case hop=>
  intro i o L t w' ho hLi hx hdep K hK;have hi:i<14:=(Array.getElem?_eq_some_iff.1 ho).1;obtain rfl|rfl|rfl|rfl|rfl|rfl|rfl|rfl|rfl|rfl|rfl|rfl|rfl|rfl:i=0∨i=1∨i=2∨i=3∨i=4∨i=5∨i=6∨i=7∨i=8∨i=9∨i=10∨i=11∨i=12∨i=13:=by omega
  all_goals(simp at ho;subst ho)
  ·clear hdep;have hsz:w.heap.size+2≤w'.heap.size:=by have:=hx.lt;omega
   have bb:Below w'.heap.size w' (w'.alloc (.cells #[] 2)):=(Below.refl _ _).alloc (Nat.le_refl _) _;have hK':=hK (w'.alloc (.cells #[] 2)) (.slice (some ⟨w'.heap.size,0,none⟩) 0 0) (by simpa using EmS.new 2 w' hsz) (hx.step (fun _ _ _ b h=>h.below b) 0 (by decide) _ bb (fun h=>absurd h (by decide))) (by rw[if_neg (by decide)];exact bb);clear hK bb;rw[if_pos (by rfl)];go_simp;simpa[upd] using hK'
  ·clear hdep;have hK':=hK w' (.pointer (some ⟨w.heap.size,2,none⟩)) (by simp) (hx.step (fun _ _ _ b h=>h.below b) 1 (by decide) _ (Below.refl _ _) (fun h=>absurd h (by decide))) (by rw[if_neg (by decide)];exact(Below.refl _ _));clear hK;rw[if_pos (by rfl)];go_simp;simpa[upd] using hK'
  ·have d1:t 1=.pointer (some ⟨w.heap.size,2,none⟩):=by simpa using(hdep ⟨1,.data⟩ (by simp) rfl).2
   clear hdep;have cc:w'.cell? ⟨w.heap.size,2,none⟩=some (.slice aD nD cD):=by rw[World.cell?_of_block (a:=⟨w.heap.size,2,none⟩) (w:=wb) (hx.ax.below.block _ HWB.out.p1),cell_of_row wb w.heap.size 2 _ _ _ HWB.out.p2];rfl
   have hK':=hK w' (.slice aD nD cD) (by simp) (hx.step (fun _ _ _ b h=>h.below b) 2 (by decide) _ (Below.refl _ _) (fun h=>absurd h (by decide))) (by rw[if_neg (by decide)];exact(Below.refl _ _));clear hK;rw[if_pos (by rfl)];go_simp;simpa[upd,d1] using hK'
  ·have f0:EmS (w.heap.size+2) 2 w' (t 0):=by simpa using(hdep ⟨0,.data⟩ (by simp) rfl).2
   have d2:t 2=.slice aD nD cD:=by simpa using(hdep ⟨2,.data⟩ (by simp) rfl).2
   clear hdep;have hsz:w.heap.size+2≤w'.heap.size:=by have:=hx.lt;omega
   have bw:Below w.heap.size w w':=HBW.out.trans (hx.ax.below.mono HWB.out.p3);have hK':∀ ww v,Iow (w.heap.size+2) ww v D→Below w'.heap.size w' ww→K _ ww:=fun ww v hv hb=>hK ww v (by simpa using hv) (hx.step (fun _ _ _ b h=>h.below b) 3 (by decide) _ hb (fun h=>absurd h (by decide))) (by rw[if_neg (by decide)];exact hb)
   clear hK;rw[if_pos (by rfl)];refine wp_appG 28 2 (.int .i64 0) 1 8 Tryz.infoI64 Tryz.underlying28 rfl (by decide) (by decide) w' (.tmp 3) (.tmp 5) rfl (w.heap.size+2) (t 0) rfl f0 aD nD cD D d2 (by rw[HLN.out.1,Nat.mul_one]) (HAD.out.below bw) mD hsz ?_;intro v' ww h1 h2;have hK2:=hK' ww v' (by unfold Iow;rw[HLN.out.1];exact h1) h2;clear hK' h1 h2;simpa[upd,Act.put] using hK2
  ·clear hdep;have hsz:w.heap.size+2≤w'.heap.size:=by have:=hx.lt;omega
   have bb:Below w'.heap.size w' (w'.alloc (.cells #[] 2)):=(Below.refl _ _).alloc (Nat.le_refl _) _;have hK':=hK (w'.alloc (.cells #[] 2)) (.slice (some ⟨w'.heap.size,0,none⟩) 0 0) (by simpa using EmS.new 2 w' hsz) (hx.step (fun _ _ _ b h=>h.below b) 4 (by decide) _ bb (fun h=>absurd h (by decide))) (by rw[if_neg (by decide)];exact bb);clear hK bb;rw[if_pos (by rfl)];go_simp;simpa[upd] using hK'
  ·clear hdep;have hK':=hK w' (.pointer (some ⟨w.heap.size,3,none⟩)) (by simp) (hx.step (fun _ _ _ b h=>h.below b) 5 (by decide) _ (Below.refl _ _) (fun h=>absurd h (by decide))) (by rw[if_neg (by decide)];exact(Below.refl _ _));clear hK;rw[if_pos (by rfl)];go_simp;simpa[upd] using hK'
  ·have d5:t 5=.pointer (some ⟨w.heap.size,3,none⟩):=by simpa using(hdep ⟨5,.data⟩ (by simp) rfl).2
   clear hdep;have cc:w'.cell? ⟨w.heap.size,3,none⟩=some (.slice aU nU cU):=by rw[World.cell?_of_block (a:=⟨w.heap.size,3,none⟩) (w:=wb) (hx.ax.below.block _ HWB.out.p1),cell_of_row wb w.heap.size 3 _ _ _ HWB.out.p2];rfl
   have hK':=hK w' (.slice aU nU cU) (by simp) (hx.step (fun _ _ _ b h=>h.below b) 6 (by decide) _ (Below.refl _ _) (fun h=>absurd h (by decide))) (by rw[if_neg (by decide)];exact(Below.refl _ _));clear hK;rw[if_pos (by rfl)];go_simp;simpa[upd,d5] using hK'
  ·have f4:EmS (w.heap.size+2) 2 w' (t 4):=by simpa using(hdep ⟨4,.data⟩ (by simp) rfl).2
   have d6:t 6=.slice aU nU cU:=by simpa using(hdep ⟨6,.data⟩ (by simp) rfl).2
   clear hdep;have hsz:w.heap.size+2≤w'.heap.size:=by have:=hx.lt;omega
   have bw:Below w.heap.size w w':=HBW.out.trans (hx.ax.below.mono HWB.out.p3);have hK':∀ ww v,Iow (w.heap.size+2) ww v U→Below w'.heap.size w' ww→K _ ww:=fun ww v hv hb=>hK ww v (by simpa using hv) (hx.step (fun _ _ _ b h=>h.below b) 7 (by decide) _ hb (fun h=>absurd h (by decide))) (by rw[if_neg (by decide)];exact hb)
   clear hK;rw[if_pos (by rfl)];refine wp_appG 28 2 (.int .i64 0) 1 8 Tryz.infoI64 Tryz.underlying28 rfl (by decide) (by decide) w' (.tmp 7) (.tmp 9) rfl (w.heap.size+2) (t 4) rfl f4 aU nU cU U d6 (by rw[HLN.out.2,Nat.mul_one]) (HAU.out.below bw) mU hsz ?_;intro v' ww h1 h2;have hK2:=hK' ww v' (by unfold Iow;rw[HLN.out.2];exact h1) h2;clear hK' h1 h2;simpa[upd,Act.put] using hK2
  ·clear hdep;have hK':=hK w' (.pointer (some ⟨w.heap.size,3,none⟩)) (by simp) (hx.step (fun _ _ _ b h=>h.below b) 8 (by decide) _ (Below.refl _ _) (fun h=>absurd h (by decide))) (by rw[if_neg (by decide)];exact(Below.refl _ _));clear hK;rw[if_pos (by rfl)];go_simp;simpa[upd] using hK'
  ·have d8:t 8=.pointer (some ⟨w.heap.size,3,none⟩):=by simpa using(hdep ⟨8,.data⟩ (by simp) rfl).2
   clear hdep;have cc:w'.cell? ⟨w.heap.size,3,none⟩=some (.slice aU nU cU):=by rw[World.cell?_of_block (a:=⟨w.heap.size,3,none⟩) (w:=wb) (hx.ax.below.block _ HWB.out.p1),cell_of_row wb w.heap.size 3 _ _ _ HWB.out.p2];rfl
   have hK':=hK w' (.slice aU nU cU) (by simp) (hx.step (fun _ _ _ b h=>h.below b) 9 (by decide) _ (Below.refl _ _) (fun h=>absurd h (by decide))) (by rw[if_neg (by decide)];exact(Below.refl _ _));clear hK;rw[if_pos (by rfl)];go_simp;simpa[upd,d8] using hK'
  ·have d9:t 9=.slice aU nU cU:=by simpa using(hdep ⟨9,.data⟩ (by simp) rfl).2
   clear hdep;have hK':=hK w' (.int .i64 (nU:Int)) (by simp) (hx.step (fun _ _ _ b h=>h.below b) 10 (by decide) _ (Below.refl _ _) (fun h=>absurd h (by decide))) (by rw[if_neg (by decide)];exact(Below.refl _ _));clear hK;rw[if_pos (by rfl)];go_simp;simpa[upd,d9] using hK'
  ·clear hdep;have hsz:w.heap.size+2≤w'.heap.size:=by have:=hx.lt;omega
   have bb:Below w'.heap.size w' (w'.alloc (.cells #[] 111)):=(Below.refl _ _).alloc (Nat.le_refl _) _;have hK':=hK (w'.alloc (.cells #[] 111)) (.slice (some ⟨w'.heap.size,0,none⟩) 0 0) (by simpa using EmS.new 111 w' hsz) (hx.step (fun _ _ _ b h=>h.below b) 11 (by decide) _ bb (fun h=>absurd h (by decide))) (by rw[if_neg (by decide)];exact bb);clear hK bb;rw[if_pos (by rfl)];go_simp;simpa[upd] using hK'
  ·have f3:Iow (w.heap.size+2) w' (t 3) D:=by simpa using(hdep ⟨3,.data⟩ (by simp) rfl).2
   have f7:Iow (w.heap.size+2) w' (t 7) U:=by simpa using(hdep ⟨7,.data⟩ (by simp) rfl).2
   have d10:t 10=.int .i64 (nU:Int):=by simpa using(hdep ⟨10,.data⟩ (by simp) rfl).2
   have f11:EmS (w.heap.size+2) 111 w' (t 11):=by simpa using(hdep ⟨11,.data⟩ (by simp) rfl).2
   clear hdep;obtain⟨aD',nD',cD',d3⟩:=f3.form;obtain⟨aU',nU',cU',d7⟩:=f7.form;obtain⟨gT,d11,hT1,hT2⟩:=f11;have f13:TapO _ w' (.slice (some ⟨gT,0,none⟩) 0 0) [] 0:=EmS.owns 2 hT1 hT2;rw[d3] at f3;rw[d7] at f7;have hK':=hK w' (.agg #[.slice aD' nD' cD',.slice aU' nU' cU',.int .i64 (nU:Int),.slice (some ⟨gT,0,none⟩) 0 0]) (by simpa using⟨_,rfl,aD',nD',cD',aU',nU',cU',_,_,rfl,f3,f7,f13⟩) (hx.step (fun _ _ _ b h=>h.below b) 12 (by decide) _ (Below.refl _ _) (fun h=>absurd h (by decide))) (by rw[if_neg (by decide)];exact(Below.refl _ _));clear hK f3 f7 f13 hT1 hT2;rw[if_pos (by rfl)];go_simp;simpa[upd,d3,d7,d10,d11] using hK'
  ·have f12:CpBd (w.heap.size+2) nU D U [] 0 w' (t 12):=by simpa using(hdep ⟨12,.data⟩ (by simp) rfl).2
   clear hdep;obtain⟨cs,e9,aD',nD',cD',aU',nU',cU',aT',cT',rfl,f3,f7,f13⟩:=f12;have hrs:=hx.pre hLi;have hK':∀ ww,Wr (w.heap.size+1) w' ww→ww.heap[w.heap.size+1]?=some (.cells #[.slice aD' nD' cD',.slice aU' nU' cU',.int .i64 (nU:Int),.slice aT' 0 cT'] 34 (0,0))→K _ ww:=fun ww hw hr=>hK ww undef (by simp[updK]) (hx.put HWB.out.p4 (by decide) _ hw hr ⟨aD',nD',cD',aU',nU',cU',aT',cT',rfl,f3.wr hw (by omega),f7.wr hw (by omega),f13.wrk hw (by omega)⟩) (by rw[if_pos rfl];exact hw)
   clear hK f3 f7 f13;rw[if_pos (by rfl)];refine wp_store_row 34 (.tmp 2) (.tmp 15) rfl (w.heap.size+1) _ rfl e9 34 _ hrs HSZ.out rfl (by simp[Value.oneCell']) ?_;have hK2:=hK' _ (Wr.setRow _ _ _) (setRow_heap _ _ _ _ _ _ hrs);clear hK';simpa[upd,Act.put] using hK2
 case hdone=>
  intro L t w' hx hg;have l13:L 13=true:=by simpa using hg 13 (by decide)
  clear hg;obtain⟨cs,hr,hfin⟩:=hx.fin l13;have HR9:Hid (w'.heap[w.heap.size+1]?=some (.cells cs 34 (0,0))):=hr;have HF:Hid (CpFin w.heap.size nU D U [] 0 w' cs∧Below w.heap.size w w'):=⟨hfin.mono (by omega),HBW.out.trans (hx.ax.below.mono HWB.out.p3)⟩
  have HS4:Hid ((Tryz.prog.info? 34).map (·.size)=some cs.size):=by
   obtain⟨aD',nD',cD',aU',nU',cU',aT',cT',e,_⟩:=hfin;rw[e];exact HSZ.out
  clear hx hr hfin;go_wp2_with fail;exact bodyPost_ret (v:=.agg cs) (results_cell_row rfl _ _ (w.heap.size+1) 34 _ (0,0) _ rfl HR9.out Tryz.underlying34 rfl HS4.out) rfl ⟨cs,rfl,HF.out.1,HF.out.2⟩
end Go.Proofs.YtfkmfmnfnenbjaaGreat
