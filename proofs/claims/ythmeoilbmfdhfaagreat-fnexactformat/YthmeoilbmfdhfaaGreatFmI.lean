import Derived.Test.YthmeoilbmfdhfaaGreatMAppE
import Derived.Test.YthmeoilbmfdhfaaGreatMAppG
import Derived.Test.YthmeoilbmfdhfaaGreatDkJ
namespace Go.Proofs.YthmeoilbmfdhfaaGreat
open Go.ChangeShapes Go.WideShapes Go.ChangeAt Go.RowKit
set_option linter.unusedVariables false
theorem wp_appFr (w:World) {o:Oper} {a:Act} {K:Act→World→Prop} {Q:Exit→Act→World→Prop} (s x:Operand) (hop:o.op=Op.call { callee:=Callee.builtin Builtin.append,args:=#[s,x],argTypes:=#[31,31] })
  (S:Nat) (v:Value) (hs:a.eval s=v) (hem:EmS S 112 w v) (xa:Option Addr) (n c:Nat) (F:List Int) (hx:a.eval x=.slice xa n c) (hl:F.length=n*4) (hA:FAt w xa F) (hb:n≤1048576) (hSw:S≤w.heap.size)
  (h:∀ v' w',FO S w' v' F n→Below w.heap.size w w'→K (a.put o.dst v') w'):o.wp Tryz.prog a w K Q:=by
 obtain⟨B,rfl,hB,hrow⟩:=hem
 have hown:=EmS.owns 4 hB hrow
 by_cases h0:n=0
 ·subst h0;have hz:F=[]:=List.eq_nil_of_length_eq_zero (by omega);have hk:=h (.slice (some ⟨B,0,none⟩) 0 0) w (by unfold FO;rw[hz];exact hown) (Below.refl _ _);have hr:=run_appG0 31 112 _ 4 24 Tryz.infoFr Tryz.underlying31 w o.type ⟨B,0,none⟩ xa c;unfold Oper.wp execOp;simp only[hop,resolve,invoke,builtin,Sem.run_bind,Sem.run_pure,Result.andThen_ok,List.map_toArray,List.map_cons,List.map_nil,hs,hx,hr];exact hk
 ·have hz0':0<F.length:=by omega
  obtain⟨b,off,rfl,hbl,hc⟩:=hA.get hz0';obtain⟨i0,hi,hz0,hz1,hz2⟩:=info_parts Tryz.infoFr;have hnews:∀ j u,(fC F).toList[j]?=some u→w.cell? ((⟨b,off,none⟩:Addr).add j)=some u:=by
   intro j u hu;rw[fC_list] at hu;have hj:j<F.length:=by have:=(List.getElem?_eq_some_iff.1 hu).1;simpa using this
   rw[Addr.add_lit,hc j hj];simp[hj] at hu;simp[hj,hu]
  have hlen:(fC F).toList.length=n*4:=by rw[fC_list];simp[hl]
  have hone:∀ v∈(fC F).toList,v.oneCell'=true:=fun v hv=>by
   rw[fC_list] at hv;obtain⟨i,_,rfl⟩:=List.mem_map.1 hv;rfl
  have hfit:Builtin.nextslicecap (0+n) 0*i0.bytes≤281474976710656:=by rw[Nat.zero_add,nextslicecap_zero (by omega),hz2];omega
  have hg:=run_append_grow (P:=Tryz.prog) w 31 o.type 112 i0 _ Tryz.underlying31 hi hz0 ⟨B,0,none⟩ 0 0 [] (by simp) (fun j v hv=>by simp at hv) ⟨b,off,none⟩ n c (fC F).toList (by rw[hlen,hz1]) hnews (by omega) (by omega) hfit;obtain⟨v',w',hr,h2,h3,h4⟩:=run_append_own (P:=Tryz.prog) w S 31 o.type 112 i0 _ 4 24 Tryz.underlying31 hi hz0 hz1 hz2 rfl (by decide) _ 0 [] hown ⟨b,off,none⟩ n c (fC F).toList hlen hnews hone (by unfold maxLen;omega) (by rw[Nat.zero_add];omega) hSw;have he:=hr.symm.trans hg;injection he with e1 e2
  have hBl:Below w.heap.size w w':=by rw[e2];exact(Below.refl _ _).drew.alloc (Nat.le_refl _) _
  have hk:=h v' w' (by unfold FO;simpa using h2) hBl;unfold Oper.wp execOp;simp only[hop,resolve,invoke,builtin,Sem.run_bind,Sem.run_pure,Result.andThen_ok,List.map_toArray,List.map_cons,List.map_nil,hs,hx,hr];exact hk
theorem tapO_at {B:Nat} {w:World} {a:Option Addr} {n c m:Nat} {T:List Int} (h:TapO B w (.slice a n c) T m):At .i64 w a T∧T.length=m*2∧Lies B w a:=by
 have hl:T.length=m*2:=by have:=h.1;simpa using this
 rcases h.2 with⟨e0,h0⟩|⟨g,cap,cur,h',hb,hh,hc,hm,hs,ht⟩
 ·cases e0;exact⟨.inl (List.eq_nil_of_length_eq_zero (by omega)),hl,fun _ e=>by cases e⟩
 ·cases h';refine⟨.inr ?_,hl,fun ad e=>by cases e;exact⟨hb,(Array.getElem?_eq_some_iff.1 hh).1⟩⟩;refine⟨g,0,rfl,(Array.getElem?_eq_some_iff.1 hh).1,fun i hi=>?_⟩;rw[Nat.zero_add,cell_of_row w g i _ _ _ hh];have e:(cur.toList.take (n*2))[i]?=(T.map (Value.int .i64))[i]?:=by rw[ht]
  rw[List.getElem?_take_of_lt (by omega),List.getElem?_map] at e;rw[←Array.getElem?_toList,e];simp[hi]
def SNW (lo:Nat) (gn tl:Int) (D U:List Int) (w:World) (v:Value):Prop:=∃ aD nD cD aU nU cU,v=.agg #[.int .u32 gn,.int .u32 tl,.slice aD nD cD,.slice aU nU cU]∧Iow lo w (.slice aD nD cD) D∧Iow lo w (.slice aU nU cU) U
theorem SNW.below {lo:Nat} {gn tl:Int} {D U:List Int} {w w':World} {v:Value} (h:SNW lo gn tl D U w v) (b:Below w.heap.size w w'):SNW lo gn tl D U w' v:=by
 obtain⟨aD,nD,cD,aU,nU,cU,e,h1,h2⟩:=h;exact⟨aD,nD,cD,aU,nU,cU,e,h1.below b,h2.below b⟩
def FinC (p:Nat) (W:World) (gn tl:Int) (D U:List Int) (u:Nat→Value) (w:World):Prop:=
 ∃ G aD nD cD aU nU cU,u p=.pointer (some ⟨G,0,none⟩)∧W.heap.size≤G∧w.heap[G]?=some (.cells #[.int .u32 gn,.int .u32 tl,.slice aD nD cD,.slice aU nU cU] 30 (0,0))∧Iow W.heap.size w (.slice aD nD cD) D∧Iow W.heap.size w (.slice aU nU cU) U∧Below W.heap.size W w
def CpI (lo:Nat) (r:ImR) (bSD bSU:Option Addr) (mSD dSD mSU dSU mF:Nat) (w:World) (v:Value):Prop:=∃ bF dF bD mD dD bU mU dU bT dT,v=.agg #[.bool r.ok,.int .u32 r.g,.int .u32 r.t,.slice bSD mSD dSD,.slice bSU mSU dSU,.slice bF mF dF,.slice bD mD dD,.slice bU mU dU,.int .i64 r.k,.slice bT r.n dT,.int .u32 r.nx]∧FO lo w (.slice bF mF dF) r.F mF∧Iow lo w (.slice bD mD dD) r.D∧Iow lo w (.slice bU mU dU) r.U∧TapO lo w (.slice bT r.n dT) r.T r.n
theorem CpI.below {lo:Nat} {r:ImR} {bSD bSU:Option Addr} {mSD dSD mSU dSU mF:Nat} {w w':World} {v:Value} (h:CpI lo r bSD bSU mSD dSD mSU dSU mF w v) (b:Below w.heap.size w w'):CpI lo r bSD bSU mSD dSD mSU dSU mF w' v:=by
 obtain⟨bF,dF,bD,mD,dD,bU,mU,dU,bT,dT,e,h1,h2,h3,h4⟩:=h;exact⟨bF,dF,bD,mD,dD,bU,mU,dU,bT,dT,e,h1.below b,h2.below b,h3.below b,h4.below b⟩
set_option maxRecDepth 100000 in
set_option maxHeartbeats 8000000 in
theorem cpI_any (v:Value) (r:ImR) (w:World) (h:ImW w v r) (hb:ImLe r) :
  Calls Tryz.prog 105 #[v] w fun e w'=>∃ v',e=.returned v'∧ImX w.heap.size w' v' r∧Below w.heap.size w w':=by
 obtain⟨aSD,nSD,cSD,aSU,nSU,cSU,aF,mF,cF,aD,nD,cD,aU,nU,cU,aT,cT,rfl,A1,A2,A3,A4,A5,A6,e1,e2,e3,e4,e5,e6⟩:=h
 obtain⟨l1,l2,l3,l4,l5,l6⟩:=hb
 have HA:Hid (At .i64 w aSD r.sD∧At .i64 w aSU r.sU∧FAt w aF r.F):=⟨A1,A2,A3⟩
 have HN:Hid (r.sD.length=nSD∧r.sU.length=nSU∧r.F.length=mF*4):=⟨e1,e2,e3⟩
 have HM:Hid (nSD≤1048576∧nSU≤1048576∧mF≤1048576):=⟨by omega,by omega,by omega⟩
 have HC5:Hid (∀ ww,Below w.heap.size w ww→Calls Tryz.prog 123 #[.agg #[.slice aD nD cD,.slice aU nU cU,.int .i64 r.k,.slice aT r.n cT]] ww fun e w'=>∃ cs,e=.returned (.agg cs)∧CpFin ww.heap.size r.k r.D r.U r.T r.n w' cs∧Below ww.heap.size ww w'):=fun ww b=>l5c_any aD aU aT nD cD nU cU r.n cT r.D r.U r.k r.T ww e4 e5 e6 (by omega) (by omega) (by omega) (A4.below b) (A5.below b) (A6.below b)
 have HSN:Hid ((Tryz.prog.info? 30).map (·.size)=some 4):=by show _=_;kernel_rfl
 have HSI:Hid ((Tryz.prog.info? 36).map (·.size)=some 11):=by show _=_;kernel_rfl
 have HE1:Hid (BE w 36 #[.bool r.ok,.int .u32 r.g,.int .u32 r.t,.slice aSD nSD cSD,.slice aSU nSU cSU,.slice aF mF cF,.slice aD nD cD,.slice aU nU cU,.int .i64 r.k,.slice aT r.n cT,.int .u32 r.nx] #[.bool false,.int .u32 0,.int .u32 0,.slice none 0 0,.slice none 0 0,.slice none 0 0,.slice none 0 0,.slice none 0 0,.int .i64 0,.slice none 0 0,.int .u32 0] ((w.alloc (.cells #[.bool r.ok,.int .u32 r.g,.int .u32 r.t,.slice aSD nSD cSD,.slice aSU nSU cSU,.slice aF mF cF,.slice aD nD cD,.slice aU nU cU,.int .i64 r.k,.slice aT r.n cT,.int .u32 r.nx] 36)).alloc (.cells #[.bool false,.int .u32 0,.int .u32 0,.slice none 0 0,.slice none 0 0,.slice none 0 0,.slice none 0 0,.slice none 0 0,.int .i64 0,.slice none 0 0,.int .u32 0] 36))):=BE.start _ _ _ _
 have HL1:Hid (w.heap.size<((w.alloc (.cells #[.bool r.ok,.int .u32 r.g,.int .u32 r.t,.slice aSD nSD cSD,.slice aSU nSU cSU,.slice aF mF cF,.slice aD nD cD,.slice aU nU cU,.int .i64 r.k,.slice aT r.n cT,.int .u32 r.nx] 36)).alloc (.cells #[.bool false,.int .u32 0,.int .u32 0,.slice none 0 0,.slice none 0 0,.slice none 0 0,.slice none 0 0,.slice none 0 0,.int .i64 0,.slice none 0 0,.int .u32 0] 36)).heap.size):=(Array.getElem?_eq_some_iff.1 HE1.out.b0).1
 clear A1 A2 A3 A4 A5 A6 e1 e2 e3 e4 e5 e6 l1 l2 l3 l4 l5 l6
 go_enter Tryz.func105,Tryz.ntmps105
 go_wp2_with fail
 generalize ((w.alloc (.cells #[.bool r.ok,.int .u32 r.g,.int .u32 r.t,.slice aSD nSD cSD,.slice aSU nSU cSU,.slice aF mF cF,.slice aD nD cD,.slice aU nU cU,.int .i64 r.k,.slice aT r.n cT,.int .u32 r.nx] 36)).alloc (.cells #[.bool false,.int .u32 0,.int .u32 0,.slice none 0 0,.slice none 0 0,.slice none 0 0,.slice none 0 0,.slice none 0 0,.int .i64 0,.slice none 0 0,.int .u32 0] 36))=w1 at *
 refine wp_region_any (by kernel_rfl) ?_
 refine wpAny_slotsF 18 (fun _ a b=>Below a.heap.size a b) (frame:=(fun (a b c d e f g h i j k l m n o p:Value)=>fun (t:Nat→Value)=>({ tmps:=List.toArray [a,b,c,t 17,t 0,t 1,t 2,t 3,t 4,t 5,t 6,t 7,t 8,t 9,t 10,t 11,t 12,t 13,t 14,t 15,t 16,d,e,f,g,h,i,j,k,l,m,n,o,p],defers:=[] }:Act)) _ _ _ _ _ _ _ _ _ _ _ _ _ _ _ _)
  (Ext:=fun L u w'=>ApH w1 [] L u w') (Good:=fun i L w' v=>if i=0 then v=.pointer (some ⟨w.heap.size,1,none⟩) else if i=1 then v=.pointer (some ⟨w.heap.size,1,none⟩) else if i=2 then v=.int .u32 r.g else if i=3 then v=.pointer (some ⟨w.heap.size,1,none⟩) else if i=4 then v=.pointer (some ⟨w.heap.size,2,none⟩) else if i=5 then v=.int .u32 r.t else if i=6 then EmS w1.heap.size 2 w' v else if i=7 then v=.pointer (some ⟨w.heap.size,1,none⟩) else if i=8 then v=.pointer (some ⟨w.heap.size,3,none⟩) else if i=9 then v=.slice aSD nSD cSD else if i=10 then Iow w1.heap.size w' v r.sD else if i=11 then EmS w1.heap.size 2 w' v else if i=12 then v=.pointer (some ⟨w.heap.size,1,none⟩) else if i=13 then v=.pointer (some ⟨w.heap.size,4,none⟩) else if i=14 then v=.slice aSU nSU cSU else if i=15 then Iow w1.heap.size w' v r.sU else if i=16 then SNW w1.heap.size r.g r.t r.sD r.sU w' v else if i=17 then NwS w1.heap.size w' v else True) (Fin:=FinC 17 w1 r.g r.t r.sD r.sU) rfl (by kernel_rfl) ?hstab (by kernel_rfl) ?hop ?hend ?hdone _ _ ((fun (x0 x1 x2 x3 x4 x5 x6 x7 x8 x9 x10 x11 x12 x13 x14 x15 x16 x17:Value)=>fun (i:Nat)=>if i=0 then x0 else if i=1 then x1 else if i=2 then x2 else if i=3 then x3 else if i=4 then x4 else if i=5 then x5 else if i=6 then x6 else if i=7 then x7 else if i=8 then x8 else if i=9 then x9 else if i=10 then x10 else if i=11 then x11 else if i=12 then x12 else if i=13 then x13 else if i=14 then x14 else if i=15 then x15 else if i=16 then x16 else if i=17 then x17 else undef) _ _ _ _ _ _ _ _ _ _ _ _ _ _ _ _ _ _) _ (by simp) ?none ?ext (by simp)
 case none=>intro i;rw[Array.getD_eq_getD_getElem?,Array.getElem?_replicate];split<;>rfl
 case ext=>exact ApH.start w1 [] _ _ (fun i=>by rw[Array.getD_eq_getD_getElem?,Array.getElem?_replicate];split<;>rfl) ⟨rfl,rfl,rfl,Nat.le_refl _,fun _ _=>rfl⟩
 case hstab=>
  intro j L w9 w' i v _ hM _ _ h;by_cases h6:j=6
  ·subst h6;simp at h ⊢;exact h.below hM
  by_cases h10:j=10
  ·subst h10;simp at h ⊢;exact h.below hM
  by_cases h11:j=11
  ·subst h11;simp at h ⊢;exact h.below hM
  by_cases h15:j=15
  ·subst h15;simp at h ⊢;exact h.below hM
  by_cases h16:j=16
  ·subst h16;simp at h ⊢;exact h.below hM
  by_cases h17:j=17
  ·subst h17;simp at h ⊢;exact h.below hM
  simp only[if_neg h6,if_neg h10,if_neg h11,if_neg h15,if_neg h16,if_neg h17] at h ⊢;exact h
 case hop=>
  intro i o L t w' hi ho hLi hx hdep K hK;obtain rfl|rfl|rfl|rfl|rfl|rfl|rfl|rfl|rfl|rfl|rfl|rfl|rfl|rfl|rfl|rfl|rfl|rfl:i=0∨i=1∨i=2∨i=3∨i=4∨i=5∨i=6∨i=7∨i=8∨i=9∨i=10∨i=11∨i=12∨i=13∨i=14∨i=15∨i=16∨i=17:=by omega
  all_goals(simp at ho;subst ho)
  ·clear hdep;have hK':=hK w' (.pointer (some ⟨w.heap.size,1,none⟩)) (by simp) (hx.step 0 _ (Below.refl _ _) (fun h=>absurd h (by decide))) (Below.refl _ _);clear hK;rw[if_pos (by rfl)];go_simp;simpa[upd] using hK'
  ·have d0:t 0=.pointer (some ⟨w.heap.size,1,none⟩):=by simpa using(hdep ⟨0,.data⟩ (by simp) rfl).2
   clear hdep;have hK':=hK w' (.pointer (some ⟨w.heap.size,1,none⟩)) (by simp) (hx.step 1 _ (Below.refl _ _) (fun h=>absurd h (by decide))) (Below.refl _ _);clear hK;rw[if_pos (by rfl)];go_simp;simpa[upd,d0] using hK'
  ·have d1:t 1=.pointer (some ⟨w.heap.size,1,none⟩):=by simpa using(hdep ⟨1,.data⟩ (by simp) rfl).2
   clear hdep;have cc:w'.cell? ⟨w.heap.size,1,none⟩=some (.int .u32 r.g):=by rw[World.cell?_of_block (a:=⟨w.heap.size,1,none⟩) (w:=w1) (hx.below.block _ HL1.out),cell_of_row w1 w.heap.size 1 _ _ _ HE1.out.b0];rfl
   have hK':=hK w' (.int .u32 r.g) (by simp) (hx.step 2 _ (Below.refl _ _) (fun h=>absurd h (by decide))) (Below.refl _ _);clear hK;rw[if_pos (by rfl)];go_simp;simpa[upd,d1] using hK'
  ·clear hdep;have hK':=hK w' (.pointer (some ⟨w.heap.size,1,none⟩)) (by simp) (hx.step 3 _ (Below.refl _ _) (fun h=>absurd h (by decide))) (Below.refl _ _);clear hK;rw[if_pos (by rfl)];go_simp;simpa[upd] using hK'
  ·have d3:t 3=.pointer (some ⟨w.heap.size,1,none⟩):=by simpa using(hdep ⟨3,.data⟩ (by simp) rfl).2
   clear hdep;have hK':=hK w' (.pointer (some ⟨w.heap.size,2,none⟩)) (by simp) (hx.step 4 _ (Below.refl _ _) (fun h=>absurd h (by decide))) (Below.refl _ _);clear hK;rw[if_pos (by rfl)];go_simp;simpa[upd,d3] using hK'
  ·have d4:t 4=.pointer (some ⟨w.heap.size,2,none⟩):=by simpa using(hdep ⟨4,.data⟩ (by simp) rfl).2
   clear hdep;have cc:w'.cell? ⟨w.heap.size,2,none⟩=some (.int .u32 r.t):=by rw[World.cell?_of_block (a:=⟨w.heap.size,2,none⟩) (w:=w1) (hx.below.block _ HL1.out),cell_of_row w1 w.heap.size 2 _ _ _ HE1.out.b0];rfl
   have hK':=hK w' (.int .u32 r.t) (by simp) (hx.step 5 _ (Below.refl _ _) (fun h=>absurd h (by decide))) (Below.refl _ _);clear hK;rw[if_pos (by rfl)];go_simp;simpa[upd,d4] using hK'
  ·clear hdep;have hsz:w1.heap.size≤w'.heap.size:=hx.below.size;have bb:Below w'.heap.size w' (w'.alloc (.cells #[] 2)):=(Below.refl _ _).alloc (Nat.le_refl _) _;have hK':=hK (w'.alloc (.cells #[] 2)) (.slice (some ⟨w'.heap.size,0,none⟩) 0 0) (by simpa using EmS.new 2 w' hsz) (hx.step 6 _ bb (fun h=>absurd h (by decide))) bb;clear hK bb;rw[if_pos (by rfl)];go_simp;simpa[upd] using hK'
  ·clear hdep;have hK':=hK w' (.pointer (some ⟨w.heap.size,1,none⟩)) (by simp) (hx.step 7 _ (Below.refl _ _) (fun h=>absurd h (by decide))) (Below.refl _ _);clear hK;rw[if_pos (by rfl)];go_simp;simpa[upd] using hK'
  ·have d7:t 7=.pointer (some ⟨w.heap.size,1,none⟩):=by simpa using(hdep ⟨7,.data⟩ (by simp) rfl).2
   clear hdep;have hK':=hK w' (.pointer (some ⟨w.heap.size,3,none⟩)) (by simp) (hx.step 8 _ (Below.refl _ _) (fun h=>absurd h (by decide))) (Below.refl _ _);clear hK;rw[if_pos (by rfl)];go_simp;simpa[upd,d7] using hK'
  ·have d8:t 8=.pointer (some ⟨w.heap.size,3,none⟩):=by simpa using(hdep ⟨8,.data⟩ (by simp) rfl).2
   clear hdep;have cc:w'.cell? ⟨w.heap.size,3,none⟩=some (.slice aSD nSD cSD):=by rw[World.cell?_of_block (a:=⟨w.heap.size,3,none⟩) (w:=w1) (hx.below.block _ HL1.out),cell_of_row w1 w.heap.size 3 _ _ _ HE1.out.b0];rfl
   have hK':=hK w' (.slice aSD nSD cSD) (by simp) (hx.step 9 _ (Below.refl _ _) (fun h=>absurd h (by decide))) (Below.refl _ _);clear hK;rw[if_pos (by rfl)];go_simp;simpa[upd,d8] using hK'
  ·have f6:EmS w1.heap.size 2 w' (t 6):=by simpa using(hdep ⟨6,.data⟩ (by simp) rfl).2
   have d9:t 9=.slice aSD nSD cSD:=by simpa using(hdep ⟨9,.data⟩ (by simp) rfl).2
   clear hdep;have hsz:w1.heap.size≤w'.heap.size:=hx.below.size;have bw:Below w.heap.size w w':=HE1.out.below.trans (hx.below.mono HE1.out.below.size);have hK':∀ ww v,Iow w1.heap.size ww v r.sD→Below w'.heap.size w' ww→K _ ww:=fun ww v hv hb=>hK ww v (by simpa using hv) (hx.step 10 v hb (fun h=>absurd h (by decide))) hb
   clear hK;rw[if_pos (by rfl)];refine wp_appG 28 2 (.int .i64 0) 1 8 Tryz.infoI64 Tryz.underlying28 rfl (by decide) (by decide) w' (.tmp 10) (.tmp 13) rfl w1.heap.size (t 6) rfl f6 aSD nSD cSD r.sD d9 (by rw[HN.out.1,Nat.mul_one]) (HA.out.1.below bw) HM.out.1 hsz ?_;intro v' ww h1 h2;have hK2:=hK' ww v' (by unfold Iow;rw[HN.out.1];exact h1) h2;clear hK' h1 h2;simpa[upd,Act.put] using hK2
  ·clear hdep;have hsz:w1.heap.size≤w'.heap.size:=hx.below.size;have bb:Below w'.heap.size w' (w'.alloc (.cells #[] 2)):=(Below.refl _ _).alloc (Nat.le_refl _) _;have hK':=hK (w'.alloc (.cells #[] 2)) (.slice (some ⟨w'.heap.size,0,none⟩) 0 0) (by simpa using EmS.new 2 w' hsz) (hx.step 11 _ bb (fun h=>absurd h (by decide))) bb;clear hK bb;rw[if_pos (by rfl)];go_simp;simpa[upd] using hK'
  ·clear hdep;have hK':=hK w' (.pointer (some ⟨w.heap.size,1,none⟩)) (by simp) (hx.step 12 _ (Below.refl _ _) (fun h=>absurd h (by decide))) (Below.refl _ _);clear hK;rw[if_pos (by rfl)];go_simp;simpa[upd] using hK'
  ·have d12:t 12=.pointer (some ⟨w.heap.size,1,none⟩):=by simpa using(hdep ⟨12,.data⟩ (by simp) rfl).2
   clear hdep;have hK':=hK w' (.pointer (some ⟨w.heap.size,4,none⟩)) (by simp) (hx.step 13 _ (Below.refl _ _) (fun h=>absurd h (by decide))) (Below.refl _ _);clear hK;rw[if_pos (by rfl)];go_simp;simpa[upd,d12] using hK'
  ·have d13:t 13=.pointer (some ⟨w.heap.size,4,none⟩):=by simpa using(hdep ⟨13,.data⟩ (by simp) rfl).2
   clear hdep;have cc:w'.cell? ⟨w.heap.size,4,none⟩=some (.slice aSU nSU cSU):=by rw[World.cell?_of_block (a:=⟨w.heap.size,4,none⟩) (w:=w1) (hx.below.block _ HL1.out),cell_of_row w1 w.heap.size 4 _ _ _ HE1.out.b0];rfl
   have hK':=hK w' (.slice aSU nSU cSU) (by simp) (hx.step 14 _ (Below.refl _ _) (fun h=>absurd h (by decide))) (Below.refl _ _);clear hK;rw[if_pos (by rfl)];go_simp;simpa[upd,d13] using hK'
  ·have f11:EmS w1.heap.size 2 w' (t 11):=by simpa using(hdep ⟨11,.data⟩ (by simp) rfl).2
   have d14:t 14=.slice aSU nSU cSU:=by simpa using(hdep ⟨14,.data⟩ (by simp) rfl).2
   clear hdep;have hsz:w1.heap.size≤w'.heap.size:=hx.below.size;have bw:Below w.heap.size w w':=HE1.out.below.trans (hx.below.mono HE1.out.below.size);have hK':∀ ww v,Iow w1.heap.size ww v r.sU→Below w'.heap.size w' ww→K _ ww:=fun ww v hv hb=>hK ww v (by simpa using hv) (hx.step 15 v hb (fun h=>absurd h (by decide))) hb
   clear hK;rw[if_pos (by rfl)];refine wp_appG 28 2 (.int .i64 0) 1 8 Tryz.infoI64 Tryz.underlying28 rfl (by decide) (by decide) w' (.tmp 15) (.tmp 18) rfl w1.heap.size (t 11) rfl f11 aSU nSU cSU r.sU d14 (by rw[HN.out.2.1,Nat.mul_one]) (HA.out.2.1.below bw) HM.out.2.1 hsz ?_;intro v' ww h1 h2;have hK2:=hK' ww v' (by unfold Iow;rw[HN.out.2.1];exact h1) h2;clear hK' h1 h2;simpa[upd,Act.put] using hK2
  ·have d2:t 2=.int .u32 r.g:=by simpa using(hdep ⟨2,.data⟩ (by simp) rfl).2
   have d5:t 5=.int .u32 r.t:=by simpa using(hdep ⟨5,.data⟩ (by simp) rfl).2
   have f10:Iow w1.heap.size w' (t 10) r.sD:=by simpa using(hdep ⟨10,.data⟩ (by simp) rfl).2
   have f15:Iow w1.heap.size w' (t 15) r.sU:=by simpa using(hdep ⟨15,.data⟩ (by simp) rfl).2
   clear hdep;obtain⟨bSD,mSD,dSD,eD⟩:=f10.form;obtain⟨bSU,mSU,dSU,eU⟩:=f15.form;rw[eD] at f10;rw[eU] at f15;have hsv:SNW w1.heap.size r.g r.t r.sD r.sU w' (.agg #[.int .u32 r.g,.int .u32 r.t,.slice bSD mSD dSD,.slice bSU mSU dSU]):=⟨bSD,mSD,dSD,bSU,mSU,dSU,rfl,f10,f15⟩
   have hK':=hK w' (.agg #[.int .u32 r.g,.int .u32 r.t,.slice bSD mSD dSD,.slice bSU mSU dSU]) (by simpa using hsv) (hx.step 16 _ (Below.refl _ _) (fun h=>absurd h (by decide))) (Below.refl _ _);clear hK f10 f15 hsv;rw[if_pos (by rfl)];go_simp;simpa[upd,d2,d5,eD,eU] using hK'
  ·clear hdep;have hsz:w1.heap.size≤w'.heap.size:=hx.below.size;have bb:Below w'.heap.size w' (w'.alloc (.cells #[.int .u32 0,.int .u32 0,.slice none 0 0,.slice none 0 0] 30)):=(Below.refl _ _).alloc (Nat.le_refl _) _;have hnw:NwS w1.heap.size (w'.alloc (.cells #[.int .u32 0,.int .u32 0,.slice none 0 0,.slice none 0 0] 30)) (.pointer (some ⟨w'.heap.size,0,none⟩)):=⟨w'.heap.size,rfl,hsz,heap_alloc_new w' _⟩
   have hK':=hK (w'.alloc (.cells #[.int .u32 0,.int .u32 0,.slice none 0 0,.slice none 0 0] 30)) (.pointer (some ⟨w'.heap.size,0,none⟩)) (by simpa using hnw) (hx.step 17 _ bb (fun h=>absurd h (by decide))) bb;clear hK bb hnw;rw[if_pos (by rfl)];go_simp;simpa[upd] using hK'
 case hend=>
  intro o L t w' ho hx hg K hK;simp at ho;subst ho;have f16:SNW w1.heap.size r.g r.t r.sD r.sU w' (t 16):=by simpa using(hg 16 (by decide)).2
  have f17:NwS w1.heap.size w' (t 17):=by simpa using(hg 17 (by decide)).2
  clear hg;obtain⟨bSD,mSD,dSD,bSU,mSU,dSU,e16,i1,i2⟩:=f16;obtain⟨q,e17,hq,hbx⟩:=f17;have hTT:(30:TypeId)≠2:=by decide
  have hK':∀ ww,Wr q w' ww→ww.heap[q]?=some (.cells #[.int .u32 r.g,.int .u32 r.t,.slice bSD mSD dSD,.slice bSU mSU dSU] 30 (0,0))→K _ ww:=fun ww hw hr=>hK ww undef ⟨q,bSD,mSD,dSD,bSU,mSU,dSU,by simp[upd];exact e17,hq,hr,i1.keepN hbx hTT hw,i2.keepN hbx hTT hw,hx.below.trans (hw.below hq)⟩
  clear hK i1 i2 hTT;rw[if_pos (by rfl)];refine wp_store_row 30 (.tmp 3) (.tmp 20) rfl q #[.int .u32 r.g,.int .u32 r.t,.slice bSD mSD dSD,.slice bSU mSU dSU] e17 e16 30 _ hbx HSN.out rfl (all4s _ _ _ _ _ _ _ _) ?_;have hK2:=hK' _ (Wr.setRow _ _ _) (setRow_heap _ _ _ _ _ _ hbx);clear hK';simpa[upd,Act.put] using hK2
 case hdone=>
  intro t w2 hf;obtain⟨Q,bSD,mSD,dSD,bSU,mSU,dSU,eQ,hQ,hbx,i1,i2,hbw⟩:=hf;have HE2:Hid (BE w 36 #[.bool r.ok,.int .u32 r.g,.int .u32 r.t,.slice aSD nSD cSD,.slice aSU nSU cSU,.slice aF mF cF,.slice aD nD cD,.slice aU nU cU,.int .i64 r.k,.slice aT r.n cT,.int .u32 r.nx] #[.bool false,.int .u32 0,.int .u32 0,.slice none 0 0,.slice none 0 0,.slice none 0 0,.slice none 0 0,.slice none 0 0,.int .i64 0,.slice none 0 0,.int .u32 0] w2):=HE1.out.call hbw;have HL2:Hid (w.heap.size<w2.heap.size):=Nat.lt_of_lt_of_le HL1.out hbw.size;have HQ:Hid (w2.heap[Q]?=some (.cells #[.int .u32 r.g,.int .u32 r.t,.slice bSD mSD dSD,.slice bSU mSU dSU] 30 (0,0))∧Q<w2.heap.size):=⟨hbx,(Array.getElem?_eq_some_iff.1 hbx).1⟩
  have HI:Hid (Iow w1.heap.size w2 (.slice bSD mSD dSD) r.sD∧Iow w1.heap.size w2 (.slice bSU mSU dSU) r.sU∧w.heap.size+1<w1.heap.size):=⟨i1,i2,(Array.getElem?_eq_some_iff.1 HE1.out.b1).1⟩
  simp only[eQ];clear eQ hQ hbx i1 i2 hbw;go_wp2_with fail;refine wp_region_any (by kernel_rfl) ?_;refine wpAny_slotsF 13 (fun _ a b=>Below a.heap.size a b) (frame:=(fun (a b c d e f g h i j k l m n o p q r s u v:Value)=>fun (t:Nat→Value)=>({ tmps:=List.toArray [a,b,c,d,e,f,g,h,i,j,k,l,m,n,o,p,q,r,s,u,v,t 0,t 1,t 2,t 3,t 4,t 5,t 6,t 7,t 8,t 9,t 10,t 11,t 12],defers:=[] }:Act)) _ _ _ _ _ _ _ _ _ _ _ _ _ _ _ _ _ _ _ _ _)
   (Ext:=fun L u w'=>ApH w2 [] L u w') (Good:=fun i L w' v=>if i=0 then v=.pointer (some ⟨w.heap.size,0,none⟩) else if i=1 then v=.bool r.ok else if i=2 then v=.agg #[.int .u32 r.g,.int .u32 r.t,.slice bSD mSD dSD,.slice bSU mSU dSU] else if i=3 then EmS w2.heap.size 112 w' v else if i=4 then v=.pointer (some ⟨w.heap.size,5,none⟩) else if i=5 then v=.slice aF mF cF else if i=6 then FO w2.heap.size w' v r.F mF else if i=7 then v=.pointer (some ⟨w.heap.size,6,none⟩) else if i=8 then v=.agg #[.slice aD nD cD,.slice aU nU cU,.int .i64 r.k,.slice aT r.n cT] else if i=9 then CpBd w2.heap.size r.k r.D r.U r.T r.n w' v else if i=10 then v=.pointer (some ⟨w.heap.size,10,none⟩) else if i=11 then v=.int .u32 r.nx else if i=12 then CpI w2.heap.size r bSD bSU mSD dSD mSU dSU mF w' v else True) (Fin:=fun _ ww=>∃ C,ww.heap[w.heap.size+1]?=some (.cells C 36 (0,0))∧ImX w.heap.size ww (.agg C) r∧C.size=11∧Below w.heap.size w ww) rfl (by kernel_rfl) ?hstab (by kernel_rfl) ?hop ?hend ?hdone _ _ ((fun (x0 x1 x2 x3 x4 x5 x6 x7 x8 x9 x10 x11 x12:Value)=>fun (i:Nat)=>if i=0 then x0 else if i=1 then x1 else if i=2 then x2 else if i=3 then x3 else if i=4 then x4 else if i=5 then x5 else if i=6 then x6 else if i=7 then x7 else if i=8 then x8 else if i=9 then x9 else if i=10 then x10 else if i=11 then x11 else if i=12 then x12 else undef) _ _ _ _ _ _ _ _ _ _ _ _ _) _ (by simp) ?none ?ext (by simp)
  case none=>intro i;rw[Array.getD_eq_getD_getElem?,Array.getElem?_replicate];split<;>rfl
  case ext=>exact ApH.start w2 [] _ _ (fun i=>by rw[Array.getD_eq_getD_getElem?,Array.getElem?_replicate];split<;>rfl) ⟨rfl,rfl,rfl,Nat.le_refl _,fun _ _=>rfl⟩
  case hstab=>
   intro j L w9 w' i v _ hM _ _ h;by_cases h3:j=3
   ·subst h3;simp at h ⊢;exact h.below hM
   by_cases h6:j=6
   ·subst h6;simp at h ⊢;exact h.below hM
   by_cases h9:j=9
   ·subst h9;simp at h ⊢;exact h.below hM
   by_cases h12:j=12
   ·subst h12;simp at h ⊢;exact h.below hM
   simp only[if_neg h3,if_neg h6,if_neg h9,if_neg h12] at h ⊢;exact h
  case hop=>
   intro i o L t w' hi ho hLi hx hdep K hK;obtain rfl|rfl|rfl|rfl|rfl|rfl|rfl|rfl|rfl|rfl|rfl|rfl|rfl:i=0∨i=1∨i=2∨i=3∨i=4∨i=5∨i=6∨i=7∨i=8∨i=9∨i=10∨i=11∨i=12:=by omega
   all_goals(simp at ho;subst ho)
   ·clear hdep;have hK':=hK w' (.pointer (some ⟨w.heap.size,0,none⟩)) (by simp) (hx.step 0 _ (Below.refl _ _) (fun h=>absurd h (by decide))) (Below.refl _ _);clear hK;rw[if_pos (by rfl)];go_simp;simpa[upd] using hK'
   ·have d0:t 0=.pointer (some ⟨w.heap.size,0,none⟩):=by simpa using(hdep ⟨0,.data⟩ (by simp) rfl).2
    clear hdep;have cc:w'.cell? ⟨w.heap.size,0,none⟩=some (.bool r.ok):=by rw[World.cell?_of_block (a:=⟨w.heap.size,0,none⟩) (w:=w2) (hx.below.block _ HL2.out),cell_of_row w2 w.heap.size 0 _ _ _ HE2.out.b0];rfl
    have hK':=hK w' (.bool r.ok) (by simp) (hx.step 1 _ (Below.refl _ _) (fun h=>absurd h (by decide))) (Below.refl _ _);clear hK;rw[if_pos (by rfl)];go_simp;simpa[upd,d0] using hK'
   ·clear hdep;have hK':=hK w' (.agg #[.int .u32 r.g,.int .u32 r.t,.slice bSD mSD dSD,.slice bSU mSU dSU]) (by simp) (hx.step 2 _ (Below.refl _ _) (fun h=>absurd h (by decide))) (Below.refl _ _);clear hK;rw[if_pos (by rfl)];refine wp_load_row 30 (.tmp 3) rfl Q rfl 30 _ (0,0) _ ((hx.below.block _ HQ.out.2).trans HQ.out.1) Tryz.underlying30 rfl HSN.out ?_;simpa[upd,Act.put] using hK'
   ·clear hdep;have hsz:w2.heap.size≤w'.heap.size:=hx.below.size;have bb:Below w'.heap.size w' (w'.alloc (.cells #[] 112)):=(Below.refl _ _).alloc (Nat.le_refl _) _;have hK':=hK (w'.alloc (.cells #[] 112)) (.slice (some ⟨w'.heap.size,0,none⟩) 0 0) (by simpa using EmS.new 112 w' hsz) (hx.step 3 _ bb (fun h=>absurd h (by decide))) bb;clear hK bb;rw[if_pos (by rfl)];go_simp;simpa[upd] using hK'
   ·clear hdep;have hK':=hK w' (.pointer (some ⟨w.heap.size,5,none⟩)) (by simp) (hx.step 4 _ (Below.refl _ _) (fun h=>absurd h (by decide))) (Below.refl _ _);clear hK;rw[if_pos (by rfl)];go_simp;simpa[upd] using hK'
   ·have d4:t 4=.pointer (some ⟨w.heap.size,5,none⟩):=by simpa using(hdep ⟨4,.data⟩ (by simp) rfl).2
    clear hdep;have cc:w'.cell? ⟨w.heap.size,5,none⟩=some (.slice aF mF cF):=by rw[World.cell?_of_block (a:=⟨w.heap.size,5,none⟩) (w:=w2) (hx.below.block _ HL2.out),cell_of_row w2 w.heap.size 5 _ _ _ HE2.out.b0];rfl
    have hK':=hK w' (.slice aF mF cF) (by simp) (hx.step 5 _ (Below.refl _ _) (fun h=>absurd h (by decide))) (Below.refl _ _);clear hK;rw[if_pos (by rfl)];go_simp;simpa[upd,d4] using hK'
   ·have f3:EmS w2.heap.size 112 w' (t 3):=by simpa using(hdep ⟨3,.data⟩ (by simp) rfl).2
    have d5:t 5=.slice aF mF cF:=by simpa using(hdep ⟨5,.data⟩ (by simp) rfl).2
    clear hdep;have hsz:w2.heap.size≤w'.heap.size:=hx.below.size;have bw:Below w.heap.size w w':=HE2.out.below.trans (hx.below.mono HE2.out.below.size);have hK':∀ ww v,FO w2.heap.size ww v r.F mF→Below w'.heap.size w' ww→K _ ww:=fun ww v hv hb=>hK ww v (by simpa using hv) (hx.step 6 v hb (fun h=>absurd h (by decide))) hb
    clear hK;rw[if_pos (by rfl)];refine wp_appFr w' (.tmp 24) (.tmp 26) rfl w2.heap.size (t 3) rfl f3 aF mF cF r.F d5 HN.out.2.2 (FAt.below HA.out.2.2 bw) HM.out.2.2 hsz ?_;intro v' ww h1 h2;have hK2:=hK' ww v' h1 h2;clear hK' h1 h2;simpa[upd,Act.put] using hK2
   ·clear hdep;have hK':=hK w' (.pointer (some ⟨w.heap.size,6,none⟩)) (by simp) (hx.step 7 _ (Below.refl _ _) (fun h=>absurd h (by decide))) (Below.refl _ _);clear hK;rw[if_pos (by rfl)];go_simp;simpa[upd] using hK'
   ·have d7:t 7=.pointer (some ⟨w.heap.size,6,none⟩):=by simpa using(hdep ⟨7,.data⟩ (by simp) rfl).2
    clear hdep;have c6:w'.cell? ⟨w.heap.size,6,none⟩=some (.slice aD nD cD):=by rw[World.cell?_of_block (a:=⟨w.heap.size,6,none⟩) (w:=w2) (hx.below.block _ HL2.out),cell_of_row w2 w.heap.size 6 _ _ _ HE2.out.b0];rfl
    have c7:w'.cell? ⟨w.heap.size,7,none⟩=some (.slice aU nU cU):=by rw[World.cell?_of_block (a:=⟨w.heap.size,7,none⟩) (w:=w2) (hx.below.block _ HL2.out),cell_of_row w2 w.heap.size 7 _ _ _ HE2.out.b0];rfl
    have c8:w'.cell? ⟨w.heap.size,8,none⟩=some (.int .i64 r.k):=by rw[World.cell?_of_block (a:=⟨w.heap.size,8,none⟩) (w:=w2) (hx.below.block _ HL2.out),cell_of_row w2 w.heap.size 8 _ _ _ HE2.out.b0];rfl
    have c9:w'.cell? ⟨w.heap.size,9,none⟩=some (.slice aT r.n cT):=by rw[World.cell?_of_block (a:=⟨w.heap.size,9,none⟩) (w:=w2) (hx.below.block _ HL2.out),cell_of_row w2 w.heap.size 9 _ _ _ HE2.out.b0];rfl
    have hK':=hK w' (.agg #[.slice aD nD cD,.slice aU nU cU,.int .i64 r.k,.slice aT r.n cT]) (by simp) (hx.step 8 _ (Below.refl _ _) (fun h=>absurd h (by decide))) (Below.refl _ _);clear hK;rw[if_pos (by rfl)];go_simp;simpa[upd,d7] using hK'
   ·have d8:t 8=.agg #[.slice aD nD cD,.slice aU nU cU,.int .i64 r.k,.slice aT r.n cT]:=by simpa using(hdep ⟨8,.data⟩ (by simp) rfl).2
    clear hdep;have bw:Below w.heap.size w w':=HE2.out.below.trans (hx.below.mono HE2.out.below.size);have hsz:w2.heap.size≤w'.heap.size:=hx.below.size;have A:=HC5.out w' bw;have hK':∀ ww v,CpBd w2.heap.size r.k r.D r.U r.T r.n ww v→Below w'.heap.size w' ww→K _ ww:=fun ww v hv hb=>hK ww v (by simpa using hv) (hx.step 9 v hb (fun h=>absurd h (by decide))) hb
    clear hK;rw[if_pos (by rfl)];go_simp;try simp only[d8]
    refine A.mono ?_;rintro e w9 ⟨cs9,rfl,h9,hb9⟩;have hK2:=hK' w9 (.agg cs9) ⟨cs9,rfl,h9.mono hsz⟩ hb9;clear hK' A h9 hb9;go_simp;simpa[upd,d8] using hK2
   ·clear hdep;have hK':=hK w' (.pointer (some ⟨w.heap.size,10,none⟩)) (by simp) (hx.step 10 _ (Below.refl _ _) (fun h=>absurd h (by decide))) (Below.refl _ _);clear hK;rw[if_pos (by rfl)];go_simp;simpa[upd] using hK'
   ·have d10:t 10=.pointer (some ⟨w.heap.size,10,none⟩):=by simpa using(hdep ⟨10,.data⟩ (by simp) rfl).2
    clear hdep;have cc:w'.cell? ⟨w.heap.size,10,none⟩=some (.int .u32 r.nx):=by rw[World.cell?_of_block (a:=⟨w.heap.size,10,none⟩) (w:=w2) (hx.below.block _ HL2.out),cell_of_row w2 w.heap.size 10 _ _ _ HE2.out.b0];rfl
    have hK':=hK w' (.int .u32 r.nx) (by simp) (hx.step 11 _ (Below.refl _ _) (fun h=>absurd h (by decide))) (Below.refl _ _);clear hK;rw[if_pos (by rfl)];go_simp;simpa[upd,d10] using hK'
   ·have d1:t 1=.bool r.ok:=by simpa using(hdep ⟨1,.data⟩ (by simp) rfl).2
    have d2:t 2=.agg #[.int .u32 r.g,.int .u32 r.t,.slice bSD mSD dSD,.slice bSU mSU dSU]:=by simpa using(hdep ⟨2,.data⟩ (by simp) rfl).2
    have f6:FO w2.heap.size w' (t 6) r.F mF:=by simpa using(hdep ⟨6,.data⟩ (by simp) rfl).2
    have f9:CpBd w2.heap.size r.k r.D r.U r.T r.n w' (t 9):=by simpa using(hdep ⟨9,.data⟩ (by simp) rfl).2
    have d11:t 11=.int .u32 r.nx:=by simpa using(hdep ⟨11,.data⟩ (by simp) rfl).2
    clear hdep;obtain⟨bF,dF,e6,_⟩:=f6.form;obtain⟨cs,e9,bD,mD,dD,bU,mU,dU,bT,dT,ec,i1,i2,i3⟩:=f9;rw[e6] at f6;subst ec;have hsv:CpI w2.heap.size r bSD bSU mSD dSD mSU dSU mF w' (.agg #[.bool r.ok,.int .u32 r.g,.int .u32 r.t,.slice bSD mSD dSD,.slice bSU mSU dSU,.slice bF mF dF,.slice bD mD dD,.slice bU mU dU,.int .i64 r.k,.slice bT r.n dT,.int .u32 r.nx]):=⟨bF,dF,bD,mD,dD,bU,mU,dU,bT,dT,rfl,f6,i1,i2,i3⟩
    have hK':=hK w' (.agg #[.bool r.ok,.int .u32 r.g,.int .u32 r.t,.slice bSD mSD dSD,.slice bSU mSU dSU,.slice bF mF dF,.slice bD mD dD,.slice bU mU dU,.int .i64 r.k,.slice bT r.n dT,.int .u32 r.nx]) (by simpa using hsv) (hx.step 12 _ (Below.refl _ _) (fun h=>absurd h (by decide))) (Below.refl _ _);clear hK f6 i1 i2 i3 hsv;rw[if_pos (by rfl)];go_simp;simpa[upd,d1,d2,e6,e9,d11] using hK'
  case hend=>
   intro o L t w' ho hx hg K hK;simp at ho;subst ho;have f12:CpI w2.heap.size r bSD bSU mSD dSD mSU dSU mF w' (t 12):=by simpa using(hg 12 (by decide)).2
   clear hg;obtain⟨bF,dF,bD,mD,dD,bU,mU,dU,bT,dT,e12,j0,j1,j2,j3⟩:=f12;have hrs:w'.heap[w.heap.size+1]?=some (.cells #[.bool false,.int .u32 0,.int .u32 0,.slice none 0 0,.slice none 0 0,.slice none 0 0,.slice none 0 0,.slice none 0 0,.int .i64 0,.slice none 0 0,.int .u32 0] 36 (0,0)):=(hx.below.block _ (Array.getElem?_eq_some_iff.1 HE2.out.b1).1).trans HE2.out.b1;have hK':∀ ww,Wr (w.heap.size+1) w' ww→ww.heap[w.heap.size+1]?=some (.cells #[.bool r.ok,.int .u32 r.g,.int .u32 r.t,.slice bSD mSD dSD,.slice bSU mSU dSU,.slice bF mF dF,.slice bD mD dD,.slice bU mU dU,.int .i64 r.k,.slice bT r.n dT,.int .u32 r.nx] 36 (0,0))→K _ ww:=fun ww hw hr=>hK ww undef (by
    have k1:=(HI.out.1.below hx.below).wr hw HI.out.2.2;have k2:=(HI.out.2.1.below hx.below).wr hw HI.out.2.2;have hlt:w.heap.size+1<w2.heap.size:=(Array.getElem?_eq_some_iff.1 HE2.out.b1).1;have k3:=FO.keep j0 (fun k hk _=>hw.block k (by omega));have k4:=j1.wr hw hlt;have k5:=j2.wr hw hlt;have k6:=j3.wr hw hlt;obtain⟨x1,y1,z1⟩:=k1.sat;obtain⟨x2,y2,z2⟩:=k2.sat;obtain⟨x4,y4,z4⟩:=k4.sat;obtain⟨x5,y5,z5⟩:=k5.sat;obtain⟨bF',dF',e3,x3,_,z3⟩:=k3.form;cases e3;obtain⟨x6,y6,z6⟩:=tapO_at k6;have hl1:w.heap.size≤w1.heap.size:=HE1.out.below.size;have hl2:w.heap.size≤w2.heap.size:=HE2.out.below.size;exact⟨_,hr,⟨bSD,mSD,dSD,bSU,mSU,dSU,bF,mF,dF,bD,mD,dD,bU,mU,dU,bT,dT,rfl,⟨x1.at_,x2.at_,x3,x4.at_,x5.at_,x6,y1,y2,k3.len,y4,y5,y6⟩,z1.mono hl1 (Nat.le_refl _),z2.mono hl1 (Nat.le_refl _),z3.mono hl2 (Nat.le_refl _),z4.mono hl2 (Nat.le_refl _),z5.mono hl2 (Nat.le_refl _),z6.mono hl2 (Nat.le_refl _)⟩,rfl,(HE2.out.below.trans (hx.below.mono HE2.out.below.size)).trans (hw.below (by omega))⟩)
   clear hK j0 j1 j2 j3;rw[if_pos (by rfl)];refine wp_store_row 36 (.tmp 2) (.tmp 33) rfl (w.heap.size+1) #[.bool r.ok,.int .u32 r.g,.int .u32 r.t,.slice bSD mSD dSD,.slice bSU mSU dSU,.slice bF mF dF,.slice bD mD dD,.slice bU mU dU,.int .i64 r.k,.slice bT r.n dT,.int .u32 r.nx] rfl e12 36 _ hrs HSI.out rfl (by simp[Value.oneCell']) ?_;have hK2:=hK' _ (Wr.setRow _ _ _) (setRow_heap _ _ _ _ _ _ hrs);clear hK';simpa[upd,Act.put] using hK2
  case hdone=>
   intro t w9 hf;obtain⟨C,hr,hI,hz,hb9⟩:=hf;have HR9:Hid (w9.heap[w.heap.size+1]?=some (.cells C 36 (0,0))):=hr;have HF:Hid (ImX w.heap.size w9 (.agg C) r∧Below w.heap.size w w9):=⟨hI,hb9⟩
   have HS9:Hid ((Tryz.prog.info? 36).map (·.size)=some C.size):=by show _=_;rw[hz];exact HSI.out
   clear hr hI hz hb9;go_wp2_with fail;exact bodyPost_ret (v:=.agg C) (results_cell_row rfl _ _ (w.heap.size+1) 36 _ (0,0) _ rfl HR9.out Tryz.underlying36 rfl HS9.out) rfl ⟨_,rfl,HF.out.1,HF.out.2⟩
end Go.Proofs.YthmeoilbmfdhfaaGreat
