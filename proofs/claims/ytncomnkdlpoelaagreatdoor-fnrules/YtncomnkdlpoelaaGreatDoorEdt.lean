import Derived.Test.YtncomnkdlpoelaaGreatDoorMEso
import Derived.Test.YtncomnkdlpoelaaGreatDoorMU8i
import Derived.Test.YtncomnkdlpoelaaGreatDoorMEpm
import Derived.Deep.Cut
import Derived.BigRegion
namespace Go.Proofs.YtncomnkdlpoelaaGreatDoor
open Go.ChangeShapes Go.WideShapes Go.ChangeAt Go.RowKit
set_option linter.unusedVariables false
theorem wrapI (n:Int):-9223372036854775808≤IntKind.i64.wrap n∧IntKind.i64.wrap n≤9223372036854775807:=by rw[IntKind.wrap_i64];omega
def DssP (w:World) (e:Ending) (w':World):Prop:=
 ∃ aD nD cD aU nU cU k aT nT cT ak nk ck kd ta tn tc nw nn,e=.returned (.tuple #[.agg #[.slice aD nD cD,.slice aU nU cU,.int .i64 k,.slice aT nT cT],.slice ak nk ck,.agg #[.int .i64 kd,.slice ta tn tc,.int .i64 nw,.int .i64 nn]])∧DX (w.heap.size+2) aD nD cD aU nU cU k aT nT cT ak nk ck ta tn tc w'∧nk≤32∧Below w.heap.size w w'
set_option maxRecDepth 100000 in
set_option maxHeartbeats 16000000 in
theorem drawSS_any (x:Option Addr) (n cap:Nat) (zs:List Int) (w:World) (hl:zs.length=n) (hn:n≤1048576) (hz:Byte zs) (ha:At .u8 w x zs) :
  Calls Tryz.prog 4 #[.slice x n cap] w (DssP w):=by
 have b0:Below w.heap.size w ((w.alloc (.cells #[.slice none 0 0,.slice none 0 0,.int .i64 0,.slice none 0 0] 26)).alloc (.cells #[.int .i64 0,.slice none 0 0,.int .i64 0,.int .i64 0] 28)):=((Below.refl _ _).alloc (Nat.le_refl _) _).alloc (by simp) _;have HN:=hdI (new_any x n cap zs _ hl hn hz (ha.below b0));have h1:=heap_alloc2_old w (.cells #[.slice none 0 0,.slice none 0 0,.int .i64 0,.slice none 0 0] 26) (.cells #[.int .i64 0,.slice none 0 0,.int .i64 0,.int .i64 0] 28);have h3:=heap_alloc2_new w (.cells #[.slice none 0 0,.slice none 0 0,.int .i64 0,.slice none 0 0] 26) (.cells #[.int .i64 0,.slice none 0 0,.int .i64 0,.int .i64 0] 28);have HT:=hdI (show zs.length=n∧n≤1048576∧Byte zs∧At .u8 w x zs from⟨hl,hn,hz,ha⟩);have HR:=hdI (And.intro b0 (And.intro h1 h3));clear hl hn hz ha b0 h1 h3;go_enter Tryz.func4,Tryz.ntmps4;go_wp2_with fail;generalize ew:(w.alloc (.cells #[.slice none 0 0,.slice none 0 0,.int .i64 0,.slice none 0 0] 26)).alloc (.cells #[.int .i64 0,.slice none 0 0,.int .i64 0,.int .i64 0] 28)=w0 at *;have hs0:w0.heap.size=w.heap.size+2:=by rw[←ew];simp
 clear ew;refine HN.out.mono ?_;rintro e w1 ⟨rfl,hc1,B1,s1⟩;rw[hs0] at hc1 B1 s1 ⊢;have hbl:=HR.out.1.trans (B1.mono (show w.heap.size≤w.heap.size+2 by omega));have e1:w1.heap[w.heap.size]?=some (.cells #[.slice none 0 0,.slice none 0 0,.int .i64 0,.slice none 0 0] 26 (0,0)):=by rw[B1.block _ (by omega)];exact HR.out.2.1
 have e3:w1.heap[w.heap.size+1]?=some (.cells #[.int .i64 0,.slice none 0 0,.int .i64 0,.int .i64 0] 28 (0,0)):=by rw[B1.block _ (by omega)];exact HR.out.2.2
 have HD1:=hdI (show DR 28 zOp w x n cap w.heap.size (w.heap.size+1) #[.slice none 0 0,.slice none 0 0,.int .i64 0,.slice none 0 0] #[.int .i64 0,.slice none 0 0,.int .i64 0,.int .i64 0] w1 from⟨hbl,hc1,CurT.of_at HT.out.1 HT.out.2.1 HT.out.2.2.1 HT.out.2.2.2 hbl (by omega),e1,e3,e1,e3,by omega,by omega,by decide⟩);clear hbl e1 e3 hc1 B1 s1 HR HN HT hs0;have HBW:=hdI (drawSt_any (w.heap.size+2) x n cap _ HD1.out.cb HD1.out.ct);go_wp2_with fail;refine HBW.out.mono ?_;rintro e w2 ⟨v,rfl,aD,nD,cD,aU,nU,cU,k,aT,nT,cT,D,U,T,rfl,i1,i2,i3,pD,lD,pU,lT,hk,ap,hc,hw⟩;have hz1:w.heap.size+2+1≤w1.heap.size:=HD1.out.lt;have HD2:=hdI (HD1.out.to hw.wrT hc);have HL2:=hdI (show Ls (w.heap.size+2) w2 _ _ _ D U T nT from⟨IO.mono i1 hz1,IO.mono i2 hz1,TapO.mono i3 hz1,by omega,Nat.le_trans pU.len (by decide),by omega⟩);have HNS:=hdI (heap_alloc_new w2 (.cells #[.slice none 0 0,.slice none 0 0,.int .i64 0,.slice none 0 0] 26));have bS:Below w2.heap.size w2 ((w2.alloc (.cells #[.slice none 0 0,.slice none 0 0,.int .i64 0,.slice none 0 0] 26)).setRow w2.heap.size #[.slice aD nD cD,.slice aU nU cU,.int .i64 k,.slice aT nT cT]):=(below_new _ _).trans ((Wr.setRow _ _ _).below (Nat.le_refl _));have hz2:w.heap.size+2<w2.heap.size:=HD2.out.lt;have HD3:=hdI ((HD2.out.to (WrG.of_below bS).wrT (HD2.out.cb.bel bS).1).swS (setRow_heap _ _ _ _ _ _ HNS.out) (by omega));have HL3:=hdI (HL2.out.wrG (WrG.of_below bS));have hlD:=i1.sat.2.1;have hlU:=i2.sat.2.1;have hnU:=pU.len;have HAP:=hdI (And.intro ap (And.intro hk (show nD≤280∧nU≤280 by omega)));clear HD1 HBW i1 i2 i3 pD lD pU hc hw hz1 HD2 HL2 bS ap hk hlD hlU hnU
 go_upto_region 3 with (first
  |(refine wpList_store_row rfl 26 (.tmp 6) (.tmp 14) rfl w2.heap.size #[.slice aD nD cD,.slice aU nU cU,.int .i64 k,.slice aT nT cT] rfl rfl 26 _ HNS.out Tryz.sizeSt rfl (by simp[Value.oneCell']) ?_)
  |fail)
 clear HNS;generalize (w2.alloc (.cells #[.slice none 0 0,.slice none 0 0,.int .i64 0,.slice none 0 0] 26)).setRow w2.heap.size #[.slice aD nD cD,.slice aU nU cU,.int .i64 k,.slice aT nT cT]=w3 at *;generalize w2.heap.size=S at *;have HBW:=hdI (below_any (w.heap.size+2) x n cap 400 _ HD3.out.cb HD3.out.ct (by decide) (by decide));go_wp2_with fail;refine HBW.out.mono ?_;rintro e w4 ⟨y,rfl,y0,y1,hc,hw⟩;have HD4:=hdI (HD3.out.cur hc hw);have HL4:=hdI (HL3.out.wrG hw.wrG);clear HD3 HL3 HBW hc hw;have HBW:=hdI (pubO_any (1+y) w4 (by omega) (by omega));go_wp2_with fail;refine HBW.out.mono ?_;rintro e w5 ⟨v5,rfl,T5,b5⟩;obtain⟨q5,c5,rfl⟩:=T5.frm;have HD5:=hdI (HD4.out.to (WrG.of_below b5).wrT (HD4.out.cb.bel b5).1);have HL5:=hdI (HL4.out.wrG (WrG.of_below b5));have HK5:=hdI ((TxB.of_txO T5).mono (show w.heap.size+2+1≤w4.heap.size from HD4.out.lt));clear HD4 HL4 HBW T5 b5;have P:=pool_any (w.heap.size+2) x n cap (1+y) 1 w5 HD5.out.cb HD5.out.ct (by omega) (by omega) (by decide) (by decide);rw[show((1:Nat):Int)=1 from rfl] at P;have HBW:=hdI P;clear P;go_wp2_with fail;refine HBW.out.mono ?_;rintro e w6 ⟨v6,m,vs,rfl,m0,m1,hp⟩;have HPO:=hp.pool (by omega);obtain⟨q6,c6,rfl,_⟩:=hp.form1 (by omega);have HD6:=hdI (HD5.out.to hp.wg.wrT hp.cb);have HL6:=hdI (HL5.out.wrG hp.wg);have HK6:=hdI (HK5.out.wrT hp.wg.wrT);have P:=someOp_any (w.heap.size+2) x n cap q6 m c6 1 w6 HD6.out.cb HD6.out.ct HPO (by decide) (by omega) (by omega);rw[show((1:Nat):Int)=1 from rfl] at P;clear HBW;have HBW:=hdI P;clear P hp HPO HD5 HL5 HK5;go_wp2_with fail;refine HBW.out.mono ?_;rintro e w7 ⟨kd,ta,tn,tc,nw,nn,rfl,tk,nb,hc,hw⟩;have HD7:=hdI (HD6.out.to hw.wrT hc);have HX7:=hdI (show DX (w.heap.size+2) aD nD cD aU nU cU k aT nT cT (some ⟨q5,0,none⟩) 32 c5 ta tn tc w7 from⟨⟨D,U,T,HL6.out.wrG hw⟩,HK6.out.wrT hw.wrT,tk.mono (show w.heap.size+2+1≤w6.heap.size from HD6.out.lt),HAP.out.2.1⟩);have HNO:=hdI (heap_alloc_new w7 (.cells #[.int .i64 0,.slice none 0 0,.int .i64 0,.int .i64 0] 28));have bO:Below w7.heap.size w7 ((w7.alloc (.cells #[.int .i64 0,.slice none 0 0,.int .i64 0,.int .i64 0] 28)).setRow w7.heap.size #[.int .i64 kd,.slice ta tn tc,.int .i64 nw,.int .i64 nn]):=(below_new _ _).trans ((Wr.setRow _ _ _).below (Nat.le_refl _));have hz7:w.heap.size+2<w7.heap.size:=HD7.out.lt;have hSO:w7.heap.size≠S:=Nat.ne_of_gt (lt_of_heap HD7.out.s);have HD8:=hdI ((HD7.out.to (WrG.of_below bO).wrT (HD7.out.cb.bel bO).1).swO (setRow_heap _ _ _ _ _ _ HNO.out) (by omega));have HX8:=hdI (HX7.out.wrG (WrG.of_below bO));clear HD6 HL6 HK6 HBW tk nb hc hw HD7 HX7 bO
 go_upto_region 7 with (first
  |(refine wpList_store_row rfl 28 (.tmp 10) (.tmp 25) rfl w7.heap.size #[.int .i64 kd,.slice ta tn tc,.int .i64 nw,.int .i64 nn] rfl rfl 28 _ HNO.out Tryz.sizeOp rfl (by simp[Value.oneCell']) ?_)
  |fail)
 clear HNO;generalize (w7.alloc (.cells #[.int .i64 0,.slice none 0 0,.int .i64 0,.int .i64 0] 28)).setRow w7.heap.size #[.int .i64 kd,.slice ta tn tc,.int .i64 nw,.int .i64 nn]=w8 at *;generalize w7.heap.size=O at *;have o0:w8.cell? ⟨O,0,none⟩=some (.int .i64 kd):=cell_of_row _ _ _ _ _ _ HD8.out.o
 go_upto_if 28 with fail
 clear o0;try dsimp only[Act.put]
 go_cut [] from 11 (fun ww=>∃ nn,DR 28 zOp w x n cap S O #[.slice aD nD cD,.slice aU nU cU,.int .i64 k,.slice aT nT cT] #[.int .i64 kd,.slice ta tn tc,.int .i64 nw,.int .i64 nn] ww∧DX (w.heap.size+2) aD nD cD aU nU cU k aT nT cT (some ⟨q5,0,none⟩) 32 c5 ta tn tc ww)
 case first=>
  by_cases h4:kd=4
  ·have h4':(kd == 4)=true:=by simp[h4]
   clear h4
   go_upto_region 8 with fail
   try simp only[h4']
   clear h4';have hnT:(nT:Int)≤100:=by omega
   have hnT0:0≤(nT:Int):=by omega
   refine wp_region_any (by kernel_rfl) ?_;refine wpAny_slotsU (fun _ _ _=>True) (frame:=(fun (a b c d e f g h i j k l m n o p q r s u v w x y z A B C D E F G H I J K L M N O P Q R S T U V W X Y Z a0 a1 a2 a3 a4 a5 a6 a7 a8 a9 b0 b1 b2 b3 b4 b5 b6 b7 b8:Value)=>fun (t:Nat→Value)=>({ tmps:=List.toArray [a,b,c,d,e,f,g,h,i,j,k,l,m,n,o,p,q,r,s,u,v,w,x,y,z,A,B,C,D,t 0,t 1,t 2,t 3,t 4,t 5,t 6,t 7,t 8,t 9,t 10,E,F,G,H,I,J,K,L,M,N,O,P,Q,R,S,T,U,V,W,X,Y,Z,a0,a1,a2,a3,a4,a5,a6,a7,a8,a9,b0,b1,b2,b3,b4,b5,b6,b7,b8],defers:=[] }:Act)) _ _ _ _ _ _ _ _ _ _ _ _ _ _ _ _ _ _ _ _ _ _ _ _ _ _ _ _ _ _ _ _ _ _ _ _ _ _ _ _ _ _ _ _ _ _ _ _ _ _ _ _ _ _ _ _ _ _ _ _ _ _ _ _ _ _ _ _ _ _)
    (Ext:=fun L u w'=>((L 8=true→L 7=true)∧(L 9=true→L 8=true)∧(L 11=true→L 9=true))∧(if L 11=true then(∃ nn,DR 28 zOp w x n cap S O #[.slice aD nD cD,.slice aU nU cU,.int .i64 k,.slice aT nT cT] #[.int .i64 kd,.slice ta tn tc,.int .i64 nw,.int .i64 nn] w'∧DX (w.heap.size+2) aD nD cD aU nU cU k aT nT cT (some ⟨q5,0,none⟩) 32 c5 ta tn tc w') else(DR 28 zOp w x n cap S O #[.slice aD nD cD,.slice aU nU cU,.int .i64 k,.slice aT nT cT] #[.int .i64 kd,.slice ta tn tc,.int .i64 nw,.int .i64 nn] w'∧DX (w.heap.size+2) aD nD cD aU nU cU k aT nT cT (some ⟨q5,0,none⟩) 32 c5 ta tn tc w'))) (Good:=fun i L w' v=>if i=0 then v=.pointer (some ⟨S,2,none⟩) else if i=1 then v=.int .i64 k else if i=2 then v=.pointer (some ⟨w.heap.size+2,0,none⟩) else if i=3 then v=.pointer (some ⟨S,3,none⟩) else if i=4 then v=.slice aT nT cT else if i=5 then v=.int .i64 nT else if i=6 then v=.int .i64 (nT+3) else if i=7 then ∃ z:Int,v=.int .i64 z∧-9223372036854775808≤z∧z≤9223372036854775807 else if i=8 then ∃ z:Int,v=.int .i64 z∧-9223372036854775808≤z∧z≤9223372036854775807 else if i=9 then ∃ z:Int,v=.int .i64 z∧-9223372036854775808≤z∧z≤9223372036854775807 else if i=10 then v=.pointer (some ⟨O,3,none⟩) else if i=11 then L 11=true else True) ?hstab (by kernel_rfl) ?hop ?hdone _ _ ((fun (x0 x1 x2 x3 x4 x5 x6 x7 x8 x9 x10:Value)=>fun (i:Nat)=>if i=0 then x0 else if i=1 then x1 else if i=2 then x2 else if i=3 then x3 else if i=4 then x4 else if i=5 then x5 else if i=6 then x6 else if i=7 then x7 else if i=8 then x8 else if i=9 then x9 else if i=10 then x10 else undef) _ _ _ _ _ _ _ _ _ _ _) _ (by simp) ?ext ?start (by simp)
   case start=>intro i hi h;exact absurd h (by rw[Array.getD_eq_getD_getElem?,Array.getElem?_replicate];split<;>simp)
   case ext=>exact⟨⟨by simp,by simp,by simp⟩,by simp;exact⟨HD8.out.to (WrG.of_below ((Below.refl _ _).drew)).wrT (HD8.out.cb.bel ((Below.refl _ _).drew)).1,HX8.out.wrG (WrG.of_below ((Below.refl _ _).drew))⟩⟩
   case hstab=>
    intro j L w9 w' i v hM hij hLi h;by_cases h11:j=11
    ·subst h11;simp at h ⊢;unfold updK;split<;>simp[h]
    simp only[if_neg h11] at h ⊢;exact h
   case hop=>
    intro i o L t w' ho hLi hx hdep K hK;have hi:i<12:=(Array.getElem?_eq_some_iff.1 ho).1;have hD:∃ co,DR 28 zOp w x n cap S O #[.slice aD nD cD,.slice aU nU cU,.int .i64 k,.slice aT nT cT] co w':=by
     have h:=hx.2;by_cases h11:L 11=true
     ·rw[if_pos h11] at h;obtain⟨_,h,_⟩:=h;exact⟨_,h⟩
     ·rw[if_neg h11] at h;exact⟨_,h.1⟩
    obtain⟨co,hD⟩:=hD;have s2:w'.cell? ⟨S,2,none⟩=some (.int .i64 k):=cell_of_row _ _ _ _ _ _ hD.s;have s3:w'.cell? ⟨S,3,none⟩=some (.slice aT nT cT):=cell_of_row _ _ _ _ _ _ hD.s;clear hD;obtain rfl|rfl|rfl|rfl|rfl|rfl|rfl|rfl|rfl|rfl|rfl|rfl:i=0∨i=1∨i=2∨i=3∨i=4∨i=5∨i=6∨i=7∨i=8∨i=9∨i=10∨i=11:=by omega
    all_goals(simp at ho;subst ho)
    all_goals try(have hK':=hK w' _ rfl ⟨by simpa[updK] using hx.1,by simpa[updK] using hx.2⟩ trivial;clear hK;simp[Region.binds] at hdep;rw[if_pos (by rfl)];go_simp;simpa[upd,hdep,s2,s3] using hK';done)
    ·have d5:t 5=.int .i64 nT:=by simpa using(hdep ⟨5,.data⟩ (by simp) rfl).2
     clear hdep s2 s3;have e3:IntKind.i64.wrap ((nT:Int)+3)=nT+3:=by rw[IntKind.wrap_i64];omega
     have hK':=hK w' (.int .i64 (nT+3)) (by simp) ⟨by simpa[updK] using hx.1,by simpa[updK] using hx.2⟩ trivial;clear hK hx;rw[if_pos (by rfl)];go_simp;simpa[upd,d5,e3] using hK'
    ·have d2:t 2=.pointer (some ⟨w.heap.size+2,0,none⟩):=by simpa using(hdep ⟨2,.data⟩ (by simp) rfl).2
     have d6:t 6=.int .i64 (nT+3):=by simpa using(hdep ⟨6,.data⟩ (by simp) rfl).2
     clear hdep s2 s3;have h11:¬ L 11=true:=fun h=>by rw[hx.1.1 (hx.1.2.1 (hx.1.2.2 h))] at hLi;cases hLi
     have h8:¬ L 8=true:=fun h=>by rw[hx.1.1 h] at hLi;cases hLi
     have h9:¬ L 9=true:=fun h=>h8 (hx.1.2.1 h)
     have hf:=hx.2;rw[if_neg h11] at hf;have A:=below_any (w.heap.size+2) x n cap (nT+3) w' hf.1.cb hf.1.ct (by omega) (by have:=hf.2.bnd;omega);have hK':∀ ww y,0≤y→y≤(nT:Int)+3-1→CurB ww (w.heap.size+2) x n cap→Wr (w.heap.size+2) w' ww→K _ ww:=fun ww y hy0 hy1 hc hw=>hK ww (.int .i64 y) (by simp;have:=hf.2.bnd;omega) ⟨by simp[updK,h8,h9,h11],by simp only[updK];simp[h11];exact⟨hf.1.cur hc hw,hf.2.wrG hw.wrG⟩⟩ trivial
     clear hK hx hf;rw[if_pos (by rfl)];go_simp;try simp only[d2,d6]
     refine A.mono ?_;rintro e w9 ⟨y,rfl,hy0,hy1,hc,hw⟩;have hK2:=hK' w9 y hy0 hy1 hc hw;clear hK' A hc hw;go_simp;simpa[upd,d2,d6] using hK2
    ·have d1:t 1=.int .i64 k:=by simpa using(hdep ⟨1,.data⟩ (by simp) rfl).2
     have l7:=(hdep ⟨7,.data⟩ (by simp) rfl).1;obtain⟨y,d7,hy⟩:∃ z:Int,t 7=.int .i64 z∧-9223372036854775808≤z∧z≤9223372036854775807:=by simpa using(hdep ⟨7,.data⟩ (by simp) rfl).2
     clear hdep s2 s3;have hK':=hK w' (.int .i64 (IntKind.i64.wrap (k+y))) (by simp;exact wrapI _) ⟨⟨by simp[updK,l7],by simp[updK],by simpa[updK] using hx.1.2.2⟩,by simpa[updK] using hx.2⟩ trivial;clear hK hx;rw[if_pos (by rfl)];go_simp;simpa[upd,d1,d7] using hK'
    ·have l8:=(hdep ⟨8,.data⟩ (by simp) rfl).1;obtain⟨y,d8,hy⟩:∃ z:Int,t 8=.int .i64 z∧-9223372036854775808≤z∧z≤9223372036854775807:=by simpa using(hdep ⟨8,.data⟩ (by simp) rfl).2
     clear hdep s2 s3;have hK':=hK w' (.int .i64 (IntKind.i64.wrap (y-1))) (by simp;exact wrapI _) ⟨⟨by simpa[updK] using hx.1.1,by simp[updK,l8],by simp[updK]⟩,by simpa[updK] using hx.2⟩ trivial;clear hK hx;rw[if_pos (by rfl)];go_simp;simpa[upd,d8] using hK'
    ·have d10:t 10=.pointer (some ⟨O,3,none⟩):=by simpa using(hdep ⟨10,.data⟩ (by simp) rfl).2
     have l9:=(hdep ⟨9,.data⟩ (by simp) rfl).1;obtain⟨z,d9,hz⟩:∃ z:Int,t 9=.int .i64 z∧-9223372036854775808≤z∧z≤9223372036854775807:=by simpa using(hdep ⟨9,.data⟩ (by simp) rfl).2
     clear hdep s2 s3;have hf:=hx.2;rw[hLi,if_neg (by decide)] at hf;have o3:w'.cell? ⟨O,3,none⟩=some (.int .i64 nn):=cell_of_row _ _ _ _ _ _ hf.1.o;have f3:w'.frozen? ⟨O,3,none⟩=false:=frozen_of_row _ _ _ _ _ hf.1.o;have hwO:Wr O w' (w'.setCell ⟨O,3,none⟩ (.int .i64 z)):=(Wr.refl _ _).setCell _ _;have hK':=hK (w'.setCell ⟨O,3,none⟩ (.int .i64 z)) undef (by simp[updK]) ⟨⟨by simpa[updK] using hx.1.1,by simpa[updK] using hx.1.2.1,by simp[updK,l9]⟩,by
      have e:updK L 11 11=true:=by simp[updK]
      rw[if_pos e];exact⟨z,hf.1.putO (by omega) hwO (heap_setCell_same _ _ _ _ _ _ hf.1.o),hf.2.typ hf.1.o (by decide) (by decide) (by decide) hwO⟩⟩ trivial
     clear hK hx hf hwO;rw[if_pos (by rfl)];go_simp;simpa[upd,d9,d10,Act.put] using hK'
   case hdone=>
    intro L t w' hx hg;have h11:L 11=true:=by simpa using hg 11 (by decide)
    have hf:=hx.2;rw[if_pos h11] at hf;obtain⟨nn',hf⟩:=hf;have HF:=hdI hf;clear hg hx hf;go_wp2
    go_meet
    case rel=>exact⟨_,HF.out⟩
  ·have h4':(kd == 4)=false:=by simp[h4]
   go_wp2
   go_meet
   case rel=>exact⟨_,HD8.out,HX8.out⟩
 case rest=>
  obtain⟨nn,hd,hx⟩:=hcut;have HD:=hdI hd;have HX:=hdI hx;clear hd hx HD8 HX8
  go_upto_region 9 with fail
  go_cut [57] from 11 (fun v ww=>∃ b:Bool,v=.bool b∧(b=true→0<nD)∧DR 28 zOp w x n cap S O #[.slice aD nD cD,.slice aU nU cU,.int .i64 k,.slice aT nT cT] #[.int .i64 kd,.slice ta tn tc,.int .i64 nw,.int .i64 nn] ww∧DX (w.heap.size+2) aD nD cD aU nU cU k aT nT cT (some ⟨q5,0,none⟩) 32 c5 ta tn tc ww)
  case first=>
   have o0:_=some (Value.int .i64 kd):=cell_of_row _ _ 0 _ _ _ HD.out.o;have s0:_=some (Value.slice aD nD cD):=cell_of_row _ _ 0 _ _ _ HD.out.s;have HBW:=hdI (once_any (w.heap.size+2) x n cap 2 _ HD.out.cb HD.out.ct (by decide) (by decide));by_cases h2:kd=2
   ·have e2:(kd == 2)=true:=by simp[h2]
    clear h2;by_cases hD:0<nD
    ·have hD':0<(nD:Int):=by omega
     go_wp2_with fail;refine HBW.out.mono ?_;rintro e w9 ⟨bo,rfl,hc,hw⟩;have HF:=hdI (HD.out.cur hc hw);have HXF:=hdI (HX.out.wrG hw.wrG);clear HD HX HBW hc hw o0 s0;go_wp2
     go_meet
     case rel=>exact⟨bo,rfl,fun _=>hD,HF.out,HXF.out⟩
    ·have hD':¬ 0<(nD:Int):=by omega
     go_wp2
     go_meet
     case rel=>exact⟨false,rfl,by simp,HD.out,HX.out⟩
   ·have e2:(kd == 2)=false:=by simp[h2]
    by_cases h3:kd=3
    ·have e3:(kd == 3)=true:=by simp[h3]
     clear h3;by_cases hD:0<nD
     ·have hD':0<(nD:Int):=by omega
      go_wp2_with fail;refine HBW.out.mono ?_;rintro e w9 ⟨bo,rfl,hc,hw⟩;have HF:=hdI (HD.out.cur hc hw);have HXF:=hdI (HX.out.wrG hw.wrG);clear HD HX HBW hc hw o0 s0;go_wp2
      go_meet
      case rel=>exact⟨bo,rfl,fun _=>hD,HF.out,HXF.out⟩
     ·have hD':¬ 0<(nD:Int):=by omega
      go_wp2
      go_meet
      case rel=>exact⟨false,rfl,by simp,HD.out,HX.out⟩
    ·have e3:(kd == 3)=false:=by simp[h3]
     go_wp2
     go_meet
     case rel=>exact⟨false,rfl,by simp,HD.out,HX.out⟩
  case rest=>
   obtain⟨b,rfl,hb,hd,hx⟩:=hcut;have HD':=hdI hd;have HX':=hdI hx;clear hd hx HD HX
   go_upto_if 57 with fail
   try dsimp only[Act.put]
   go_cut [] from 11 (fun ww=>∃ nn,DR 28 zOp w x n cap S O #[.slice aD nD cD,.slice aU nU cU,.int .i64 k,.slice aT nT cT] #[.int .i64 kd,.slice ta tn tc,.int .i64 nw,.int .i64 nn] ww∧DX (w.heap.size+2) aD nD cD aU nU cU k aT nT cT (some ⟨q5,0,none⟩) 32 c5 ta tn tc ww)
   case first=>
    cases b with
    |false=>
     go_wp2
     go_meet
     case rel=>exact⟨_,HD'.out,HX'.out⟩
    |true=>
     obtain⟨D',U',T',hl⟩:=HX'.out.ls;obtain⟨qd,z,rfl,cz⟩:=hl.d.hd (hb rfl);have hnD:0<(nD:Int):=by have:=hb rfl;omega
     have s0:_=some (Value.slice (some ⟨qd,0,none⟩) nD cD):=cell_of_row _ _ 0 _ _ _ HD'.out.s;have o3:_=some (Value.int .i64 nn):=cell_of_row _ _ 3 _ _ _ HD'.out.o;have f3:=frozen_of_row _ _ 3 _ _ HD'.out.o;have HF:=hdI (HD'.out.putO (by omega) ((Wr.refl _ _).setCell 3 (.int .i64 z)) (heap_setCell_same _ _ _ _ _ _ HD'.out.o));have HXF:=hdI (HX'.out.typ HD'.out.o (by decide) (by decide) (by decide) ((Wr.refl _ _).setCell 3 (.int .i64 z)));clear hl HD' HX';go_wp2
     go_meet
     case rel=>exact⟨_,HF.out,HXF.out⟩
   case rest=>
    obtain⟨nn,hd,hx⟩:=hcut;have HD:=hdI hd;have HX:=hdI hx;clear hd hx HD' HX' hb;have HBW:=hdI (once_any (w.heap.size+2) x n cap 14 _ HD.out.cb HD.out.ct (by decide) (by decide));go_wp2_with fail;refine HBW.out.mono ?_;rintro e w9 ⟨bo,rfl,hc,hw⟩;have HD':=hdI (HD.out.cur hc hw);have HX':=hdI (HX.out.wrG hw.wrG);clear HD HX HBW hc hw
    go_upto_if 64 with fail
    try dsimp only[Act.put]
    go_cut [] from 11 (fun ww=>∃ aD nD cD aU nU cU k aT nT cT,DR 28 zOp w x n cap S O #[.slice aD nD cD,.slice aU nU cU,.int .i64 k,.slice aT nT cT] #[.int .i64 kd,.slice ta tn tc,.int .i64 nw,.int .i64 nn] ww∧DX (w.heap.size+2) aD nD cD aU nU cU k aT nT cT (some ⟨q5,0,none⟩) 32 c5 ta tn tc ww)
    case first=>
     cases bo with
     |false=>
      go_wp2
      go_meet
      case rel=>exact⟨_,_,_,_,_,_,_,_,_,_,HD'.out,HX'.out⟩
     |true=>
      obtain⟨D',U',T',hl⟩:=HX'.out.ls;have hlD:=hl.d.sat.2.1;have hlU:=hl.u.sat.2.1;have hbd:=HAP.out.2.2;have HBW:=hdI (spoilSt_any (w.heap.size+2) x n cap aD aU aT nD cD nU cU nT cT D' U' T' k _ HD'.out.cb HD'.out.ct hl (by omega) HAP.out.1 HX'.out.nb);clear hl hlD hlU hbd;go_wp2_with (first
       |(refine wpList_load_row rfl 26 (.tmp 6) rfl S rfl 26 _ (0,0) _ HD'.out.s Tryz.underlying26 rfl Tryz.sizeSt ?_)
       |fail)
      refine HBW.out.mono ?_;rintro e wq ⟨v,rfl,⟨bD,mD,dD,bU,mU,dU,kk,bT,mT,dT,D9,U9,T9,rfl,hl9,hk9⟩,hc,hw⟩;have HDq:=hdI (HD'.out.to hw hc);have HXq:=hdI (show DX (w.heap.size+2) bD mD dD bU mU dU kk bT mT dT (some ⟨q5,0,none⟩) 32 c5 ta tn tc wq from⟨⟨_,_,_,hl9⟩,HX'.out.ke.wrT hw,HX'.out.tk.wrT hw,hk9⟩);have hwS:=Wr.setRow S wq #[.slice bD mD dD,.slice bU mU dU,.int .i64 kk,.slice bT mT dT];have HF:=hdI (HDq.out.putS (by omega) hwS (setRow_heap _ _ _ _ _ _ HDq.out.s));have HXF:=hdI (HXq.out.typ HDq.out.s (by decide) (by decide) (by decide) hwS);clear HBW hl9 hk9 hc hw hwS HXq HD' HX';go_wp2_with (first
       |(refine wpList_store_row rfl 26 (.tmp 6) (.tmp 67) rfl S #[.slice bD mD dD,.slice bU mU dU,.int .i64 kk,.slice bT mT dT] rfl rfl 26 _ HDq.out.s Tryz.sizeSt rfl (by simp[Value.oneCell']) ?_)
       |fail)
      go_meet
      case rel=>exact⟨_,_,_,_,_,_,_,_,_,_,HF.out,HXF.out⟩
    case rest=>
     clear HAP HD' HX' lT;obtain⟨aD,nD,cD,aU,nU,cU,k,aT,nT,cT,hd,hx⟩:=hcut;have HD:=hdI hd;have HX:=hdI hx;clear hd hx;have HBW:=hdI (once_any (w.heap.size+2) x n cap 30 _ HD.out.cb HD.out.ct (by decide) (by decide));go_wp2_with fail;refine HBW.out.mono ?_;rintro e wa ⟨bo,rfl,hc,hw⟩;have HD':=hdI (HD.out.cur hc hw);have HX':=hdI (HX.out.wrG hw.wrG);clear HD HX HBW hc hw
     go_upto_if 69 with fail
     try dsimp only[Act.put]
     go_cut [8] from 11 (fun v ww=>∃ ak nk ck,v=.slice ak nk ck∧nk≤32∧DR 28 zOp w x n cap S O #[.slice aD nD cD,.slice aU nU cU,.int .i64 k,.slice aT nT cT] #[.int .i64 kd,.slice ta tn tc,.int .i64 nw,.int .i64 nn] ww∧DX (w.heap.size+2) aD nD cD aU nU cU k aT nT cT ak nk ck ta tn tc ww)
     case first=>
      cases bo with
      |false=>
       go_wp2
       go_meet
       case rel=>exact⟨_,_,_,rfl,by decide,HD'.out,HX'.out⟩
      |true=>
       have h31:(31:Int)≤c5:=by
        obtain⟨_,_,_,_,_,_,e,h,_⟩:=HX'.out.ke;cases e;omega
       have HXF:=hdI (show DX (w.heap.size+2) aD nD cD aU nU cU k aT nT cT (some ⟨q5,0,none⟩) 31 c5 ta tn tc _ from⟨HX'.out.ls,HX'.out.ke.cut 31 (by decide),HX'.out.tk,HX'.out.nb⟩);clear HX';go_wp2
       go_meet
       case rel=>exact⟨_,_,_,rfl,by decide,HD'.out,HXF.out⟩
     case rest=>
      clear HD' HX';obtain⟨ak,nk,ck,rfl,hnk,hd,hx⟩:=hcut;have HD:=hdI hd;have HX:=hdI hx;clear hd hx;have HBW:=hdI (once_any (w.heap.size+2) x n cap 20 _ HD.out.cb HD.out.ct (by decide) (by decide));go_wp2_with fail;refine HBW.out.mono ?_;rintro e wb ⟨bo,rfl,hc,hw⟩;have HD':=hdI (HD.out.cur hc hw);have HX':=hdI (HX.out.wrG hw.wrG);clear HD HX HBW hc hw
      go_upto_if 73 with fail
      try dsimp only[Act.put]
      go_cut [] from 11 (fun ww=>∃ kd,DR 28 zOp w x n cap S O #[.slice aD nD cD,.slice aU nU cU,.int .i64 k,.slice aT nT cT] #[.int .i64 kd,.slice ta tn tc,.int .i64 nw,.int .i64 nn] ww∧DX (w.heap.size+2) aD nD cD aU nU cU k aT nT cT ak nk ck ta tn tc ww)
      case first=>
       cases bo with
       |false=>
        go_wp2
        go_meet
        case rel=>exact⟨_,HD'.out,HX'.out⟩
       |true=>
        have HBW:=hdI (below_any (w.heap.size+2) x n cap 2 _ HD'.out.cb HD'.out.ct (by decide) (by decide));go_wp2_with fail;refine HBW.out.mono ?_;rintro e wq ⟨z,rfl,z0,z1,hc,hw⟩;have HDq:=hdI (HD'.out.cur hc hw);have HXq:=hdI (HX'.out.wrG hw.wrG);clear HD' HX' HBW hc hw;have o0:wq.cell? ⟨O,0,none⟩=some (.int .i64 kd):=cell_of_row _ _ _ _ _ _ HDq.out.o;have f0:=frozen_of_row _ _ 0 _ _ HDq.out.o;have HF:=hdI (HDq.out.putO (by omega) ((Wr.refl _ _).setCell 0 (.int .i64 (6*z))) (heap_setCell_same _ _ _ _ _ _ HDq.out.o));have HXF:=hdI (HXq.out.typ HDq.out.o (by decide) (by decide) (by decide) ((Wr.refl _ _).setCell 0 (.int .i64 (6*z))));clear HDq HXq;go_wp2
        go_meet
        case rel=>exact⟨_,HF.out,HXF.out⟩
      case rest=>
       clear HD' HX';obtain⟨kd,hd,hx⟩:=hcut;have HD:=hdI hd;have HX:=hdI hx;clear hd hx
       go_upto_region 17 with fail
       have HSO:=hdI (show w.heap.size+1<S∧w.heap.size+1<O by omega);refine wp_region_any (by kernel_rfl) ?_;refine wpAny_slotsV (fun _ _ _=>True) (frame:=(fun (a b c d e f g h i j k l m n o p q r s u v w x y z A B C D E F G H I J K L M N O P Q R S T U V W X Y Z a0 a1 a2 a3 a4 a5 a6 a7 a8 a9 b0 b1 b2 b3 b4 b5 b6 b7 b8 b9 c0 c1 c2 c3 c4 c5:Value)=>fun (t:Nat→Value)=>({ tmps:=List.toArray [a,b,c,t 4,d,e,f,g,h,i,j,k,l,m,n,o,p,q,r,s,u,v,w,x,y,z,A,B,C,D,E,F,G,H,I,J,K,L,M,N,O,P,Q,R,S,T,U,V,W,X,Y,Z,a0,a1,a2,a3,a4,a5,a6,a7,a8,a9,b0,b1,b2,b3,b4,b5,b6,b7,b8,b9,c0,c1,c2,c3,c4,c5,t 0,t 1,t 2],defers:=[] }:Act)) _ _ _ _ _ _ _ _ _ _ _ _ _ _ _ _ _ _ _ _ _ _ _ _ _ _ _ _ _ _ _ _ _ _ _ _ _ _ _ _ _ _ _ _ _ _ _ _ _ _ _ _ _ _ _ _ _ _ _ _ _ _ _ _ _ _ _ _ _ _ _ _ _ _ _ _ _)
        (Ext:=fun L u w'=>ZR 28 zOp w S O #[.slice aD nD cD,.slice aU nU cU,.int .i64 k,.slice aT nT cT] #[.int .i64 kd,.slice ta tn tc,.int .i64 nw,.int .i64 nn] (L 3) (L 5) w'∧DX (w.heap.size+2) aD nD cD aU nU cU k aT nT cT ak nk ck ta tn tc w') (Good:=fun i L w' v=>if i=0 then v=.agg #[.slice aD nD cD,.slice aU nU cU,.int .i64 k,.slice aT nT cT] else if i=1 then v=.slice ak nk ck else if i=2 then v=.agg #[.int .i64 kd,.slice ta tn tc,.int .i64 nw,.int .i64 nn] else if i=3 then L 3=true else if i=4 then v=.slice ak nk ck else if i=5 then L 5=true else True) ?hstab (by kernel_rfl) ?hop ?hdone _ _ ((fun (x0 x1 x2 x4:Value)=>fun (i:Nat)=>if i=0 then x0 else if i=1 then x1 else if i=2 then x2 else if i=4 then x4 else undef) _ _ _ _) _ (by simp) ?ext ?start (by simp)
       case start=>intro i hi h;exact absurd h (by rw[Array.getD_eq_getD_getElem?,Array.getElem?_replicate];split<;>simp)
       case ext=>exact⟨⟨HD.out.bel.trans (((Below.refl _ _).drew).mono HD.out.bel.size),HD.out.s,HD.out.o,HD.out.r1,HD.out.r3⟩,HX.out.wrG (WrG.of_below ((Below.refl _ _).drew))⟩
       case hstab=>
        intro j L w9 w' i v hM hij hLi h;by_cases h3:j=3
        ·subst h3;simp at h ⊢;unfold updK;split<;>simp[h]
        by_cases h5:j=5
        ·subst h5;simp at h ⊢;unfold updK;split<;>simp[h]
        simp only[if_neg h3,if_neg h5] at h ⊢;exact h
       case hop=>
        intro i o L t w' ho hLi hx hdep K hK;have hi:i<6:=(Array.getElem?_eq_some_iff.1 ho).1;obtain rfl|rfl|rfl|rfl|rfl|rfl:i=0∨i=1∨i=2∨i=3∨i=4∨i=5:=by omega
        all_goals(simp at ho;subst ho)
        all_goals try(have hK':=hK w' _ rfl (by simpa[updK] using hx) trivial;clear hK;simp[Region.binds] at hdep;rw[if_pos (by rfl)];go_simp;simpa[upd,hdep] using hK';done)
        ·clear hdep;have hK':=hK w' (.agg #[.slice aD nD cD,.slice aU nU cU,.int .i64 k,.slice aT nT cT]) (by simp) (by simpa[updK] using hx) trivial;clear hK;rw[if_pos (by rfl)];refine wp_load_row 26 (.tmp 6) rfl S rfl 26 _ (0,0) _ hx.1.s Tryz.underlying26 rfl Tryz.sizeSt ?_;simpa[upd,Act.put] using hK'
        ·clear hdep;have hK':=hK w' (.agg #[.int .i64 kd,.slice ta tn tc,.int .i64 nw,.int .i64 nn]) (by simp) (by simpa[updK] using hx) trivial;clear hK;rw[if_pos (by rfl)];refine wp_load_row 28 (.tmp 10) rfl O rfl 28 _ (0,0) _ hx.1.o Tryz.underlying28 rfl Tryz.sizeOp ?_;simpa[upd,Act.put] using hK'
        ·have d0:t 0=.agg #[.slice aD nD cD,.slice aU nU cU,.int .i64 k,.slice aT nT cT]:=by simpa using(hdep ⟨0,.data⟩ (by simp) rfl).2
         clear hdep;obtain⟨hz,hX⟩:=hx;rw[hLi] at hz;have hK':=hK (w'.setRow w.heap.size #[.slice aD nD cD,.slice aU nU cU,.int .i64 k,.slice aT nT cT]) undef (by simp[updK]) (by
          simp only[updK];simp;exact⟨hz.one HSO.out,hX.typ hz.r1 (by decide) (by decide) (by decide) (Wr.setRow _ _ _)⟩) trivial
         clear hK;rw[if_pos (by rfl)];refine wp_store_row 26 (.tmp 2) (.tmp 78) rfl w.heap.size #[.slice aD nD cD,.slice aU nU cU,.int .i64 k,.slice aT nT cT] rfl d0 26 _ hz.r1 Tryz.sizeSt rfl (by simp[Value.oneCell']) ?_;simpa[upd,Act.put] using hK'
        ·have d2:t 2=.agg #[.int .i64 kd,.slice ta tn tc,.int .i64 nw,.int .i64 nn]:=by simpa using(hdep ⟨2,.data⟩ (by simp) rfl).2
         clear hdep;obtain⟨hz,hX⟩:=hx;rw[hLi] at hz;have hK':=hK (w'.setRow (w.heap.size+1) #[.int .i64 kd,.slice ta tn tc,.int .i64 nw,.int .i64 nn]) undef (by simp[updK]) (by
          simp only[updK];simp;exact⟨hz.two HSO.out,hX.typ hz.r3 (by decide) (by decide) (by decide) (Wr.setRow _ _ _)⟩) trivial
         clear hK;rw[if_pos (by rfl)];refine wp_store_row 28 (.tmp 4) (.tmp 80) rfl (w.heap.size+1) #[.int .i64 kd,.slice ta tn tc,.int .i64 nw,.int .i64 nn] rfl d2 28 _ hz.r3 Tryz.sizeOp rfl (by simp[Value.oneCell']) ?_;simpa[upd,Act.put] using hK'
       case hdone=>
        intro L t w' hx hg;have h3:L 3=true:=by simpa using hg 3 (by decide)
        have h5:L 5=true:=by simpa using hg 5 (by decide)
        have d4:t 4=.slice ak nk ck:=by simpa using hg 4 (by decide)
        rw[h3,h5] at hx;have HF:=hdI hx;clear hg hx h3 h5;simp only[d4];go_wp2_with fail
        (try simp only[Exit.inBlock,Exit.then])
        exact bodyPost_ret (results_so rfl _ _ w.heap.size (w.heap.size+1) _ _ _ _ _ _ _ _ rfl rfl HF.out.1.r1 HF.out.1.r3) rfl ⟨_,_,_,_,_,_,_,_,_,_,_,_,_,_,_,_,_,_,_,rfl,HF.out.2,hnk,HF.out.1.bel⟩
end Go.Proofs.YtncomnkdlpoelaaGreatDoor
