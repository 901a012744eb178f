import Derived.Test.YtncomnkdlpoelaaGreatDoorMEso
import Derived.Test.YtncomnkdlpoelaaGreatDoorMArrW
import Derived.Deep.Cut
import Derived.BigRegion
import Derived.Test.YtncomnkdlpoelaaGreatDoorMMuM
import Derived.Test.YtncomnkdlpoelaaGreatDoorMShK
namespace Go.Proofs.YtncomnkdlpoelaaGreatDoor
open Go.ChangeShapes Go.WideShapes Go.ChangeAt Go.RowKit
set_option linter.unusedVariables false
def zFr:Array Value:=#[.int .u32 0,.int .i64 0,.int .u32 0,.int .u32 0]
theorem wrapU (z:Int):∃ z':Nat,IntKind.u32.wrap z=z'∧z'<4294967296:=by
 rw[IntKind.wrap_u32];exact⟨(z%4294967296).toNat,by omega,by omega⟩
theorem IO.at_j {B:Nat} {w:World} {q m c:Nat} {xs:List Int} (h:IO B w (.slice (some ⟨q,0,none⟩) m c) xs) {j:Nat} (hj:j<m):∃ z:Int,w.cell? ⟨q,j,none⟩=some (.int .i64 z):=by
 have hl:=h.sat.2.1;subst hl;refine⟨xs.getD j 0,?_⟩;rw[World.ownsRow.cellAt h j (by omega)];simp[hj]
theorem Tryz.sizeFr:(Tryz.prog.info? 38).map (·.size)=some 4:=by kernel_rfl
theorem results_sf {fn:Func} {p q:Tmp} (h:fn.results=#[.cell p 26,.cell q 38]) (tmps:Array Value) (w:World) (g g':Nat) (c0 c1 c2 c3 b0 b1 b2 b3:Value)
  (hp:tmps.getD p undef=.pointer (some ⟨g,0,none⟩)) (hq:tmps.getD q undef=.pointer (some ⟨g',0,none⟩)) (hg:w.heap[g]?=some (.cells #[c0,c1,c2,c3] 26 (0,0))) (hg':w.heap[g']?=some (.cells #[b0,b1,b2,b3] 38 (0,0))) :
  (results fn tmps).run Tryz.prog w=.ok (.tuple #[.agg #[c0,c1,c2,c3],.agg #[b0,b1,b2,b3]]) w:=by
 have hp':tmps[p]?.getD undef=.pointer (some ⟨g,0,none⟩):=by simpa using hp
 have hq':tmps[q]?.getD undef=.pointer (some ⟨g',0,none⟩):=by simpa using hq
 have h1:=run_loadVar_row (P:=Tryz.prog) w g 26 26 #[c0,c1,c2,c3] (0,0) _ hg Tryz.underlying26 rfl Tryz.sizeSt;have h2:=run_loadVar_row (P:=Tryz.prog) w g' 38 38 #[b0,b1,b2,b3] (0,0) _ hg' Tryz.underlying38 rfl Tryz.sizeFr;simp[results,h,hp',hq',asAddr,h1,h2]
def DafP (w:World) (e:Ending) (w':World):Prop:=
 ∃ aD nD cD aU nU cU k aT nT cT kd,∃ fa fb:Nat,e=.returned (.tuple #[.agg #[.slice aD nD cD,.slice aU nU cU,.int .i64 k,.slice aT nT cT],.agg #[.int .u32 5,.int .i64 kd,.int .u32 fa,.int .u32 fb]])∧fa<4294967296∧fb<4294967296∧DY (w.heap.size+2) aD nD cD aU nU cU k aT nT cT w'∧Below w.heap.size w w'
set_option maxRecDepth 100000 in
set_option maxHeartbeats 16000000 in
theorem drawAF_any (x:Option Addr) (n cap:Nat) (zs:List Int) (w:World) (hl:zs.length=n) (hn:n≤1048576) (hz:Byte zs) (ha:At .u8 w x zs) :
  Calls Tryz.prog 9 #[.slice x n cap] w (DafP w):=by
 have b0:Below w.heap.size w ((w.alloc (.cells #[.slice none 0 0,.slice none 0 0,.int .i64 0,.slice none 0 0] 26)).alloc (.cells #[.int .u32 0,.int .i64 0,.int .u32 0,.int .u32 0] 38)):=((Below.refl _ _).alloc (Nat.le_refl _) _).alloc (by simp) _;have HN:=hdI (new_any x n cap zs _ hl hn hz (ha.below b0));have h1:=heap_alloc2_old w (.cells #[.slice none 0 0,.slice none 0 0,.int .i64 0,.slice none 0 0] 26) (.cells #[.int .u32 0,.int .i64 0,.int .u32 0,.int .u32 0] 38);have h3:=heap_alloc2_new w (.cells #[.slice none 0 0,.slice none 0 0,.int .i64 0,.slice none 0 0] 26) (.cells #[.int .u32 0,.int .i64 0,.int .u32 0,.int .u32 0] 38);have HT:=hdI (show zs.length=n∧n≤1048576∧Byte zs∧At .u8 w x zs from⟨hl,hn,hz,ha⟩);have HR:=hdI (And.intro b0 (And.intro h1 h3));go_enter Tryz.func9,Tryz.ntmps9;go_wp2_with fail;generalize ew:(w.alloc (.cells #[.slice none 0 0,.slice none 0 0,.int .i64 0,.slice none 0 0] 26)).alloc (.cells #[.int .u32 0,.int .i64 0,.int .u32 0,.int .u32 0] 38)=w0 at *;have hs0:w0.heap.size=w.heap.size+2:=by rw[←ew];simp
 refine HN.out.mono ?_;rintro e w1 ⟨rfl,hc1,B1,s1⟩;rw[hs0] at hc1 B1 s1 ⊢;have hbl:=HR.out.1.trans (B1.mono (show w.heap.size≤w.heap.size+2 by omega));have e1:w1.heap[w.heap.size]?=some (.cells #[.slice none 0 0,.slice none 0 0,.int .i64 0,.slice none 0 0] 26 (0,0)):=by rw[B1.block _ (by omega)];exact HR.out.2.1
 have e3:w1.heap[w.heap.size+1]?=some (.cells #[.int .u32 0,.int .i64 0,.int .u32 0,.int .u32 0] 38 (0,0)):=by rw[B1.block _ (by omega)];exact HR.out.2.2
 have HD1:=hdI (show DR 38 zFr w x n cap w.heap.size (w.heap.size+1) #[.slice none 0 0,.slice none 0 0,.int .i64 0,.slice none 0 0] #[.int .u32 0,.int .i64 0,.int .u32 0,.int .u32 0] w1 from⟨hbl,hc1,CurT.of_at HT.out.1 HT.out.2.1 HT.out.2.2.1 HT.out.2.2.2 hbl (by omega),e1,e3,e1,e3,by omega,by omega,by decide⟩);have HBW:=hdI (drawSt_any (w.heap.size+2) x n cap _ HD1.out.cb HD1.out.ct);go_wp2_with fail;refine HBW.out.mono ?_;rintro e w2 ⟨v,rfl,aD,nD,cD,aU,nU,cU,k,aT,nT,cT,D,U,T,rfl,i1,i2,i3,pD,lD,pU,lT,hk,ap,hc,hw⟩;have hz1:w.heap.size+2+1≤w1.heap.size:=HD1.out.lt;have HD2:=hdI (HD1.out.to hw.wrT hc);have HL2:=hdI (show DY (w.heap.size+2) aD nD cD aU nU cU k aT nT cT w2 from⟨⟨D,U,T,IO.mono i1 hz1,IO.mono i2 hz1,TapO.mono i3 hz1,by omega,Nat.le_trans pU.len (by decide),by omega⟩,hk⟩);have HNS:=hdI (heap_alloc_new w2 (.cells #[.slice none 0 0,.slice none 0 0,.int .i64 0,.slice none 0 0] 26));have bS:Below w2.heap.size w2 ((w2.alloc (.cells #[.slice none 0 0,.slice none 0 0,.int .i64 0,.slice none 0 0] 26)).setRow w2.heap.size #[.slice aD nD cD,.slice aU nU cU,.int .i64 k,.slice aT nT cT]):=(below_new _ _).trans ((Wr.setRow _ _ _).below (Nat.le_refl _));have hz2:w.heap.size+2<w2.heap.size:=HD2.out.lt;have HD3:=hdI ((HD2.out.to (WrG.of_below bS).wrT (HD2.out.cb.bel bS).1).swS (setRow_heap _ _ _ _ _ _ HNS.out) (by omega));have HX3:=hdI (HL2.out.wrG (WrG.of_below bS));have hlD:=i1.sat.2.1;have hlU:=i2.sat.2.1;have hnU:=pU.len;have HAP:=hdI (And.intro ap (show nD≤280∧nU≤280 by omega));have HBN:=hdI (show nD≤280∧nU≤280 by omega);have hU':(nU:Int)≤280:=by omega
 go_upto_region 3 with (first
  |(refine wpList_store_row rfl 26 (.tmp 5) (.tmp 13) rfl w2.heap.size #[.slice aD nD cD,.slice aU nU cU,.int .i64 k,.slice aT nT cT] rfl rfl 26 _ HNS.out Tryz.sizeSt rfl (by simp[Value.oneCell']) ?_)
  |fail)
 generalize (w2.alloc (.cells #[.slice none 0 0,.slice none 0 0,.int .i64 0,.slice none 0 0] 26)).setRow w2.heap.size #[.slice aD nD cD,.slice aU nU cU,.int .i64 k,.slice aT nT cT]=w3 at *;generalize w2.heap.size=S at *;have HBW:=hdI (below_any (w.heap.size+2) x n cap 3 _ HD3.out.cb HD3.out.ct (by decide) (by decide));go_wp2_with fail;refine HBW.out.mono ?_;rintro e w4 ⟨y,rfl,y0,y1,hc,hw⟩;have HD4:=hdI (HD3.out.cur hc hw);have HX4:=hdI (HX3.out.wrG hw.wrG);have HNO:=hdI (heap_alloc_new w4 (.cells #[.int .u32 0,.int .i64 0,.int .u32 0,.int .u32 0] 38));have bO:Below w4.heap.size w4 ((w4.alloc (.cells #[.int .u32 0,.int .i64 0,.int .u32 0,.int .u32 0] 38)).setRow w4.heap.size #[.int .u32 5,.int .i64 (1+y),.int .u32 0,.int .u32 0]):=(below_new _ _).trans ((Wr.setRow _ _ _).below (Nat.le_refl _));have hz4:w.heap.size+2<w4.heap.size:=HD4.out.lt;have hSO:w4.heap.size≠S:=Nat.ne_of_gt (lt_of_heap HD4.out.s);have HD5:=hdI ((HD4.out.to (WrG.of_below bO).wrT (HD4.out.cb.bel bO).1).swO (setRow_heap _ _ _ _ _ _ HNO.out) (by omega));have HX5:=hdI (HX4.out.wrG (WrG.of_below bO))
 go_upto_region 4 with (first
  |(refine wpList_store_row rfl 38 (.tmp 6) (.tmp 17) rfl w4.heap.size #[.int .u32 5,.int .i64 (1+y),.int .u32 0,.int .u32 0] rfl rfl 38 _ HNO.out Tryz.sizeFr rfl (by simp[Value.oneCell']) ?_)
  |fail)
 generalize (w4.alloc (.cells #[.int .u32 0,.int .i64 0,.int .u32 0,.int .u32 0] 38)).setRow w4.heap.size #[.int .u32 5,.int .i64 (1+y),.int .u32 0,.int .u32 0]=w5 at *;generalize w4.heap.size=O at *;have HSO:=hdI (show w.heap.size+1<O∧O≠S by omega);have HSO2:=hdI (show w.heap.size+1<S∧w.heap.size+1<O by omega);have HBW:=hdI (below_any (w.heap.size+2) x n cap 60 _ HD5.out.cb HD5.out.ct (by decide) (by decide));go_wp2_with fail;refine HBW.out.mono ?_;rintro e w6 ⟨ya,rfl,ya0,ya1,hc,hw⟩;have HD6:=hdI (HD5.out.cur hc hw);have HX6:=hdI (HX5.out.wrG hw.wrG);have HBW:=hdI (below_any (w.heap.size+2) x n cap 2 _ HD6.out.cb HD6.out.ct (by decide) (by decide));go_wp2_with fail;refine HBW.out.mono ?_;rintro e w7 ⟨yb,rfl,yb0,yb1,hc,hw⟩;have HD7:=hdI (HD6.out.cur hc hw);have HX7:=hdI (HX6.out.wrG hw.wrG);obtain⟨ga,rfl⟩:=Int.eq_ofNat_of_zero_le ya0;obtain⟨gb,rfl⟩:=Int.eq_ofNat_of_zero_le yb0;have o2:w7.cell? ⟨O,2,none⟩=some (.int .u32 0):=cell_of_row _ _ _ _ _ _ HD7.out.o;have f2:=frozen_of_row _ _ 2 _ _ HD7.out.o;have HD8:=hdI (HD7.out.putO HSO.out ((Wr.refl _ _).setCell 2 (.int .u32 ga)) (heap_setCell_same _ _ _ _ _ _ HD7.out.o));have HX8:=hdI (HX7.out.typ HD7.out.o (by decide) (by decide) ((Wr.refl _ _).setCell 2 (.int .u32 ga)))
 go_upto_region 7 with fail
 generalize w7.setCell ⟨O,2,none⟩ (.int .u32 ga)=w8 at *;have o3:w8.cell? ⟨O,3,none⟩=some (.int .u32 0):=cell_of_row _ _ _ _ _ _ HD8.out.o;have f3:=frozen_of_row _ _ 3 _ _ HD8.out.o;have HD9:=hdI (HD8.out.putO HSO.out ((Wr.refl _ _).setCell 3 (.int .u32 gb)) (heap_setCell_same _ _ _ _ _ _ HD8.out.o));have HX9:=hdI (HX8.out.typ HD8.out.o (by decide) (by decide) ((Wr.refl _ _).setCell 3 (.int .u32 gb)))
 go_upto_region 8 with fail
 generalize w8.setCell ⟨O,3,none⟩ (.int .u32 gb)=w9 at *;have o1:w9.cell? ⟨O,1,none⟩=some (.int .i64 (1+y)):=cell_of_row _ _ _ _ _ _ HD9.out.o
 go_upto_if 30 with fail
 try dsimp only[Act.put]
 go_cut [] from 10 (fun ww=>∃(kd:Int) (fa fb:Nat),fa<4294967296∧fb<4294967296∧DR 38 zFr w x n cap S O #[.slice aD nD cD,.slice aU nU cU,.int .i64 k,.slice aT nT cT] #[.int .u32 5,.int .i64 kd,.int .u32 fa,.int .u32 fb] ww∧DY (w.heap.size+2) aD nD cD aU nU cU k aT nT cT ww)
 case first=>
  by_cases h3:1+y=3
  ·have h3':(1+y == 3)=true:=by simp[h3]
   have o3:w9.cell? ⟨O,3,none⟩=some (.int .u32 gb):=cell_of_row _ _ _ _ _ _ HD9.out.o;have f3:=frozen_of_row _ _ 3 _ _ HD9.out.o;have HDa:=hdI (HD9.out.putO HSO.out ((Wr.refl _ _).setCell 3 (.int .u32 0)) (heap_setCell_same _ _ _ _ _ _ HD9.out.o));have HXa:=hdI (HX9.out.typ HD9.out.o (by decide) (by decide) ((Wr.refl _ _).setCell 3 (.int .u32 0)))
   go_upto_region 10 with fail
   generalize w9.setCell ⟨O,3,none⟩ (.int .u32 0)=wa at *;have s1:wa.cell? ⟨S,1,none⟩=some (.slice aU nU cU):=cell_of_row _ _ _ _ _ _ HDa.out.s;have HBW:=hdI (below_any (w.heap.size+2) x n cap (nU+2) _ HDa.out.cb HDa.out.ct (by omega) (by omega));go_wp2_with fail;refine HBW.out.mono ?_;rintro e wb ⟨yc,rfl,yc0,yc1,hc,hw⟩;have HDb:=hdI (HDa.out.cur hc hw);have HXb:=hdI (HXa.out.wrG hw.wrG);obtain⟨fc,rfl⟩:=Int.eq_ofNat_of_zero_le yc0;have o2:wb.cell? ⟨O,2,none⟩=some (.int .u32 ga):=cell_of_row _ _ _ _ _ _ HDb.out.o;have f2:=frozen_of_row _ _ 2 _ _ HDb.out.o;have HDc:=hdI (HDb.out.putO HSO.out ((Wr.refl _ _).setCell 2 (.int .u32 fc)) (heap_setCell_same _ _ _ _ _ _ HDb.out.o));have HXc:=hdI (HXb.out.typ HDb.out.o (by decide) (by decide) ((Wr.refl _ _).setCell 2 (.int .u32 fc)));go_wp2
   go_meet
   case rel=>exact⟨_,fc,0,by omega,by omega,HDc.out,HXc.out⟩
  ·have h3':(1+y == 3)=false:=by simp[h3]
   go_wp2
   go_meet
   case rel=>exact⟨_,ga,gb,by omega,by omega,HD9.out,HX9.out⟩
 case rest=>
  obtain⟨kd,fa,fb,ha,hb,hd,hx⟩:=hcut;have HD:=hdI hd;have HX:=hdI hx;have HFB:=hdI (And.intro ha hb)
  go_upto_region 11 with fail
  go_cut [52] from 10 (fun v ww=>∃ b:Bool,v=.bool b∧(b=true→0<nD)∧DR 38 zFr w x n cap S O #[.slice aD nD cD,.slice aU nU cU,.int .i64 k,.slice aT nT cT] #[.int .u32 5,.int .i64 kd,.int .u32 fa,.int .u32 fb] ww∧DY (w.heap.size+2) aD nD cD aU nU cU k aT nT cT ww)
  case first=>
   have o1:_=some (Value.int .i64 kd):=cell_of_row _ _ 1 _ _ _ HD.out.o;have s0:_=some (Value.slice aD nD cD):=cell_of_row _ _ 0 _ _ _ HD.out.s;have HBW:=hdI (once_any (w.heap.size+2) x n cap 2 _ HD.out.cb HD.out.ct (by decide) (by decide));by_cases h2:kd=2
   ·have e2:(kd == 2)=true:=by simp[h2]
    by_cases hD:0<nD
    ·have hD':0<(nD:Int):=by omega
     go_wp2_with fail;refine HBW.out.mono ?_;rintro e w9 ⟨bo,rfl,hc,hw⟩;have HF:=hdI (HD.out.cur hc hw);have HXF:=hdI (HX.out.wrG hw.wrG);go_wp2
     go_meet
     case rel=>exact⟨bo,rfl,fun _=>hD,HF.out,HXF.out⟩
    ·have hD':¬ 0<(nD:Int):=by omega
     go_wp2
     go_meet
     case rel=>exact⟨false,rfl,by simp,HD.out,HX.out⟩
   ·have e2:(kd == 2)=false:=by simp[h2]
    go_wp2
    go_meet
    case rel=>exact⟨false,rfl,by simp,HD.out,HX.out⟩
  case rest=>
   obtain⟨b,rfl,hb,hd,hx⟩:=hcut;have HD':=hdI hd;have HX':=hdI hx
   go_upto_if 52 with fail
   try dsimp only[Act.put]
   go_cut [] from 10 (fun ww=>∃(kd:Int) (fa fb:Nat),fa<4294967296∧fb<4294967296∧DR 38 zFr w x n cap S O #[.slice aD nD cD,.slice aU nU cU,.int .i64 k,.slice aT nT cT] #[.int .u32 5,.int .i64 kd,.int .u32 fa,.int .u32 fb] ww∧DY (w.heap.size+2) aD nD cD aU nU cU k aT nT cT ww)
   case first=>
    cases b with
    |false=>
     go_wp2
     go_meet
     case rel=>exact⟨_,_,_,HFB.out.1,HFB.out.2,HD'.out,HX'.out⟩
    |true=>
     have hnD:=hb rfl;have hnD':0<(nD:Int):=by omega
     obtain⟨⟨D',U',T',hl⟩,_⟩:=HX'.out;obtain⟨qd,z,rfl,cz⟩:=hl.d.hd hnD
     go_upto_region 12 with fail
     refine wp_region_any (by kernel_rfl) ?_;refine wpAny_slotsU (fun _ _ _=>True) (frame:=(fun (a b c d e f g h i j k l m n o p q r s u v w x y z A B C D E F G H I J K L M N O P Q R S T U V W X Y Z a0 a1 a2 a3 a4 a5 a6 a7 a8 a9 b0 b1 b2 b3 b4 b5 b6 b7 b8 b9 c0 c1 c2 c3 c4:Value)=>fun (t:Nat→Value)=>({ tmps:=List.toArray [a,b,c,d,e,f,g,h,i,j,k,l,m,n,o,p,q,r,s,u,v,w,x,y,z,A,B,C,D,E,F,G,H,I,J,K,L,M,N,O,P,Q,R,S,T,U,V,W,X,Y,Z,a0,a1,t 0,t 1,t 2,t 3,t 4,t 5,t 6,t 7,t 8,t 9,t 10,a2,a3,a4,a5,a6,a7,a8,a9,b0,b1,b2,b3,b4,b5,b6,b7,b8,b9,c0,c1,c2,c3,c4],defers:=[] }:Act)) _ _ _ _ _ _ _ _ _ _ _ _ _ _ _ _ _ _ _ _ _ _ _ _ _ _ _ _ _ _ _ _ _ _ _ _ _ _ _ _ _ _ _ _ _ _ _ _ _ _ _ _ _ _ _ _ _ _ _ _ _ _ _ _ _ _ _ _ _ _ _ _ _ _ _ _)
      (Ext:=fun L u w'=>((L 7=true→L 6=true)∧(L 8=true→L 7=true)∧(L 9=true→L 8=true)∧(L 11=true→L 9=true))∧(if L 11=true then(∃(kd:Int) (fa fb:Nat),fa<4294967296∧fb<4294967296∧DR 38 zFr w x n cap S O #[.slice (some ⟨qd,0,none⟩) nD cD,.slice aU nU cU,.int .i64 k,.slice aT nT cT] #[.int .u32 5,.int .i64 kd,.int .u32 fa,.int .u32 fb] w'∧DY (w.heap.size+2) (some ⟨qd,0,none⟩) nD cD aU nU cU k aT nT cT w') else(DR 38 zFr w x n cap S O #[.slice (some ⟨qd,0,none⟩) nD cD,.slice aU nU cU,.int .i64 k,.slice aT nT cT] #[.int .u32 5,.int .i64 kd,.int .u32 fa,.int .u32 fb] w'∧DY (w.heap.size+2) (some ⟨qd,0,none⟩) nD cD aU nU cU k aT nT cT w'))) (Good:=fun i L w' v=>if i=0 then v=.pointer (some ⟨S,0,none⟩) else if i=1 then v=.slice (some ⟨qd,0,none⟩) nD cD else if i=2 then v=.pointer (some ⟨w.heap.size+2,0,none⟩) else if i=3 then v=.pointer (some ⟨S,0,none⟩) else if i=4 then v=.slice (some ⟨qd,0,none⟩) nD cD else if i=5 then v=.int .i64 nD else if i=6 then ∃ j:Nat,v=.int .i64 j∧j<nD else if i=7 then ∃ j:Nat,v=.pointer (some ⟨qd,j,none⟩)∧j<nD else if i=8 then ∃ z:Int,v=.int .i64 z else if i=9 then ∃ z:Nat,v=.int .u32 z∧z<4294967296 else if i=10 then v=.pointer (some ⟨O,2,none⟩) else if i=11 then L 11=true else True) ?hstab (by kernel_rfl) ?hop ?hdone _ _ ((fun (x0 x1 x2 x3 x4 x5 x6 x7 x8 x9 x10:Value)=>fun (i:Nat)=>if i=0 then x0 else if i=1 then x1 else if i=2 then x2 else if i=3 then x3 else if i=4 then x4 else if i=5 then x5 else if i=6 then x6 else if i=7 then x7 else if i=8 then x8 else if i=9 then x9 else if i=10 then x10 else undef) _ _ _ _ _ _ _ _ _ _ _) _ (by simp) ?ext ?start (by simp)
     case start=>intro i hi h;exact absurd h (by rw[Array.getD_eq_getD_getElem?,Array.getElem?_replicate];split<;>simp)
     case ext=>exact⟨⟨by simp,by simp,by simp,by simp⟩,by simp;exact⟨HD'.out.to (WrG.of_below ((Below.refl _ _).drew)).wrT (HD'.out.cb.bel ((Below.refl _ _).drew)).1,HX'.out.wrG (WrG.of_below ((Below.refl _ _).drew))⟩⟩
     case hstab=>
      intro j L w9 w' i v hM hij hLi h;by_cases h11:j=11
      ·subst h11;simp at h ⊢;unfold updK;split<;>simp[h]
      simp only[if_neg h11] at h ⊢;exact h
     case hop=>
      intro i o L t w' ho hLi hx hdep K hK;have hi:i<12:=(Array.getElem?_eq_some_iff.1 ho).1;have hD:∃ co,DR 38 zFr w x n cap S O #[.slice (some ⟨qd,0,none⟩) nD cD,.slice aU nU cU,.int .i64 k,.slice aT nT cT] co w'∧DY (w.heap.size+2) (some ⟨qd,0,none⟩) nD cD aU nU cU k aT nT cT w':=by
       have h:=hx.2;by_cases h11:L 11=true
       ·rw[if_pos h11] at h;obtain⟨_,_,_,_,_,h⟩:=h;exact⟨_,h⟩
       ·rw[if_neg h11] at h;exact⟨_,h⟩
      obtain⟨co,hD,hY⟩:=hD;have s0:w'.cell? ⟨S,0,none⟩=some (.slice (some ⟨qd,0,none⟩) nD cD):=cell_of_row _ _ _ _ _ _ hD.s;obtain rfl|rfl|rfl|rfl|rfl|rfl|rfl|rfl|rfl|rfl|rfl|rfl:i=0∨i=1∨i=2∨i=3∨i=4∨i=5∨i=6∨i=7∨i=8∨i=9∨i=10∨i=11:=by omega
      all_goals(simp at ho;subst ho)
      all_goals try(have hK':=hK w' _ rfl ⟨by simpa[updK] using hx.1,by simpa[updK] using hx.2⟩ trivial;simp[Region.binds] at hdep;rw[if_pos (by rfl)];go_simp;simpa[upd,hdep,s0] using hK';done)
      ·have d2:t 2=.pointer (some ⟨w.heap.size+2,0,none⟩):=by simpa using(hdep ⟨2,.data⟩ (by simp) rfl).2
       have d5:t 5=.int .i64 nD:=by simpa using(hdep ⟨5,.data⟩ (by simp) rfl).2
       have h7:¬ L 7=true:=fun h=>by rw[hx.1.1 h] at hLi;cases hLi
       have h8:¬ L 8=true:=fun h=>h7 (hx.1.2.1 h)
       have h9:¬ L 9=true:=fun h=>h8 (hx.1.2.2.1 h)
       have h11:¬ L 11=true:=fun h=>h9 (hx.1.2.2.2 h)
       have hf:=hx.2;rw[if_neg h11] at hf;have A:=below_any (w.heap.size+2) x n cap nD w' hf.1.cb hf.1.ct (by omega) (by have:=HBN.out;omega);have hK':∀ ww (y:Nat),y<nD→CurB ww (w.heap.size+2) x n cap→Wr (w.heap.size+2) w' ww→K _ ww:=fun ww y hy hc hw=>hK ww (.int .i64 y) (by simp;exact⟨y,rfl,hy⟩) ⟨by simp[updK,h7,h8,h9,h11],by simp only[updK];simp[h11];exact⟨hf.1.cur hc hw,hf.2.wrG hw.wrG⟩⟩ trivial
       rw[if_pos (by rfl)];go_simp;try simp only[d2,d5]
       refine A.mono ?_;rintro e w9 ⟨y,rfl,hy0,hy1,hc,hw⟩;obtain⟨y,rfl⟩:=Int.eq_ofNat_of_zero_le hy0;have hK2:=hK' w9 y (by omega) hc hw;go_simp;simpa[upd,d2,d5] using hK2
      ·have d1:t 1=.slice (some ⟨qd,0,none⟩) nD cD:=by simpa using(hdep ⟨1,.data⟩ (by simp) rfl).2
       have l6:=(hdep ⟨6,.data⟩ (by simp) rfl).1;obtain⟨j,d6,hj⟩:∃ j:Nat,t 6=.int .i64 j∧j<nD:=by simpa using(hdep ⟨6,.data⟩ (by simp) rfl).2
       have hj':(j:Int)<nD:=by omega
       have hK':=hK w' (.pointer (some ⟨qd,j,none⟩)) (by simp;exact hj) ⟨⟨by simp[updK,l6],by simp[updK],by simpa[updK] using hx.1.2.2.1,by simpa[updK] using hx.1.2.2.2⟩,by simpa[updK] using hx.2⟩ trivial;rw[if_pos (by rfl)];go_simp;simpa[upd,d1,d6,hj] using hK'
      ·have l7:=(hdep ⟨7,.data⟩ (by simp) rfl).1;obtain⟨j,d7,hj⟩:∃ j:Nat,t 7=.pointer (some ⟨qd,j,none⟩)∧j<nD:=by simpa using(hdep ⟨7,.data⟩ (by simp) rfl).2
       obtain⟨z,cz⟩:∃ z:Int,w'.cell? ⟨qd,j,none⟩=some (.int .i64 z):=by
        obtain⟨⟨D',U',T',hl⟩,_⟩:=hY;exact hl.d.at_j hj
       have hK':=hK w' (.int .i64 z) (by simp) ⟨⟨by simpa[updK] using hx.1.1,by simp[updK,l7],by simp[updK],by simpa[updK] using hx.1.2.2.2⟩,by simpa[updK] using hx.2⟩ trivial;rw[if_pos (by rfl)];go_simp;simpa[upd,d7,cz] using hK'
      ·have l8:=(hdep ⟨8,.data⟩ (by simp) rfl).1;obtain⟨z,d8⟩:∃ z:Int,t 8=.int .i64 z:=by simpa using(hdep ⟨8,.data⟩ (by simp) rfl).2
       obtain⟨z',ez,hz⟩:=wrapU z;have hK':=hK w' (.int .u32 z') (by simp;exact⟨z',rfl,hz⟩) ⟨⟨by simpa[updK] using hx.1.1,by simpa[updK] using hx.1.2.1,by simp[updK,l8],by simp[updK]⟩,by simpa[updK] using hx.2⟩ trivial;rw[if_pos (by rfl)];go_simp;simpa[upd,d8,ez] using hK'
      ·have d10:t 10=.pointer (some ⟨O,2,none⟩):=by simpa using(hdep ⟨10,.data⟩ (by simp) rfl).2
       have l9:=(hdep ⟨9,.data⟩ (by simp) rfl).1;obtain⟨z,d9,hz⟩:∃ z:Nat,t 9=.int .u32 z∧z<4294967296:=by simpa using(hdep ⟨9,.data⟩ (by simp) rfl).2
       have hf:=hx.2;rw[hLi,if_neg (by decide)] at hf;have o2:w'.cell? ⟨O,2,none⟩=some (.int .u32 fa):=cell_of_row _ _ _ _ _ _ hf.1.o;have f2:w'.frozen? ⟨O,2,none⟩=false:=frozen_of_row _ _ _ _ _ hf.1.o;have hwO:Wr O w' (w'.setCell ⟨O,2,none⟩ (.int .u32 z)):=(Wr.refl _ _).setCell _ _;have hK':=hK (w'.setCell ⟨O,2,none⟩ (.int .u32 z)) undef (by simp[updK]) ⟨⟨by simpa[updK] using hx.1.1,by simpa[updK] using hx.1.2.1,by simpa[updK] using hx.1.2.2.1,by simp[updK,l9]⟩,by
        have e:updK L 11 11=true:=by simp[updK]
        rw[if_pos e];exact⟨_,z,_,hz,HFB.out.2,hf.1.putO HSO.out hwO (heap_setCell_same _ _ _ _ _ _ hf.1.o),hf.2.typ hf.1.o (by decide) (by decide) hwO⟩⟩ trivial
       rw[if_pos (by rfl)];go_simp;simpa[upd,d9,d10,Act.put] using hK'
     case hdone=>
      intro L t w' hx hg;have h11:L 11=true:=by simpa using hg 11 (by decide)
      have hf:=hx.2;rw[if_pos h11] at hf;have HF:=hdI hf;go_wp2
      go_meet
      case rel=>exact HF.out
   case rest=>
    obtain⟨kd,fa,fb,ha,hb,hd,hx⟩:=hcut;have HD:=hdI hd;have HX:=hdI hx;have HFB:=hdI (And.intro ha hb);have HBW:=hdI (below_any (w.heap.size+2) x n cap 12 _ HD.out.cb HD.out.ct (by decide) (by decide));go_wp2_with fail;refine HBW.out.mono ?_;rintro e wk ⟨kz,rfl,kz0,kz1,hc,hw⟩;have HD':=hdI (HD.out.cur hc hw);have HX':=hdI (HX.out.wrG hw.wrG);have HD:=HD';have HX:=HX'
    go_upto_if 67 with fail
    try dsimp only[Act.put]
    go_cut [] from 10 (fun ww=>∃(kd:Int) (fa fb:Nat),fa<4294967296∧fb<4294967296∧DR 38 zFr w x n cap S O #[.slice aD nD cD,.slice aU nU cU,.int .i64 k,.slice aT nT cT] #[.int .u32 5,.int .i64 kd,.int .u32 fa,.int .u32 fb] ww∧DY (w.heap.size+2) aD nD cD aU nU cU k aT nT cT ww)
    case first=>
     by_cases hk:kz=0
     ·have hk':(kz == 0)=true:=by simp[hk]
      have o2:_=some (Value.int .u32 fa):=cell_of_row _ _ 2 _ _ _ HD.out.o;have f2:=frozen_of_row _ _ 2 _ _ HD.out.o;have HF:=hdI (HD.out.putO HSO.out ((Wr.refl _ _).setCell 2 (.int .u32 ((256+ga:Nat):Int))) (heap_setCell_same _ _ _ _ _ _ HD.out.o));have HXF:=hdI (HX.out.typ HD.out.o (by decide) (by decide) ((Wr.refl _ _).setCell 2 (.int .u32 ((256+ga:Nat):Int))));go_wp2
      go_meet
      case rel=>exact⟨_,256+ga,_,by omega,HFB.out.2,HF.out,HXF.out⟩
     ·have hk':(kz == 0)=false:=by simp[hk]
      go_wp2
      go_meet
      case rel=>exact⟨_,_,_,HFB.out.1,HFB.out.2,HD.out,HX.out⟩
    case rest=>
     obtain⟨kd,fa,fb,ha,hb,hd,hx⟩:=hcut;have HD:=hdI hd;have HX:=hdI hx;have HFB:=hdI (And.intro ha hb)
     go_upto_if 73 with fail
     try dsimp only[Act.put]
     go_cut [] from 10 (fun ww=>∃(kd:Int) (fa fb:Nat),fa<4294967296∧fb<4294967296∧DR 38 zFr w x n cap S O #[.slice aD nD cD,.slice aU nU cU,.int .i64 k,.slice aT nT cT] #[.int .u32 5,.int .i64 kd,.int .u32 fa,.int .u32 fb] ww∧DY (w.heap.size+2) aD nD cD aU nU cU k aT nT cT ww)
     case first=>
      by_cases hk:kz=1
      ·have hk':(kz == 1)=true:=by simp[hk]
       have o3:_=some (Value.int .u32 fb):=cell_of_row _ _ 3 _ _ _ HD.out.o;have f3:=frozen_of_row _ _ 3 _ _ HD.out.o;have HF:=hdI (HD.out.putO HSO.out ((Wr.refl _ _).setCell 3 (.int .u32 2)) (heap_setCell_same _ _ _ _ _ _ HD.out.o));have HXF:=hdI (HX.out.typ HD.out.o (by decide) (by decide) ((Wr.refl _ _).setCell 3 (.int .u32 2)));go_wp2
       go_meet
       case rel=>exact⟨_,_,2,HFB.out.1,by decide,HF.out,HXF.out⟩
      ·have hk':(kz == 1)=false:=by simp[hk]
       go_wp2
       go_meet
       case rel=>exact⟨_,_,_,HFB.out.1,HFB.out.2,HD.out,HX.out⟩
     case rest=>
      obtain⟨kd,fa,fb,ha,hb,hd,hx⟩:=hcut;have HD:=hdI hd;have HX:=hdI hx;have HFB:=hdI (And.intro ha hb)
      go_upto_if 76 with fail
      try dsimp only[Act.put]
      go_cut [] from 10 (fun ww=>∃(kd:Int) (fa fb:Nat),fa<4294967296∧fb<4294967296∧DR 38 zFr w x n cap S O #[.slice aD nD cD,.slice aU nU cU,.int .i64 k,.slice aT nT cT] #[.int .u32 5,.int .i64 kd,.int .u32 fa,.int .u32 fb] ww∧DY (w.heap.size+2) aD nD cD aU nU cU k aT nT cT ww)
      case first=>
       by_cases hk:kz=2
       ·have hk':(kz == 2)=true:=by simp[hk]
        have o1:_=some (Value.int .i64 kd):=cell_of_row _ _ 1 _ _ _ HD.out.o;have f1:=frozen_of_row _ _ 1 _ _ HD.out.o;have HF:=hdI (HD.out.putO HSO.out ((Wr.refl _ _).setCell 1 (.int .i64 (4*gb))) (heap_setCell_same _ _ _ _ _ _ HD.out.o));have HXF:=hdI (HX.out.typ HD.out.o (by decide) (by decide) ((Wr.refl _ _).setCell 1 (.int .i64 (4*gb))));go_wp2
        go_meet
        case rel=>exact⟨_,_,_,HFB.out.1,HFB.out.2,HF.out,HXF.out⟩
       ·have hk':(kz == 2)=false:=by simp[hk]
        go_wp2
        go_meet
        case rel=>exact⟨_,_,_,HFB.out.1,HFB.out.2,HD.out,HX.out⟩
      case rest=>
       obtain⟨kd,fa,fb,ha,hb,hd,hx⟩:=hcut;have HD:=hdI hd;have HX:=hdI hx;have HFB:=hdI (And.intro ha hb)
       go_upto_if 81 with fail
       try dsimp only[Act.put]
       go_cut [] from 10 (fun ww=>∃ aD nD cD aU nU cU k aT nT cT,DR 38 zFr w x n cap S O #[.slice aD nD cD,.slice aU nU cU,.int .i64 k,.slice aT nT cT] #[.int .u32 5,.int .i64 kd,.int .u32 fa,.int .u32 fb] ww∧DY (w.heap.size+2) aD nD cD aU nU cU k aT nT cT ww)
       case first=>
        by_cases hk:kz=3
        ·have hk':(kz == 3)=true:=by simp[hk]
         clear hk;obtain⟨⟨D',U',T',hl⟩,hk9⟩:=HX.out;have hlD:=hl.d.sat.2.1;have hlU:=hl.u.sat.2.1;have hbd:=HAP.out.2;have HBW:=hdI (spoilSt_any (w.heap.size+2) x n cap aD aU aT nD cD nU cU nT cT D' U' T' k _ HD.out.cb HD.out.ct hl (by omega) HAP.out.1 hk9);clear hl hlD hlU hbd hk9;go_wp2_with (first
          |(refine wpList_load_row rfl 26 (.tmp 5) rfl S rfl 26 _ (0,0) _ HD.out.s Tryz.underlying26 rfl Tryz.sizeSt ?_)
          |fail)
         refine HBW.out.mono ?_;rintro e wq ⟨v,rfl,⟨bD,mD,dD,bU,mU,dU,kk,bT,mT,dT,D9,U9,T9,rfl,hl9,hk9⟩,hc,hw⟩;have HDq:=hdI (HD.out.to hw hc);have HXq:=hdI (show DY (w.heap.size+2) bD mD dD bU mU dU kk bT mT dT wq from⟨⟨_,_,_,hl9⟩,hk9⟩);have hwS:=Wr.setRow S wq #[.slice bD mD dD,.slice bU mU dU,.int .i64 kk,.slice bT mT dT];have HF:=hdI (HDq.out.putS (by omega) hwS (setRow_heap _ _ _ _ _ _ HDq.out.s));have HXF:=hdI (HXq.out.typ HDq.out.s (by decide) (by decide) hwS);clear HBW hl9 hk9 hc hw hwS HXq HD HX;go_wp2_with (first
          |(refine wpList_store_row rfl 26 (.tmp 5) (.tmp 84) rfl S #[.slice bD mD dD,.slice bU mU dU,.int .i64 kk,.slice bT mT dT] rfl rfl 26 _ HDq.out.s Tryz.sizeSt rfl (by simp[Value.oneCell']) ?_)
          |fail)
         go_meet
         case rel=>exact⟨_,_,_,_,_,_,_,_,_,_,HF.out,HXF.out⟩
        ·have hk':(kz == 3)=false:=by simp[hk]
         go_wp2
         go_meet
         case rel=>exact⟨_,_,_,_,_,_,_,_,_,_,HD.out,HX.out⟩
       case rest=>
        obtain⟨aD,nD,cD,aU,nU,cU,k,aT,nT,cT,hd,hx⟩:=hcut;have HD:=hdI hd;have HX:=hdI hx
        go_upto_region 22 with fail
        refine wp_region_any (by kernel_rfl) ?_;refine wpAny_slotsV (fun _ _ _=>True) (frame:=(fun (a b c d e f g h i j k l m n o p q r s u v w x y z A B C D E F G H I J K L M N O P Q R S T U V W X Y Z a0 a1 a2 a3 a4 a5 a6 a7 a8 a9 b0 b1 b2 b3 b4 b5 b6 b7 b8 b9 c0 c1 c2 c3 c4 c5 c6 c7 c8 c9 d0 d1 d2 d3:Value)=>fun (t:Nat→Value)=>({ tmps:=List.toArray [a,b,c,d,e,f,g,h,i,j,k,l,m,n,o,p,q,r,s,u,v,w,x,y,z,A,B,C,D,E,F,G,H,I,J,K,L,M,N,O,P,Q,R,S,T,U,V,W,X,Y,Z,a0,a1,a2,a3,a4,a5,a6,a7,a8,a9,b0,b1,b2,b3,b4,b5,b6,b7,b8,b9,c0,c1,c2,c3,c4,c5,c6,c7,c8,c9,d0,d1,d2,d3,t 0,t 1],defers:=[] }:Act)) _ _ _ _ _ _ _ _ _ _ _ _ _ _ _ _ _ _ _ _ _ _ _ _ _ _ _ _ _ _ _ _ _ _ _ _ _ _ _ _ _ _ _ _ _ _ _ _ _ _ _ _ _ _ _ _ _ _ _ _ _ _ _ _ _ _ _ _ _ _ _ _ _ _ _ _ _ _ _ _ _ _ _ _ _)
         (Ext:=fun L u w'=>ZR 38 zFr w S O #[.slice aD nD cD,.slice aU nU cU,.int .i64 k,.slice aT nT cT] #[.int .u32 5,.int .i64 kd,.int .u32 fa,.int .u32 fb] (L 2) (L 3) w'∧DY (w.heap.size+2) aD nD cD aU nU cU k aT nT cT w') (Good:=fun i L w' v=>if i=0 then v=.agg #[.slice aD nD cD,.slice aU nU cU,.int .i64 k,.slice aT nT cT] else if i=1 then v=.agg #[.int .u32 5,.int .i64 kd,.int .u32 fa,.int .u32 fb] else if i=2 then L 2=true else if i=3 then L 3=true else True) ?hstab (by kernel_rfl) ?hop ?hdone _ _ ((fun (x0 x1:Value)=>fun (i:Nat)=>if i=0 then x0 else if i=1 then x1 else undef) _ _) _ (by simp) ?ext ?start (by simp)
        case start=>intro i hi h;exact absurd h (by rw[Array.getD_eq_getD_getElem?,Array.getElem?_replicate];split<;>simp)
        case ext=>exact⟨⟨HD.out.bel.trans (((Below.refl _ _).drew).mono HD.out.bel.size),HD.out.s,HD.out.o,HD.out.r1,HD.out.r3⟩,HX.out.wrG (WrG.of_below ((Below.refl _ _).drew))⟩
        case hstab=>
         intro j L w9 w' i v hM hij hLi h;by_cases h3:j=2
         ·subst h3;simp at h ⊢;unfold updK;split<;>simp[h]
         by_cases h5:j=3
         ·subst h5;simp at h ⊢;unfold updK;split<;>simp[h]
         simp only[if_neg h3,if_neg h5] at h ⊢;exact h
        case hop=>
         intro i o L t w' ho hLi hx hdep K hK;have hi:i<4:=(Array.getElem?_eq_some_iff.1 ho).1;obtain rfl|rfl|rfl|rfl:i=0∨i=1∨i=2∨i=3:=by omega
         all_goals(simp at ho;subst ho)
         all_goals try(have hK':=hK w' _ rfl (by simpa[updK] using hx) trivial;simp[Region.binds] at hdep;rw[if_pos (by rfl)];go_simp;simpa[upd,hdep] using hK';done)
         ·clear hdep;have hK':=hK w' (.agg #[.slice aD nD cD,.slice aU nU cU,.int .i64 k,.slice aT nT cT]) (by simp) (by simpa[updK] using hx) trivial;rw[if_pos (by rfl)];refine wp_load_row 26 (.tmp 5) rfl S rfl 26 _ (0,0) _ hx.1.s Tryz.underlying26 rfl Tryz.sizeSt ?_;simpa[upd,Act.put] using hK'
         ·clear hdep;have hK':=hK w' (.agg #[.int .u32 5,.int .i64 kd,.int .u32 fa,.int .u32 fb]) (by simp) (by simpa[updK] using hx) trivial;rw[if_pos (by rfl)];refine wp_load_row 38 (.tmp 6) rfl O rfl 38 _ (0,0) _ hx.1.o Tryz.underlying38 rfl Tryz.sizeFr ?_;simpa[upd,Act.put] using hK'
         ·have d0:t 0=.agg #[.slice aD nD cD,.slice aU nU cU,.int .i64 k,.slice aT nT cT]:=by simpa using(hdep ⟨0,.data⟩ (by simp) rfl).2
          obtain⟨hz,hX⟩:=hx;rw[hLi] at hz;have hK':=hK (w'.setRow w.heap.size #[.slice aD nD cD,.slice aU nU cU,.int .i64 k,.slice aT nT cT]) undef (by simp[updK]) (by
           simp only[updK];simp;exact⟨hz.one HSO2.out,hX.typ hz.r1 (by decide) (by decide) (Wr.setRow _ _ _)⟩) trivial
          rw[if_pos (by rfl)];refine wp_store_row 26 (.tmp 2) (.tmp 85) rfl w.heap.size #[.slice aD nD cD,.slice aU nU cU,.int .i64 k,.slice aT nT cT] rfl d0 26 _ hz.r1 Tryz.sizeSt rfl (by simp[Value.oneCell']) ?_;simpa[upd,Act.put] using hK'
         ·have d1:t 1=.agg #[.int .u32 5,.int .i64 kd,.int .u32 fa,.int .u32 fb]:=by simpa using(hdep ⟨1,.data⟩ (by simp) rfl).2
          obtain⟨hz,hX⟩:=hx;rw[hLi] at hz;have hK':=hK (w'.setRow (w.heap.size+1) #[.int .u32 5,.int .i64 kd,.int .u32 fa,.int .u32 fb]) undef (by simp[updK]) (by
           simp only[updK];simp;exact⟨hz.two HSO2.out,hX.typ hz.r3 (by decide) (by decide) (Wr.setRow _ _ _)⟩) trivial
          rw[if_pos (by rfl)];refine wp_store_row 38 (.tmp 3) (.tmp 86) rfl (w.heap.size+1) #[.int .u32 5,.int .i64 kd,.int .u32 fa,.int .u32 fb] rfl d1 38 _ hz.r3 Tryz.sizeFr rfl (by simp[Value.oneCell']) ?_;simpa[upd,Act.put] using hK'
        case hdone=>
         intro L t w' hx hg;have h3:L 2=true:=by simpa using hg 2 (by decide)
         have h5:L 3=true:=by simpa using hg 3 (by decide)
         rw[h3,h5] at hx;have HF:=hdI hx;go_wp2_with fail
         (try simp only[Exit.inBlock,Exit.then])
         exact bodyPost_ret (results_sf rfl _ _ w.heap.size (w.heap.size+1) _ _ _ _ _ _ _ _ rfl rfl HF.out.1.r1 HF.out.1.r3) rfl ⟨_,_,_,_,_,_,_,_,_,_,_,_,_,rfl,HFB.out.1,HFB.out.2,HF.out.2,HF.out.1.bel⟩
set_option maxRecDepth 100000 in
set_option maxHeartbeats 8000000 in
theorem adm_any {H B g:Nat} {w:World} {d u:List Int} {v:Value} {D U:List Int} {k:Int} {T:List Int} {n:Nat} (h:BkV H B g w d u v D U k T n) (bp op cp:Nat) (ks:List Int) (ta:Option Addr) (tn tc:Nat) (tk:List Int) (kind now N:Int)
  (hk:ks.length=32) (hp:PtA w bp op ks) (zk:Byte ks) (ht:tk.length=tn) (mt:tn≤1048576) (hct:tn≤tc) (hat:At .u8 w ta tk) (zt:Byte tk) (hT:TabIn w) (hV:1<w.heap.size) :
  Calls Tryz.prog 74 #[.pointer (some ⟨g,0,none⟩),.slice (some ⟨bp,op,none⟩) 32 cp,.agg #[.int .i64 kind,.slice ta tn tc,.int .i64 now,.int .i64 N]] w fun e w'=>∃ x y,e=.returned (.tuple #[x,y])∧Below w.heap.size w w'∧((tapC D U ks tk now=1∧x=.int .i64 (tkS tk)∧y=.nilIface)∨(¬ tapC D U ks tk now=1∧y=.iface 128 (.int .i64 (tapC D U ks tk now)))):=by
 have HKw0:=hid_ofS h;have HA:Hid (∀ wz,Below w.heap.size w wz→At .u8 wz ta tk∧PtA wz bp op ks∧TabIn wz):=fun wz h=>⟨hat.below h,hp.below h,tab_keepV hT hV h⟩
 have HL:Hid (tk.length=tn∧ks.length=32∧Byte ks∧Byte tk):=⟨ht,hk,zk,zt⟩
 have HV1:=hdI <| hV
 have HTB:Hid (tkB tk=true→tk.length=72):=fun h=>by
  unfold tkB at h;simp at h;exact h.1
 have HNN:=hdI <| tkS_nn zt
 have HSZ:Hid ((Tryz.prog.info? 86).map (·.size)=some 3):=by show _=_;kernel_rfl
 have HCB:Hid (now<0∨4294967295<now→tapC D U ks tk now=10):=tapC_bad;have HCI:Hid (0≤now→now≤4294967295→tapC D U ks tk now=if tkB tk=false then 2 else if 256≤tkS tk then 3 else if tkE tk<now then 4 else if memB (tkS tk) D=true then 5 else if memB (tkS tk) U=true then 6 else if vsR ks (tk.take 8) (tk.drop 8)=true then 1 else 7):=tapC_in;have HBA:Hid (Below w.heap.size w (w.alloc (.cells #[.int .i64 kind,.slice ta tn tc,.int .i64 now,.int .i64 N] 28))):=(Below.refl _ _).alloc (Nat.le_refl _) _;have HR0:Hid ((w.alloc (.cells #[.int .i64 kind,.slice ta tn tc,.int .i64 now,.int .i64 N] 28)).heap[w.heap.size]?=some (.cells #[.int .i64 kind,.slice ta tn tc,.int .i64 now,.int .i64 N] 28 (0,0))):=heap_alloc_new w _;go_enter Tryz.func74,Tryz.ntmps74
 go_upto_region 1 with fail
 generalize w.alloc (.cells #[.int .i64 kind,.slice ta tn tc,.int .i64 now,.int .i64 N] 28)=w0 at *;have o1:w0.cell? ⟨w.heap.size,1,none⟩=some (.slice ta tn tc):=by rw[cell_of_row w0 _ 1 _ _ _ HR0.out];rfl
 have o2:w0.cell? ⟨w.heap.size,2,none⟩=some (.int .i64 now):=by rw[cell_of_row w0 _ 2 _ _ _ HR0.out];rfl
 go_wp2_with fail;refine(isNow_any _ _).mono ?_;rintro e w9 ⟨rfl,e9⟩;obtain rfl:w0=w9:=e9.symm;by_cases hn:0≤now∧now≤4294967295
 case neg=>
  have HNO:Hid (nowOk now=false):=decide_eq_false hn;have HF:Hid (tapC D U ks tk now=10):=HCB.out (by omega);rw[HNO.out];go_wp2
  go_ret2
  exact⟨_,_,rfl,HBA.out,.inr ⟨by rw[HF.out];decide,by rw[HF.out];rfl⟩⟩
 have HNO:Hid (nowOk now=true):=decide_eq_true hn;rw[HNO.out];have HC:=hid_ofS (HCI.out hn.1 hn.2);go_wp2_with fail;refine(ptI_any ta tn tc tk _ HL.out.1 mt hct (HA.out _ HBA.out).1 HL.out.2.2.2).mono ?_;rintro e w1 ⟨rfl,hb1⟩;have HR1:Hid (w1.heap[w.heap.size]?=some (.cells #[.int .i64 kind,.slice ta tn tc,.int .i64 now,.int .i64 N] 28 (0,0))):=by show _=_;rw[hb1.block _ (Array.getElem?_eq_some_iff.1 HR0.out).1];exact HR0.out
 have HB1:=hdI <| HBA.out.trans (hb1.mono HBA.out.size)
 generalize hq:tkB tk=q at *;have HQ:=hdI <| hq
 obtain⟨s,x,HV⟩:∃ s x,Hid (tkV tk=.agg #[.bool q,.int .i64 s,.int .i64 x]∧(q=true→tkS tk=s∧tkE tk=x)):=by
  cases q with
  |false=>exact⟨0,0,tkV_no HQ.out,fun h=>by cases h⟩
  |true=>exact⟨_,_,tkV_yes HQ.out,fun _=>⟨rfl,rfl⟩⟩
 have HN:Hid ((w1.alloc (.cells #[.bool false,.int .i64 0,.int .i64 0] 86)).heap[w1.heap.size]?=some (.cells #[.bool false,.int .i64 0,.int .i64 0] 86 (0,0))):=heap_alloc_new w1 _;have HBX:Hid (Below w1.heap.size w1 ((w1.alloc (.cells #[.bool false,.int .i64 0,.int .i64 0] 86)).setRow w1.heap.size #[.bool q,.int .i64 s,.int .i64 x])):=((Below.refl _ _).alloc (Nat.le_refl _) _).trans ((Wr.setRow _ _ _).below (Nat.le_refl _));have HR2:Hid (((w1.alloc (.cells #[.bool false,.int .i64 0,.int .i64 0] 86)).setRow w1.heap.size #[.bool q,.int .i64 s,.int .i64 x]).heap[w1.heap.size]?=some (.cells #[.bool q,.int .i64 s,.int .i64 x] 86 (0,0))):=setRow_heap _ _ _ _ _ _ HN.out;rw[HV.out.1]
 go_upto_region 4 with (first
  |(refine wpList_store_row rfl 86 (.tmp 8) (.tmp 16) rfl w1.heap.size #[.bool q,.int .i64 s,.int .i64 x] rfl rfl 86 _ HN.out HSZ.out rfl (by simp[Value.oneCell']) ?_)
  |fail)
 generalize (w1.alloc (.cells #[.bool false,.int .i64 0,.int .i64 0] 86)).setRow w1.heap.size #[.bool q,.int .i64 s,.int .i64 x]=w2 at *;have HB2:=hdI <| HB1.out.trans (HBX.out.mono HB1.out.size)
 have HKw2:=hdI <| HKw0.out.below HB2.out
 have HRO:Hid (w2.heap[w.heap.size]?=some (.cells #[.int .i64 kind,.slice ta tn tc,.int .i64 now,.int .i64 N] 28 (0,0))):=by show _=_;rw[HBX.out.block _ (Array.getElem?_eq_some_iff.1 HR1.out).1];exact HR1.out
 have c0:w2.cell? ⟨w1.heap.size,0,none⟩=some (.bool q):=by rw[cell_of_row w2 _ 0 _ _ _ HR2.out];rfl
 have c1:w2.cell? ⟨w1.heap.size,1,none⟩=some (.int .i64 s):=by rw[cell_of_row w2 _ 1 _ _ _ HR2.out];rfl
 have c2:w2.cell? ⟨w1.heap.size,2,none⟩=some (.int .i64 x):=by rw[cell_of_row w2 _ 2 _ _ _ HR2.out];rfl
 have o1:w2.cell? ⟨w.heap.size,1,none⟩=some (.slice ta tn tc):=by rw[cell_of_row w2 _ 1 _ _ _ HRO.out];rfl
 have o2:w2.cell? ⟨w.heap.size,2,none⟩=some (.int .i64 now):=by rw[cell_of_row w2 _ 2 _ _ _ HRO.out];rfl
 cases q with
 |false=>
  have HF:Hid (tapC D U ks tk now=2):=by show _=_;rw[HC.out,if_pos rfl]
  clear HC HV HTB HKw2 c1 c2 o1 o2;go_wp2
  go_ret2
  exact⟨_,_,rfl,HB2.out,.inr ⟨by rw[HF.out];decide,by rw[HF.out];rfl⟩⟩
 |true=>
 have HSV:=hdI <| (HV.out.2 rfl).1
 have HCX:=HC.out;rw[if_neg (fun h=>by cases h),(HV.out.2 rfl).1,(HV.out.2 rfl).2] at HCX;have HC2:=hid_ofS HCX;have HT72:=hdI <| HTB.out rfl
 have HS1:Hid (0≤s):=by show _≤_;rw[←HSV.out];exact HNN.out
 clear HC HV HTB HQ HCX
 go_upto_region 6 with fail
 clear c0;go_wp2_with fail;refine(isSerial_any _ _).mono ?_;rintro e w9 ⟨rfl,e9⟩;obtain rfl:w2=w9:=e9.symm;by_cases hs:256≤s
 ·have HF:Hid (tapC D U ks tk now=3):=by show _=_;rw[HC2.out,if_pos hs]
  have HSO:Hid (serOk s=false):=decide_eq_false (by omega);rw[HSO.out];clear HC2 c1 c2 o1 o2 HKw2;go_wp2
  go_ret2
  exact⟨_,_,rfl,HB2.out,.inr ⟨by rw[HF.out];decide,by rw[HF.out];rfl⟩⟩
 have HSO:Hid (serOk s=true):=decide_eq_true ⟨HS1.out,by omega⟩;have HS0:Hid (0≤s∧s<256):=⟨HS1.out,by omega⟩
 rw[HSO.out];by_cases hx:x<now
 ·have HF:Hid (tapC D U ks tk now=4):=by show _=_;rw[HC2.out,if_neg hs,if_pos hx]
  clear HC2 HKw2 c1 o1;go_wp2
  go_ret2
  exact⟨_,_,rfl,HB2.out,.inr ⟨by rw[HF.out];decide,by rw[HF.out];rfl⟩⟩
 have HCX:=HC2.out;rw[if_neg hs,if_neg hx] at HCX;have HC3:=hid_ofS HCX;clear HC2 HCX hs HSO HS1
 go_upto_region 10 with fail
 clear hx c2 o2;have HAS:Hid (∀ wz,Below w2.heap.size w2 wz→Calls Tryz.prog 71 #[.pointer (some ⟨g,0,none⟩),.int .i64 s] wz fun e w'=>e=.returned (.bool (memB s D))∧Below wz.heap.size wz w'):=fun wz h=>by
  have hk:=HKw2.out.below h;refine(hasS_any g 0 s _ _ (memB s D) wz hk.bk.batd hk.sd ?_).mono ?_
  ·have e:=Int.toNat_of_nonneg HS0.out.1;rw[e];exact⟨fun h=>⟨HS0.out.1,HS0.out.2,memB_of h⟩,fun h=>memB_yes h.2.2⟩
  ·rintro e w' ⟨rfl,rfl⟩;exact⟨rfl,Below.refl _ _⟩
 have HCS:=hdI <| c1
 have HLT1:=hdI <| block_lt_of_cell c1
 have HO1:=hdI <| o1
 have HLT:=hdI <| block_lt_of_cell o1
 obtain⟨m,hm⟩:∃ m,m=memB s D:=⟨_,rfl⟩
 have HM:=hdI <| hm.symm
 rw[←hm] at HAS;clear hm c1 o1;go_wp2_with fail;refine wp_region_any (by kernel_rfl) ?_;refine wpAny_slotsU (fun _ a b=>Below a.heap.size a b) (frame:=(fun (a b c d e f g h i j k l m n o p q r s u v w x y z A B C D E F G H I J K L M N O P Q R S T U V W X Y Z a0 a1 a2 a3 a4 a5:Value)=>fun (t:Nat→Value)=>({ tmps:=List.toArray [a,b,c,d,e,f,g,h,i,j,k,l,m,n,o,p,q,r,s,u,v,w,x,y,z,A,B,C,D,E,F,G,H,I,J,t 6,t 0,t 1,t 2,t 3,t 4,t 5,K,L,M,N,O,P,Q,R,S,T,U,V,W,X,Y,Z,a0,a1,a2,a3,a4,a5],defers:=[] }:Act)) _ _ _ _ _ _ _ _ _ _ _ _ _ _ _ _ _ _ _ _ _ _ _ _ _ _ _ _ _ _ _ _ _ _ _ _ _ _ _ _ _ _ _ _ _ _ _ _ _ _ _ _ _ _ _ _ _)
  (Ext:=fun L u w'=>ApX w2 [] L u w') (Good:=fun i L w' v=>if i=0 then v=.pointer (some ⟨g,0,none⟩) else if i=1 then v=.pointer (some ⟨g,0,none⟩) else if i=2 then v=.pointer (some ⟨g,0,none⟩) else if i=3 then v=.pointer (some ⟨w1.heap.size,1,none⟩) else if i=4 then v=.int .i64 s else if i=5 then v=.bool m else if i=6 then v=.bool m else True) ?hstab (by kernel_rfl) ?hop ?hdone _ _ ((fun (x0 x1 x2 x3 x4 x5 x6:Value)=>fun (i:Nat)=>if i=0 then x0 else if i=1 then x1 else if i=2 then x2 else if i=3 then x3 else if i=4 then x4 else if i=5 then x5 else if i=6 then x6 else undef) _ _ _ _ _ _ _) _ (by simp) ?ext ?start (by simp)
 case start=>intro i hi h;exact absurd h (by rw[Array.getD_eq_getD_getElem?,Array.getElem?_replicate];split<;>simp)
 case ext=>exact(ApX.start w2 [] _ _ (fun i=>by rw[Array.getD_eq_getD_getElem?,Array.getElem?_replicate];split<;>rfl)).drew
 case hstab=>
  intro j L w9 w' i v hM _ _ h;exact h
 case hop=>
  intro i o L t w' ho hLi hx hdep K hK;have hi:i<7:=(Array.getElem?_eq_some_iff.1 ho).1;obtain rfl|rfl|rfl|rfl|rfl|rfl|rfl:i=0∨i=1∨i=2∨i=3∨i=4∨i=5∨i=6:=by omega
  all_goals(simp at ho;subst ho)
  all_goals try(have hK':=hK w' _ rfl (hx.step _ _ (Below.refl _ _) (fun h=>absurd h (by decide))) (Below.refl _ _);clear hK;simp[Region.binds] at hdep;rw[if_pos (by rfl)];go_simp;simpa[upd,hdep] using hK';done)
  ·have d3:t 3=.pointer (some ⟨w1.heap.size,1,none⟩):=by simpa using(hdep ⟨3,.data⟩ (by simp) rfl).2
   clear hdep;have cc:w'.cell? ⟨w1.heap.size,1,none⟩=some (.int .i64 s):=by rw[hx.below.cell (p:=⟨w1.heap.size,1,none⟩) HLT1.out];exact HCS.out
   have hK':=hK w' (.int .i64 s) (by simp) (hx.step 4 _ (Below.refl _ _) (fun h=>absurd h (by decide))) (Below.refl _ _);clear hK;rw[if_pos (by rfl)];go_simp;simpa[upd,d3] using hK'
  ·have d2:t 2=.pointer (some ⟨g,0,none⟩):=by simpa using(hdep ⟨2,.data⟩ (by simp) rfl).2
   have d4:t 4=.int .i64 s:=by simpa using(hdep ⟨4,.data⟩ (by simp) rfl).2
   clear hdep;have A:=HAS.out w' hx.below;have hK':∀ ww,Below w'.heap.size w' ww→K _ ww:=fun ww hb=>hK ww (.bool m) (by simp) (hx.step 5 _ hb (fun h=>absurd h (by decide))) hb
   clear hK;rw[if_pos (by rfl)];go_simp;try simp only[d2,d4]
   refine A.mono ?_;rintro e w9 ⟨rfl,hb9⟩;have hK2:=hK' w9 hb9;clear hK' A hb9;go_simp;simpa[upd,d2,d4] using hK2
 case hdone=>
  intro L t w3 hx hg;have e6:t 6=.bool m:=by simpa using hg 6 (by decide)
  have HB3:=hdI <| HB2.out.trans (hx.below.mono HB2.out.size)
  have c1':w3.cell? ⟨w1.heap.size,1,none⟩=some (.int .i64 s):=by rw[hx.below.cell (p:=⟨w1.heap.size,1,none⟩) HLT1.out];exact HCS.out
  have o1':w3.cell? ⟨w.heap.size,1,none⟩=some (.slice ta tn tc):=by rw[hx.below.cell (p:=⟨w.heap.size,1,none⟩) HLT.out];exact HO1.out
  have HKw3:=hdI <| HKw2.out.below hx.below
  clear hg hx HAS HCS HO1 HLT HLT1 HKw2;have c1:=c1';have o1:=o1';clear c1' o1';simp only[e6];clear e6;cases m with
  |true=>
   have HF:Hid (tapC D U ks tk now=5):=by show _=_;rw[HC3.out,if_pos HM.out]
   clear HC3 HM c1 o1;go_wp2
   go_ret2
   exact⟨_,_,rfl,HB3.out,.inr ⟨by rw[HF.out];decide,by rw[HF.out];rfl⟩⟩
  |false=>
   have HC4:=HC3.out;rw[if_neg (by rw[HM.out];decide)] at HC4;have HY:=hid_ofS HC4;clear HC4 HC3 HM;have HC4:=HY;clear HY;have HAS:Hid (∀ wz,Below w3.heap.size w3 wz→Calls Tryz.prog 71 #[.pointer (some ⟨g,32,none⟩),.int .i64 s] wz fun e w'=>e=.returned (.bool (memB s U))∧Below wz.heap.size wz w'):=fun wz h=>by
    have hk:=HKw3.out.below h;refine(hasS_any g 32 s _ _ (memB s U) wz hk.bk.batu hk.su ?_).mono ?_
    ·have e:=Int.toNat_of_nonneg HS0.out.1;rw[e];exact⟨fun h=>⟨HS0.out.1,HS0.out.2,memB_of h⟩,fun h=>memB_yes h.2.2⟩
    ·rintro e w' ⟨rfl,rfl⟩;exact⟨rfl,Below.refl _ _⟩
   have HCS:=hdI <| c1
   have HLT1:=hdI <| block_lt_of_cell c1
   have HO1:=hdI <| o1
   have HLT:=hdI <| block_lt_of_cell o1
   obtain⟨m,hm⟩:∃ m,m=memB s U:=⟨_,rfl⟩
   have HM:=hdI <| hm.symm
   rw[←hm] at HAS;clear hm c1 o1;go_wp2_with fail;refine wp_region_any (by kernel_rfl) ?_;refine wpAny_slotsU (fun _ a b=>Below a.heap.size a b) (frame:=(fun (a b c d e f g h i j k l m n o p q r s u v w x y z A B C D E F G H I J K L M N O P Q R S T U V W X Y Z a0 a1 a2 a3 a4 a5:Value)=>fun (t:Nat→Value)=>({ tmps:=List.toArray [a,b,c,d,e,f,g,h,i,j,k,l,m,n,o,p,q,r,s,u,v,w,x,y,z,A,B,C,D,E,F,G,H,I,J,K,L,M,N,O,P,Q,R,t 6,t 0,t 1,t 2,t 3,t 4,t 5,S,T,U,V,W,X,Y,Z,a0,a1,a2,a3,a4,a5],defers:=[] }:Act)) _ _ _ _ _ _ _ _ _ _ _ _ _ _ _ _ _ _ _ _ _ _ _ _ _ _ _ _ _ _ _ _ _ _ _ _ _ _ _ _ _ _ _ _ _ _ _ _ _ _ _ _ _ _ _ _ _)
    (Ext:=fun L u w'=>ApX w3 [] L u w') (Good:=fun i L w' v=>if i=0 then v=.pointer (some ⟨g,0,none⟩) else if i=1 then v=.pointer (some ⟨g,0,none⟩) else if i=2 then v=.pointer (some ⟨g,32,none⟩) else if i=3 then v=.pointer (some ⟨w1.heap.size,1,none⟩) else if i=4 then v=.int .i64 s else if i=5 then v=.bool m else if i=6 then v=.bool m else True) ?hstab (by kernel_rfl) ?hop ?hdone _ _ ((fun (x0 x1 x2 x3 x4 x5 x6:Value)=>fun (i:Nat)=>if i=0 then x0 else if i=1 then x1 else if i=2 then x2 else if i=3 then x3 else if i=4 then x4 else if i=5 then x5 else if i=6 then x6 else undef) _ _ _ _ _ _ _) _ (by simp) ?ext ?start (by simp)
   case start=>intro i hi h;exact absurd h (by rw[Array.getD_eq_getD_getElem?,Array.getElem?_replicate];split<;>simp)
   case ext=>exact(ApX.start w3 [] _ _ (fun i=>by rw[Array.getD_eq_getD_getElem?,Array.getElem?_replicate];split<;>rfl)).drew
   case hstab=>
    intro j L w9 w' i v hM _ _ h;exact h
   case hop=>
    intro i o L t w' ho hLi hx hdep K hK;have hi:i<7:=(Array.getElem?_eq_some_iff.1 ho).1;obtain rfl|rfl|rfl|rfl|rfl|rfl|rfl:i=0∨i=1∨i=2∨i=3∨i=4∨i=5∨i=6:=by omega
    all_goals(simp at ho;subst ho)
    all_goals try(have hK':=hK w' _ rfl (hx.step _ _ (Below.refl _ _) (fun h=>absurd h (by decide))) (Below.refl _ _);clear hK;simp[Region.binds] at hdep;rw[if_pos (by rfl)];go_simp;simpa[upd,hdep] using hK';done)
    ·have d3:t 3=.pointer (some ⟨w1.heap.size,1,none⟩):=by simpa using(hdep ⟨3,.data⟩ (by simp) rfl).2
     clear hdep;have cc:w'.cell? ⟨w1.heap.size,1,none⟩=some (.int .i64 s):=by rw[hx.below.cell (p:=⟨w1.heap.size,1,none⟩) HLT1.out];exact HCS.out
     have hK':=hK w' (.int .i64 s) (by simp) (hx.step 4 _ (Below.refl _ _) (fun h=>absurd h (by decide))) (Below.refl _ _);clear hK;rw[if_pos (by rfl)];go_simp;simpa[upd,d3] using hK'
    ·have d2:t 2=.pointer (some ⟨g,32,none⟩):=by simpa using(hdep ⟨2,.data⟩ (by simp) rfl).2
     have d4:t 4=.int .i64 s:=by simpa using(hdep ⟨4,.data⟩ (by simp) rfl).2
     clear hdep;have A:=HAS.out w' hx.below;have hK':∀ ww,Below w'.heap.size w' ww→K _ ww:=fun ww hb=>hK ww (.bool m) (by simp) (hx.step 5 _ hb (fun h=>absurd h (by decide))) hb
     clear hK;rw[if_pos (by rfl)];go_simp;try simp only[d2,d4]
     refine A.mono ?_;rintro e w9 ⟨rfl,hb9⟩;have hK2:=hK' w9 hb9;clear hK' A hb9;go_simp;simpa[upd,d2,d4] using hK2
   case hdone=>
    intro L t w4 hx hg;have e6:t 6=.bool m:=by simpa using hg 6 (by decide)
    have HB4:=hdI <| HB3.out.trans (hx.below.mono HB3.out.size)
    have c1':w4.cell? ⟨w1.heap.size,1,none⟩=some (.int .i64 s):=by rw[hx.below.cell (p:=⟨w1.heap.size,1,none⟩) HLT1.out];exact HCS.out
    have o1':w4.cell? ⟨w.heap.size,1,none⟩=some (.slice ta tn tc):=by rw[hx.below.cell (p:=⟨w.heap.size,1,none⟩) HLT.out];exact HO1.out
    have HKw4:=hdI <| HKw3.out.below hx.below
    clear hg hx HAS HCS HO1 HLT HLT1 HKw3;have c1:=c1';have o1:=o1';clear c1' o1';simp only[e6];clear e6;cases m with
    |true=>
     have HF:Hid (tapC D U ks tk now=6):=by show _=_;rw[HC4.out,if_pos HM.out]
     clear HC4 HM c1 o1;go_wp2
     go_ret2
     exact⟨_,_,rfl,HB4.out,.inr ⟨by rw[HF.out];decide,by rw[HF.out];rfl⟩⟩
    |false=>
     have HC5:=HC4.out;rw[if_neg (by rw[HM.out];decide)] at HC5;have HTV:=hid_ofS HC5;clear HC4 HC5 HM;have h72:=HT72.out.symm.trans HL.out.1;subst h72;obtain⟨bt,ot,rfl,-,-⟩:=(HA.out _ HB4.out).1.get (by rw[HT72.out];decide);have HPT:Hid (∀ wz,Below w.heap.size w wz→PtA wz bt ot tk):=fun wz h=>by
      obtain⟨b',o',e',hl',hc'⟩:=(HA.out _ h).1.get (by rw[HT72.out];decide);cases e';exact⟨hl',hc'⟩
     have HT8:Hid ((8:Int)≤tc∧(72:Int)≤tc∧¬ (tc=8)):=⟨by omega,by omega,by omega⟩
     have HVS:Hid (∀ wz,Below w.heap.size w wz→Calls Tryz.prog 92 #[.slice (some ⟨bp,op,none⟩) 32 cp,.slice (some ⟨bt,ot,none⟩) 8 tc,.slice (some ⟨bt,ot+8,none⟩) 64 (tc-8:Nat)] wz fun e w'=>e=.returned (.bool (vsR ks (tk.take 8) (tk.drop 8)))∧Below wz.heap.size wz w'):=fun wz h=>
      vsI_any bp op cp bt ot tc bt (ot+8) (tc-8) 32 8 64 ks (tk.take 8) (tk.drop 8) wz HL.out.2.1 (by rw[List.length_take,HT72.out];rfl) (by rw[List.length_drop,HT72.out]) (HA.out wz h).2.1 ((HPT.out wz h).take 8) ((HPT.out wz h).drop 8) HL.out.2.2.1 (fun z hz=>HL.out.2.2.2 z (List.mem_of_mem_take hz)) (fun z hz=>HL.out.2.2.2 z (List.mem_of_mem_drop hz)) (by omega) (by decide) (by decide) (by decide) (HA.out wz h).2.2 (Nat.lt_of_lt_of_le HV1.out h.size)
     have HCS:=hdI <| c1
     have HLT1:=hdI <| block_lt_of_cell c1
     have HC1:=hdI <| o1
     have HLT:=hdI <| block_lt_of_cell o1
     generalize vsR ks (tk.take 8) (tk.drop 8)=V at *;clear HPT HT72 HA HL c1 o1 mt hct;go_wp2_with fail;refine wp_region_any (by kernel_rfl) ?_;refine wpAny_slotsU (fun _ a b=>Below a.heap.size a b) (frame:=(fun (a b c d e f g h i j k l m n o p q r s u v w x y z A B C D E F G H I J K L M N O P Q R S T U V W X Y Z a0 a1 a2:Value)=>fun (t:Nat→Value)=>({ tmps:=List.toArray [a,b,c,d,e,f,g,h,i,j,k,l,m,n,o,p,q,r,s,u,v,w,x,y,z,A,B,C,D,E,F,G,H,I,J,K,L,M,N,O,P,Q,R,S,T,U,V,W,X,Y,Z,t 9,t 0,t 1,t 2,t 3,t 4,t 5,t 6,t 7,t 8,a0,a1,a2],defers:=[] }:Act)) _ _ _ _ _ _ _ _ _ _ _ _ _ _ _ _ _ _ _ _ _ _ _ _ _ _ _ _ _ _ _ _ _ _ _ _ _ _ _ _ _ _ _ _ _ _ _ _ _ _ _ _ _ _)
      (Ext:=fun L u w'=>ApX w4 [] L u w') (Good:=fun i L w' v=>if i=0 then v=.slice (some ⟨bp,op,none⟩) 32 cp else if i=1 then v=.pointer (some ⟨w.heap.size,1,none⟩) else if i=2 then v=.slice (some ⟨bt,ot,none⟩) 72 tc else if i=3 then v=.slice (some ⟨bt,ot,none⟩) 8 tc else if i=4 then v=.pointer (some ⟨w.heap.size,1,none⟩) else if i=5 then v=.slice (some ⟨bt,ot,none⟩) 72 tc else if i=6 then v=.slice (some ⟨bt,ot+8,none⟩) 64 (tc-8:Nat) else if i=7 then v=.bool V else if i=8 then v=.bool (!V) else if i=9 then v=.bool (!V) else True) ?hstab (by kernel_rfl) ?hop ?hdone _ _ ((fun (x0 x1 x2 x3 x4 x5 x6 x7 x8 x9:Value)=>fun (i:Nat)=>if i=0 then x0 else if i=1 then x1 else if i=2 then x2 else if i=3 then x3 else if i=4 then x4 else if i=5 then x5 else if i=6 then x6 else if i=7 then x7 else if i=8 then x8 else if i=9 then x9 else undef) _ _ _ _ _ _ _ _ _ _) _ (by simp) ?ext ?start (by simp)
     case start=>intro i hi h;exact absurd h (by rw[Array.getD_eq_getD_getElem?,Array.getElem?_replicate];split<;>simp)
     case ext=>exact(ApX.start w4 [] _ _ (fun i=>by rw[Array.getD_eq_getD_getElem?,Array.getElem?_replicate];split<;>rfl)).drew
     case hstab=>
      intro j L w9 w' i v hM _ _ h;exact h
     case hop=>
      intro i o L t w' ho hLi hx hdep K hK;have hi:i<10:=(Array.getElem?_eq_some_iff.1 ho).1;obtain rfl|rfl|rfl|rfl|rfl|rfl|rfl|rfl|rfl|rfl:i=0∨i=1∨i=2∨i=3∨i=4∨i=5∨i=6∨i=7∨i=8∨i=9:=by omega
      all_goals(simp at ho;subst ho)
      all_goals try(have hK':=hK w' _ rfl (hx.step _ _ (Below.refl _ _) (fun h=>absurd h (by decide))) (Below.refl _ _);clear hK;simp[Region.binds] at hdep;rw[if_pos (by rfl)];go_simp;simpa[upd,hdep] using hK';done)
      ·have d1:t 1=.pointer (some ⟨w.heap.size,1,none⟩):=by simpa using(hdep ⟨1,.data⟩ (by simp) rfl).2
       clear hdep;have cc:w'.cell? ⟨w.heap.size,1,none⟩=some (.slice (some ⟨bt,ot,none⟩) 72 tc):=by rw[hx.below.cell (p:=⟨w.heap.size,1,none⟩) HLT.out];exact HC1.out
       have hK':=hK w' (.slice (some ⟨bt,ot,none⟩) 72 tc) (by simp) (hx.step 2 _ (Below.refl _ _) (fun h=>absurd h (by decide))) (Below.refl _ _);clear hK;rw[if_pos (by rfl)];go_simp;simpa[upd,d1] using hK'
      ·have d2:t 2=.slice (some ⟨bt,ot,none⟩) 72 tc:=by simpa using(hdep ⟨2,.data⟩ (by simp) rfl).2
       clear hdep;have h8:(8:Int)≤tc:=HT8.out.1;have hK':=hK w' (.slice (some ⟨bt,ot,none⟩) 8 tc) (by simp) (hx.step 3 _ (Below.refl _ _) (fun h=>absurd h (by decide))) (Below.refl _ _);clear hK;rw[if_pos (by rfl)];go_simp;simpa[upd,d2] using hK'
      ·have d4:t 4=.pointer (some ⟨w.heap.size,1,none⟩):=by simpa using(hdep ⟨4,.data⟩ (by simp) rfl).2
       clear hdep;have cc:w'.cell? ⟨w.heap.size,1,none⟩=some (.slice (some ⟨bt,ot,none⟩) 72 tc):=by rw[hx.below.cell (p:=⟨w.heap.size,1,none⟩) HLT.out];exact HC1.out
       have hK':=hK w' (.slice (some ⟨bt,ot,none⟩) 72 tc) (by simp) (hx.step 5 _ (Below.refl _ _) (fun h=>absurd h (by decide))) (Below.refl _ _);clear hK;rw[if_pos (by rfl)];go_simp;simpa[upd,d4] using hK'
      ·have d5:t 5=.slice (some ⟨bt,ot,none⟩) 72 tc:=by simpa using(hdep ⟨5,.data⟩ (by simp) rfl).2
       clear hdep;have h8:(8:Int)≤tc:=HT8.out.1;have h72:(72:Int)≤tc:=HT8.out.2.1;have hne:¬ (tc=8):=HT8.out.2.2;have hK':=hK w' (.slice (some ⟨bt,ot+8,none⟩) 64 (tc-8:Nat)) (by simp) (hx.step 6 _ (Below.refl _ _) (fun h=>absurd h (by decide))) (Below.refl _ _);clear hK;rw[if_pos (by rfl)];go_simp;simpa[upd,d5] using hK'
      ·have d0:t 0=.slice (some ⟨bp,op,none⟩) 32 cp:=by simpa using(hdep ⟨0,.data⟩ (by simp) rfl).2
       have d3:t 3=.slice (some ⟨bt,ot,none⟩) 8 tc:=by simpa using(hdep ⟨3,.data⟩ (by simp) rfl).2
       have d6:t 6=.slice (some ⟨bt,ot+8,none⟩) 64 (tc-8:Nat):=by simpa using(hdep ⟨6,.data⟩ (by simp) rfl).2
       clear hdep;have A:=HVS.out w' (HB4.out.trans (hx.below.mono HB4.out.size));have hK':∀ ww,Below w'.heap.size w' ww→K _ ww:=fun ww hb=>hK ww (.bool V) (by simp) (hx.step 7 _ hb (fun h=>absurd h (by decide))) hb
       clear hK;rw[if_pos (by rfl)];go_simp;try simp only[d0,d3,d6]
       refine A.mono ?_;rintro e w9 ⟨rfl,hb9⟩;have hK2:=hK' w9 hb9;clear hK' A hb9;go_simp;simpa[upd,d0,d3,d6] using hK2
     case hdone=>
      intro L t w5 hx hg;have e9:t 9=.bool (!V):=by simpa using hg 9 (by decide)
      have HB5:Hid (Below w.heap.size w w5):=HB4.out.trans (hx.below.mono HB4.out.size);have cs5:w5.cell? ⟨w1.heap.size,1,none⟩=some (.int .i64 s):=by rw[hx.below.cell (p:=⟨w1.heap.size,1,none⟩) HLT1.out];exact HCS.out
      clear hg hx;simp only[e9];clear e9;cases V with
      |true=>
       have HF:Hid (tapC D U ks tk now=1):=HTV.out;clear HTV;go_wp2
       go_ret2
       exact⟨_,_,rfl,HB5.out,.inl ⟨HF.out,by rw[HSV.out];rfl,rfl⟩⟩
      |false=>
       have HF:Hid (tapC D U ks tk now=7):=HTV.out;go_wp2
       go_ret2
       exact⟨_,_,rfl,HB5.out,.inr ⟨by rw[HF.out];decide,by rw[HF.out];rfl⟩⟩
end Go.Proofs.YtncomnkdlpoelaaGreatDoor
namespace Go.Proofs.YtncomnkdlpoelaaGreatDoor
open Go.ChangeShapes Go.WideShapes Go.ChangeAt Go.RowKit
set_option linter.unusedVariables false
variable {w w':World} {g:Nat} {d u:List Int} {k:Int} {v:Value} {D U:Nat→Prop} {T:List Int} {n H B:Nat}
set_option maxRecDepth 100000 in
set_option maxHeartbeats 1000000 in
theorem denyAdd_any (s:Nat) (hs:s<256) (hnot:¬ D s) (hfull:¬ popS d 32=16) (hb:Bk w g d u k v) (hd:SetB d D) (hu:SetB u U) (hv:TapV B w v T n) (hH:H≤g) (hgB:NeG g v) :
  Calls Tryz.prog 53 #[.pointer (some ⟨g,0,none⟩),.int .i64 s,.int .u32 1] w (ApP H B g w true (fun x=>D x∨x=s) U k T n):=by
 have HQ:Hid (¬ (s<256∧D s)):=fun h=>hnot h.2
 have HP:=hdI <| decide_eq_false hfull
 have HSO:=hdI <| ser_yes hs
 have HB:=hdI <| hb
 have HSD:Hid (SetB d D):=hd;have HF:∀ q,Hid (ApP H B g w true (fun x=>D x∨x=s) U k T n (.returned (.bool true)) ((w.setCell ⟨g,0+s/8,none⟩ (.int .u8 ((addB d s).getD (s/8) 0))).drewN q)):=fun q=>by
  have hw:Wr g w ((w.setCell ⟨g,0+s/8,none⟩ (.int .u8 ((addB d s).getD (s/8) 0))).drewN q):=((Wr.refl _ _).setCell _ _).drewN _;exact⟨rfl,hw.below hH,fun _=>⟨_,_,_,(hb.addD s hs).drew q,hd.add s hs,hu,hv.wr hw hgB,hgB⟩⟩
 clear hb hd hu hv hnot hfull;go_enter Tryz.func53,Tryz.ntmps53;go_wp2_with fail;refine(isSerial_any _ _).mono ?_;rintro e w1 ⟨rfl,rfl⟩;rw[HSO.out];go_wp2_with fail;refine(hasNo_any s HB.out.batd HSD.out HQ.out).mono ?_;rintro e w2 ⟨rfl,rfl⟩;go_wp2_with fail;refine(full_any HB.out).mono ?_;rintro e w3 ⟨rfl,rfl⟩;rw[HP.out];go_wp2_with fail;refine(addS_any g 0 s d _ hs HB.out.batd).mono ?_;rintro e w4 ⟨rfl,q,rfl⟩;have H2:=HF q;clear HF HB HSD HQ HP HSO;generalize (w3.setCell ⟨g,0+s/8,none⟩ (.int .u8 ((addB d s).getD (s/8) 0))).drewN q=w4 at *;go_wp2
 go_ret
 exact H2.out
set_option maxRecDepth 100000 in
set_option maxHeartbeats 1000000 in
theorem denyRem_any (s:Nat) (hs:s<256) (hin:D s) (hb:Bk w g d u k v) (hd:SetB d D) (hu:SetB u U) (hv:TapV B w v T n) (hH:H≤g) (hgB:NeG g v) :
  Calls Tryz.prog 53 #[.pointer (some ⟨g,0,none⟩),.int .i64 s,.int .u32 0] w (ApP H B g w true (fun x=>D x∧x≠s) U k T n):=by
 have HQ:Hid (s<256∧D s):=⟨hs,hin⟩
 have HB:=hdI <| hb
 have HSD:Hid (SetB d D):=hd;have HF:∀ q,Hid (ApP H B g w true (fun x=>D x∧x≠s) U k T n (.returned (.bool true)) ((w.setCell ⟨g,0+s/8,none⟩ (.int .u8 ((remB d s).getD (s/8) 0))).drewN q)):=fun q=>by
  have hw:Wr g w ((w.setCell ⟨g,0+s/8,none⟩ (.int .u8 ((remB d s).getD (s/8) 0))).drewN q):=((Wr.refl _ _).setCell _ _).drewN _;exact⟨rfl,hw.below hH,fun _=>⟨_,_,_,(hb.remD s hs).drew q,hd.rem s hs,hu,hv.wr hw hgB,hgB⟩⟩
 clear hb hd hu hv hin;go_enter Tryz.func53,Tryz.ntmps53;go_wp2_with fail;refine(hasYes_any s HB.out.batd HSD.out HQ.out).mono ?_;rintro e w2 ⟨rfl,rfl⟩;go_wp2_with fail;refine(remS_any g 0 s d _ hs HB.out.batd).mono ?_;rintro e w4 ⟨rfl,q,rfl⟩;have H2:=HF q;clear HF HB HSD HQ;generalize (w2.setCell ⟨g,0+s/8,none⟩ (.int .u8 ((remB d s).getD (s/8) 0))).drewN q=w4 at *;go_wp2
 go_ret
 exact H2.out
set_option maxRecDepth 100000 in
set_option maxHeartbeats 1000000 in
theorem denyNo_any (s b:Nat) (hno1:¬ (b=1∧s<256∧¬ D s∧¬ popS d 32=16)) (hno0:¬ (b=0∧s<256∧D s)) (hbb:b<4294967296) (hb:Bk w g d u k v) (hd:SetB d D) :
  Calls Tryz.prog 53 #[.pointer (some ⟨g,0,none⟩),.int .i64 s,.int .u32 b] w fun e w'=>e=.returned (.bool false)∧w'=w:=by
 have HB:=hdI <| hb
 have HSD:=hdI <| hd
 clear hb hd;by_cases h1:b=1
 ·subst h1;by_cases hs:s<256
  ·have HSO:=hdI <| ser_yes hs
   by_cases hin:D s
   ·have HQ:Hid (s<256∧D s):=⟨hs,hin⟩
    clear hno1 hno0 hin;go_enter Tryz.func53,Tryz.ntmps53;go_wp2_with fail;refine(isSerial_any _ _).mono ?_;rintro e w1 ⟨rfl,rfl⟩;rw[HSO.out];go_wp2_with fail;refine(hasYes_any s HB.out.batd HSD.out HQ.out).mono ?_;rintro e w2 ⟨rfl,rfl⟩;clear HB HSD HQ HSO;go_wp2
    go_ret
    exact⟨rfl,rfl⟩
   ·have HP:=hdI <| decide_eq_true (Classical.byContradiction fun h=>hno1 ⟨rfl,hs,hin,h⟩)
    have HQ:Hid (¬ (s<256∧D s)):=fun h=>hin h.2
    clear hno1 hno0 hin;go_enter Tryz.func53,Tryz.ntmps53;go_wp2_with fail;refine(isSerial_any _ _).mono ?_;rintro e w1 ⟨rfl,rfl⟩;rw[HSO.out];go_wp2_with fail;refine(hasNo_any s HB.out.batd HSD.out HQ.out).mono ?_;rintro e w2 ⟨rfl,rfl⟩;go_wp2_with fail;refine(full_any HB.out).mono ?_;rintro e w3 ⟨rfl,rfl⟩;rw[HP.out];clear HB HSD HQ HSO HP;go_wp2
    go_ret
    exact⟨rfl,rfl⟩
  ·have HSO:=hdI <| ser_no hs
   clear hno1 hno0 hs;go_enter Tryz.func53,Tryz.ntmps53;go_wp2_with fail;refine(isSerial_any _ _).mono ?_;rintro e w1 ⟨rfl,rfl⟩;rw[HSO.out];clear HB HSD HSO;go_wp2
   go_ret
   exact⟨rfl,rfl⟩
 ·by_cases h0:b=0
  ·subst h0;have HQ:Hid (¬ (s<256∧D s)):=fun h=>hno0 ⟨rfl,h⟩
   clear hno1 hno0 h1;go_enter Tryz.func53,Tryz.ntmps53;go_wp2_with fail;refine(hasNo_any s HB.out.batd HSD.out HQ.out).mono ?_;rintro e w2 ⟨rfl,rfl⟩;clear HB HSD HQ;go_wp2
   go_ret
   exact⟨rfl,rfl⟩
  ·have h1':¬ ((b:Int)=1):=by omega
   have h0':¬ ((b:Int)=0):=by omega
   clear hno1 hno0 h1 HB HSD;go_enter Tryz.func53,Tryz.ntmps53;go_wp2
   go_ret
   exact⟨rfl,rfl⟩
end Go.Proofs.YtncomnkdlpoelaaGreatDoor
namespace Go.Proofs.YtncomnkdlpoelaaGreatDoor
open Go.ChangeShapes Go.WideShapes Go.ChangeAt Go.RowKit
set_option linter.unusedVariables false
variable {w w':World} {g:Nat} {d u:List Int} {k:Int} {v:Value} {D U:Nat→Prop} {T:List Int} {n H B:Nat}
set_option maxRecDepth 100000 in
set_option maxHeartbeats 1000000 in
theorem tapYes_any (s:Nat) (nw:Int) (hs:s<256) (hnu:¬ U s) (hnd:¬ D s) (hb:Bk w g d u k v) (hd:SetB d D) (hu:SetB u U) (hv:TapV B w v T n) (hn:n≤1048576) (hH:H≤g) (hHB:H≤B) (hgB:NeG g v) (hBw:B≤w.heap.size) :
  Calls Tryz.prog 52 #[.pointer (some ⟨g,0,none⟩),.int .i64 s,.int .i64 nw] w (ApP H B g w true D (fun x=>U x∨x=s) k (T++[(s:Int),nw]) (n+1)):=by
 have HSO:=hdI <| ser_yes hs
 have HB:=hdI <| hb
 have HSD:=hdI <| hd
 have HSU:=hdI <| hu
 have HNU:Hid (¬ (s<256∧U s)):=fun h=>hnu h.2
 have HND:Hid (¬ (s<256∧D s)):=fun h=>hnd h.2
 have CA:=admit_any s nw hs hb hd hu hv hn hH hHB hgB hBw;clear hb hd hu hv hnu hnd hBw;go_enter Tryz.func52,Tryz.ntmps52;go_wp2_with fail;refine(isSerial_any _ _).mono ?_;rintro e w1 ⟨rfl,rfl⟩;rw[HSO.out];go_wp2_with fail;refine(hasNo_any s HB.out.batu HSU.out HNU.out).mono ?_;rintro e w2 ⟨rfl,rfl⟩;go_wp2_with fail;refine(hasNo_any s HB.out.batd HSD.out HND.out).mono ?_;rintro e w3 ⟨rfl,rfl⟩;go_wp2_with fail;refine CA.mono ?_;rintro e w4 ⟨rfl,hb4,u',v',r1,r2,r3,r4⟩;have HF:Hid (ApP H B g w3 true D (fun x=>U x∨x=s) k (T++[(s:Int),nw]) (n+1) (.returned (.bool true)) w4):=⟨rfl,hb4,fun _=>⟨_,_,_,r1,HSD.out,r2,r3,r4⟩⟩
 clear hb4 r1 r2 r3 CA HB HSD HSU HNU HND HSO;go_wp2
 go_ret
 exact HF.out
set_option maxRecDepth 100000 in
set_option maxHeartbeats 1000000 in
theorem tapNo_any (s:Nat) (nw:Int) (hno:¬ (s<256∧¬ U s∧¬ D s)) (hb:Bk w g d u k v) (hd:SetB d D) (hu:SetB u U) :
  Calls Tryz.prog 52 #[.pointer (some ⟨g,0,none⟩),.int .i64 s,.int .i64 nw] w fun e w'=>e=.returned (.bool false)∧w'=w:=by
 have HB:=hdI <| hb
 have HSD:=hdI <| hd
 have HSU:=hdI <| hu
 clear hb hd hu;by_cases hs:s<256
 ·have HSO:=hdI <| ser_yes hs
  by_cases hin:U s
  ·have HQ:Hid (s<256∧U s):=⟨hs,hin⟩
   clear hno hin;go_enter Tryz.func52,Tryz.ntmps52;go_wp2_with fail;refine(isSerial_any _ _).mono ?_;rintro e w1 ⟨rfl,rfl⟩;rw[HSO.out];go_wp2_with fail;refine(hasYes_any s HB.out.batu HSU.out HQ.out).mono ?_;rintro e w2 ⟨rfl,rfl⟩;clear HB HSD HSU HQ HSO;go_wp2
   go_ret
   exact⟨rfl,rfl⟩
  ·have HQ:Hid (¬ (s<256∧U s)):=fun h=>hin h.2
   have HY:Hid (s<256∧D s):=⟨hs,Classical.byContradiction fun h=>hno ⟨hs,hin,h⟩⟩
   clear hno hin;go_enter Tryz.func52,Tryz.ntmps52;go_wp2_with fail;refine(isSerial_any _ _).mono ?_;rintro e w1 ⟨rfl,rfl⟩;rw[HSO.out];go_wp2_with fail;refine(hasNo_any s HB.out.batu HSU.out HQ.out).mono ?_;rintro e w2 ⟨rfl,rfl⟩;go_wp2_with fail;refine(hasYes_any s HB.out.batd HSD.out HY.out).mono ?_;rintro e w3 ⟨rfl,rfl⟩;clear HB HSD HSU HQ HSO HY;go_wp2
   go_ret
   exact⟨rfl,rfl⟩
 ·have HSO:=hdI <| ser_no hs
  clear hno hs;go_enter Tryz.func52,Tryz.ntmps52;go_wp2_with fail;refine(isSerial_any _ _).mono ?_;rintro e w1 ⟨rfl,rfl⟩;rw[HSO.out];clear HB HSD HSU HSO;go_wp2
  go_ret
  exact⟨rfl,rfl⟩
end Go.Proofs.YtncomnkdlpoelaaGreatDoor
namespace Go.Proofs.YtncomnkdlpoelaaGreatDoor
open Go.ChangeShapes Go.WideShapes Go.ChangeAt Go.RowKit
set_option linter.unusedVariables false
set_option maxRecDepth 100000 in
set_option maxHeartbeats 2000000 in
theorem apply_any (seq kind:Int) (a b:Nat) (ha:a<4294967296) (hbb:b<4294967296) {w:World} {g H B n:Nat} {d u D U:List Int} {k:Int} {v:Value} {T:List Int} (hb:Bk w g d u k v) (hd:SetB d (fun x=>(x:Int)∈D)) (hu:SetB u (fun x=>(x:Int)∈U)) (hv:TapV B w v T n)
  (hSD:SerP D) (h0:0≤k) (h1:k≤1048576) (hn:n≤1048576) (hH:H≤g) (hHB:H≤B) (hgB:NeG g v) (hBw:B≤w.heap.size) :
  Calls Tryz.prog 31 #[.pointer (some ⟨g,0,none⟩),.agg #[.int .u32 seq,.int .i64 kind,.int .u32 a,.int .u32 b]] w (apPost H B g w (apR D U k T n kind a b)):=by
 have hgl:=hb.lt;have bw:Below w.heap.size w (w.alloc (.cells #[.int .u32 seq,.int .i64 kind,.int .u32 a,.int .u32 b] 38)):=(Below.refl _ _).alloc (Nat.le_refl _) _;have HB:Hid (Bk (w.alloc (.cells #[.int .u32 seq,.int .i64 kind,.int .u32 a,.int .u32 b] 38)) g d u k v):=hb.below bw hgl;have HV:Hid (TapV B (w.alloc (.cells #[.int .u32 seq,.int .i64 kind,.int .u32 a,.int .u32 b] 38)) v T n):=hv.alloc _;have HW:Hid (Below H w (w.alloc (.cells #[.int .u32 seq,.int .i64 kind,.int .u32 a,.int .u32 b] 38))):=bw.mono (by omega);have HZ:Hid (B≤(w.alloc (.cells #[.int .u32 seq,.int .i64 kind,.int .u32 a,.int .u32 b] 38)).heap.size):=by
  show _≤_
  simp;omega
 have HSD:Hid (SetB d (fun x=>(x:Int)∈D)):=hd;have HSU:Hid (SetB u (fun x=>(x:Int)∈U)):=hu;have HPL:Hid (popS d 32=D.length):=pop_len hd hSD;have HSER:Hid (SerP D):=hSD;by_cases k1:kind=1
 ·subst k1;by_cases hc:a<256∧¬ (a:Int)∈U∧¬ (a:Int)∈D
  ·have HR:Hid (apR D U k T n 1 a b=⟨true,D,withS U a,k,T++[(a:Int),(b:Int)],n+1⟩):=by show _=_;unfold apR;rw[if_pos rfl,if_pos hc]
   go_enter Tryz.func31,Tryz.ntmps31;go_wp2_with fail;refine(tapYes_any (H:=H) (B:=B) (T:=T) (n:=n) a b hc.1 hc.2.1 hc.2.2 HB.out HSD.out HSU.out HV.out hn hH hHB hgB HZ.out).mono ?_;intro e w2 h;have HF:Hid (apPost H B g w (apR D U k T n 1 a b) e w2):=by
    show apPost _ _ _ _ _ _ _
    rw[HR.out];exact ApP.to h HW.out (fun v _=>Iff.rfl) (fun v hv=>withS_mem hv)
   obtain⟨rfl,h⟩:=h;go_wp2
   go_ret
   exact HF.out
  ·have HR:Hid (apR D U k T n 1 a b=apNo):=by show _=_;unfold apR;rw[if_pos rfl,if_neg hc]
   go_enter Tryz.func31,Tryz.ntmps31;go_wp2_with fail;refine(tapNo_any a b hc HB.out HSD.out HSU.out).mono ?_;intro e w2 h;have HF:Hid (apPost H B g w (apR D U k T n 1 a b) e w2):=by
    show apPost _ _ _ _ _ _ _
    rw[HR.out];exact⟨h.1,(show w2=_ from h.2) ▸ HW.out,fun h'=>by cases h'⟩
   obtain⟨rfl,h⟩:=h;clear h HB HV HW HZ HSD HSU HPL HSER HR;go_wp2
   go_ret
   exact HF.out
 by_cases k2:kind=2
 ·subst k2;by_cases hc:b=1∧a<256∧¬ (a:Int)∈D∧¬ D.length=16
  ·have HR:Hid (apR D U k T n 2 a b=⟨true,withS D a,U,k,T,n⟩):=by show _=_;unfold apR;rw[if_neg (by decide),if_pos rfl,if_pos hc]
   have HC:Hid (a<256∧¬ (a:Int)∈D∧¬ popS d 32=16):=⟨hc.2.1,hc.2.2.1,by rw[HPL.out];exact hc.2.2.2⟩
   obtain⟨rfl,_⟩:=hc;go_enter Tryz.func31,Tryz.ntmps31;go_wp2_with fail;refine(denyAdd_any (H:=H) (B:=B) (T:=T) (n:=n) a HC.out.1 HC.out.2.1 HC.out.2.2 HB.out HSD.out HSU.out HV.out hH hgB).mono ?_;intro e w2 h;have HF:Hid (apPost H B g w (apR D U k T n 2 a 1) e w2):=by
    show apPost _ _ _ _ _ _ _
    rw[HR.out];exact ApP.to h HW.out (fun v hv=>withS_mem hv) (fun v _=>Iff.rfl)
   obtain⟨rfl,h⟩:=h;go_wp2
   go_ret
   exact HF.out
  by_cases hc0:b=0∧a<256∧(a:Int)∈D
  ·have HR:Hid (apR D U k T n 2 a b=⟨true,lessS D a,U,k,T,n⟩):=by show _=_;unfold apR;rw[if_neg (by decide),if_pos rfl,if_neg hc,if_pos hc0]
   have HC:Hid (a<256∧(a:Int)∈D):=hc0.2;obtain⟨rfl,_⟩:=hc0;go_enter Tryz.func31,Tryz.ntmps31;go_wp2_with fail;refine(denyRem_any (H:=H) (B:=B) (T:=T) (n:=n) a HC.out.1 HC.out.2 HB.out HSD.out HSU.out HV.out hH hgB).mono ?_;intro e w2 h;have HF:Hid (apPost H B g w (apR D U k T n 2 a 0) e w2):=by
    show apPost _ _ _ _ _ _ _
    rw[HR.out];exact ApP.to h HW.out (fun v hv=>lessS_mem) (fun v _=>Iff.rfl)
   obtain⟨rfl,h⟩:=h;go_wp2
   go_ret
   exact HF.out
  ·have HR:Hid (apR D U k T n 2 a b=apNo):=by show _=_;unfold apR;rw[if_neg (by decide),if_pos rfl,if_neg hc,if_neg hc0]
   rw[←HPL.out] at hc;have HC:Hid (¬ (b=1∧a<256∧¬ (a:Int)∈D∧¬ popS d 32=16)):=hc;have HC0:Hid (¬ (b=0∧a<256∧(a:Int)∈D)):=hc0;go_enter Tryz.func31,Tryz.ntmps31;go_wp2_with fail;refine(denyNo_any a b HC.out HC0.out hbb HB.out HSD.out).mono ?_;intro e w2 h;have HF:Hid (apPost H B g w (apR D U k T n 2 a b) e w2):=by
    show apPost _ _ _ _ _ _ _
    rw[HR.out];exact⟨h.1,(show w2=_ from h.2) ▸ HW.out,fun h'=>by cases h'⟩
   obtain⟨rfl,h⟩:=h;clear h HB HV HW HZ HSD HSU HPL HSER HR;go_wp2
   go_ret
   exact HF.out
 by_cases k3:kind=3
 ·subst k3;clear k1 k2;by_cases hb0:b=0
  ·subst hb0;by_cases hc:(a:Int)≤k+n
   ·have HR:Hid (apR D U k T n 3 a 0=⟨true,D,U,max a k,T.drop (ackM k a*2),n-ackM k a⟩):=by show _=_;unfold apR;rw[if_neg (by decide),if_neg (by decide),if_pos rfl,if_pos ⟨rfl,hc⟩]
    have HD:Hid (decide ((a:Int)≤k+n)=true):=decide_eq_true hc;clear hc;go_enter Tryz.func31,Tryz.ntmps31;go_wp2_with fail;refine(applyAck_any (H:=H) (B:=B) (T:=T) (n:=n) a (by omega) (by omega) HB.out HSD.out HSU.out HV.out h0 h1 hn hH hgB).mono ?_;intro e w2 h;have HF:Hid (apPost H B g w (apR D U k T n 3 a 0) e w2):=by
     show apPost _ _ _ _ _ _ _
     rw[HR.out];exact ApP.to (by rw[HD.out] at h;exact h) HW.out (fun v _=>Iff.rfl) (fun v _=>Iff.rfl)
    rw[HD.out] at h;obtain⟨rfl,h⟩:=h;clear h HB HV HW HZ HSD HSU HPL HSER HR;go_wp2
    go_ret
    exact HF.out
   ·have HR:Hid (apR D U k T n 3 a 0=apNo):=by show _=_;unfold apR;rw[if_neg (by decide),if_neg (by decide),if_pos rfl,if_neg (fun h=>hc h.2)]
    have HD:Hid (decide ((a:Int)≤k+n)=false):=decide_eq_false hc;clear hc;go_enter Tryz.func31,Tryz.ntmps31;go_wp2_with fail;refine(applyAck_any (H:=H) (B:=B) (T:=T) (n:=n) a (by omega) (by omega) HB.out HSD.out HSU.out HV.out h0 h1 hn hH hgB).mono ?_;intro e w2 h;have HF:Hid (apPost H B g w (apR D U k T n 3 a 0) e w2):=by
     show apPost _ _ _ _ _ _ _
     rw[HR.out];exact(by rw[HD.out] at h;exact⟨h.1,HW.out.trans h.2.1,fun h'=>by cases h'⟩)
    rw[HD.out] at h;obtain⟨rfl,h⟩:=h;clear h HB HV HW HZ HSD HSU HPL HSER HR;go_wp2
    go_ret
    exact HF.out
  ·have hb0':¬ ((b:Int)=0):=by omega
   have HF:Hid (apPost H B g w (apR D U k T n 3 a b) (.returned (.bool false)) (w.alloc (.cells #[.int .u32 seq,.int .i64 3,.int .u32 a,.int .u32 b] 38))):=by
    show apPost _ _ _ _ _ _ _
    have:apR D U k T n 3 a b=apNo:=by unfold apR;rw[if_neg (by decide),if_neg (by decide),if_pos rfl,if_neg (fun h=>hb0 h.1)]
    rw[this];exact⟨rfl,HW.out,fun h'=>by cases h'⟩
   clear HB HV HW HZ HSD HSU HPL HSER;go_enter Tryz.func31,Tryz.ntmps31;go_wp2
   go_ret
   exact HF.out
 ·have HF:Hid (apPost H B g w (apR D U k T n kind a b) (.returned (.bool false)) (w.alloc (.cells #[.int .u32 seq,.int .i64 kind,.int .u32 a,.int .u32 b] 38))):=by
   show apPost _ _ _ _ _ _ _
   have:apR D U k T n kind a b=apNo:=by unfold apR;rw[if_neg k1,if_neg k2,if_neg k3]
   rw[this];exact⟨rfl,HW.out,fun h'=>by cases h'⟩
  clear HB HV HW HZ HSD HSU HPL HSER;go_enter Tryz.func31,Tryz.ntmps31;go_wp2
  go_ret
  exact HF.out
set_option maxRecDepth 100000 in
set_option maxHeartbeats 4000000 in
theorem iap_any (aD aU aT:Option Addr) (nD cD nU cU nT cT:Nat) (D U:List Int) (k:Int) (T:List Int) (seq kind:Int) (a b:Nat) (w:World) (hD:D.length=nD) (hU:U.length=nU) (hT:T.length=nT*2) (mD:nD≤1048576) (mU:nU≤1048576) (mT:nT≤1048576)
  (haD:At .i64 w aD D) (haU:At .i64 w aU U) (haT:At .i64 w aT T) (hnil:aT=none→nT=0∧cT=0) (hk0:-9223372036854775808≤k) (hk1:k<9223372036854775808) (ha:a<4294967296) (hbb:b<4294967296) :
  Calls Tryz.prog 10 #[.agg #[.slice aD nD cD,.slice aU nU cU,.int .i64 k,.slice aT nT cT],.agg #[.int .u32 seq,.int .i64 kind,.int .u32 a,.int .u32 b]] w fun e w'=>∃ v,e=.returned v∧APV w.heap.size w' v (apF D U k T nT kind a b)∧Below w.heap.size w w':=by
 have HX0:Hid (IX w #[.int .u32 seq,.int .i64 kind,.int .u32 a,.int .u32 b] (((w.alloc (.cells #[.slice aD nD cD,.slice aU nU cU,.int .i64 k,.slice aT nT cT] 26)).alloc (.cells #[.int .u32 seq,.int .i64 kind,.int .u32 a,.int .u32 b] 38)).alloc (.cells #[.bool false,.slice none 0 0,.slice none 0 0,.int .i64 0,.slice none 0 0] 42))):=IX.start _ _ _;have HZ0:Hid ((((w.alloc (.cells #[.slice aD nD cD,.slice aU nU cU,.int .i64 k,.slice aT nT cT] 26)).alloc (.cells #[.int .u32 seq,.int .i64 kind,.int .u32 a,.int .u32 b] 38)).alloc (.cells #[.bool false,.slice none 0 0,.slice none 0 0,.int .i64 0,.slice none 0 0] 42)).heap.size=w.heap.size+3):=by show _=_;simp
 have HC:=openBook_any aD aU aT nD cD nU cU nT cT D U k T _ hD hU hT mD mU mT (haD.below HX0.out.below) (haU.below HX0.out.below) (haT.below HX0.out.below) hnil hk0 hk1;have HLU:=hdI <| hU
 have HRZ:Hid ((Tryz.prog.info? 42).map (·.size)=some 5):=by show _=_;kernel_rfl
 clear haD haU haT hnil hk0 hk1 hD hU hT;go_enter Tryz.func10,Tryz.ntmps10;go_wp2_with fail;generalize (((w.alloc (.cells #[.slice aD nD cD,.slice aU nU cU,.int .i64 k,.slice aT nT cT] 26)).alloc (.cells #[.int .u32 seq,.int .i64 kind,.int .u32 a,.int .u32 b] 38)).alloc (.cells #[.bool false,.slice none 0 0,.slice none 0 0,.int .i64 0,.slice none 0 0] 42))=w0 at *;refine HC.mono ?_;rintro e w1 ⟨bk,rfl,hs,ho,hb,hbk⟩;have HX1:=hdI <| HX0.out.call hb (by rw[HZ0.out];omega)
 have HB1:Hid (w.heap.size+3≤w1.heap.size):=by show _≤_;have:=hb.size;rw[HZ0.out] at this;exact this
 have HN:Hid ((w1.alloc (.cells Tryz.zeroCells61 61)).heap[w1.heap.size]?=some (.cells Tryz.zeroCells61 61 (0,0))):=heap_alloc_new w1 _;have HSZ:Hid ((Tryz.prog.info? 61).map (·.size)=some bk.size):=by show _=_;rw[hs];exact Tryz.sizeBook
 have HEQ:Hid ((Tryz.zeroCells61).size=bk.size):=by show _=_;rw[hs];exact zc_size
 have HOK:=hdI <| ho
 have b2:∀ cs,Below w1.heap.size w1 ((w1.alloc (.cells Tryz.zeroCells61 61)).setRow w1.heap.size cs):=fun cs=>((Below.refl _ _).alloc (Nat.le_refl _) _).trans ((Wr.setRow _ _ _).below (Nat.le_refl _))
 have HB2:=hdI <| b2 bk
 have HR2:Hid (((w1.alloc (.cells Tryz.zeroCells61 61)).setRow w1.heap.size bk).heap[w1.heap.size]?=some (.cells bk 61 (0,0))):=setRow_heap _ _ _ _ _ _ HN.out;have HBK:Hid (stB D U k T nT=true→∃ db ub v,bk=bkC db ub k v∧SetB db (fun v=>(v:Int)∈D)∧SetB ub (fun v=>(v:Int)∈U)∧TapO (w.heap.size+3) w1 v T nT):=by
  intro h;obtain⟨db,ub,v,h1,h2,h3,h4⟩:=hbk h;rw[HZ0.out] at h4;exact⟨db,ub,v,h1,h2,h3,h4⟩
 have HX2:=hdI <| HX1.out.call (b2 bk) HB1.out
 have HAF:Hid (apF D U k T nT kind a b=if stB D U k T nT=true then apR D U k T nT kind a b else apNo):=rfl;have HST:Hid (stB D U k T nT=true→StP D U k T nT):=stP_of;clear hs ho hb HC HX0 HZ0 hbk b2 HX1;generalize hq:stB D U k T nT=q at *;have HQ:=hdI <| hq
 clear hq
 go_upto_region 2 with (first
  |(refine wpList_store_row rfl 61 (.tmp 5) (.tmp 10) rfl w1.heap.size bk rfl rfl 61 _ HN.out HSZ.out HEQ.out HOK.out ?_)
  |fail)
 clear HN HSZ HEQ HOK;generalize (w1.alloc (.cells Tryz.zeroCells61 61)).setRow w1.heap.size bk=w2 at *;cases q with
 |false=>
  have HF2:Hid (apF D U k T nT kind a b=apNo):=by show _=_;rw[HAF.out];rfl
  go_upto_region 3 with fail
  have HRB:=hdI <| HX2.out.rb
  have HF:Hid (APV w.heap.size (w2.setRow (w.heap.size+2) #[.bool false,.slice none 0 0,.slice none 0 0,.int .i64 0,.slice none 0 0]) (.agg #[.bool false,.slice none 0 0,.slice none 0 0,.int .i64 0,.slice none 0 0]) (apF D U k T nT kind a b)∧Below w.heap.size w (w2.setRow (w.heap.size+2) #[.bool false,.slice none 0 0,.slice none 0 0,.int .i64 0,.slice none 0 0])):=
   ⟨by rw[HF2.out];exact APV.no _ _,HX2.out.below.trans ((Wr.setRow _ _ _).below (by omega))⟩
  go_wp2_with (first
   |(refine wpList_store_row rfl 42 (.tmp 4) (.tmp 19) rfl (w.heap.size+2) #[.bool false,.slice none 0 0,.slice none 0 0,.int .i64 0,.slice none 0 0] rfl rfl 42 _ HRB.out HRZ.out rfl (by simp[Value.oneCell']) ?_)
   |fail)
  exact bodyPost_ret (v:=.agg #[.bool false,.slice none 0 0,.slice none 0 0,.int .i64 0,.slice none 0 0]) (results_cell_row rfl _ _ (w.heap.size+2) 42 _ (0,0) _ rfl (setRow_heap _ _ _ _ _ _ HRB.out) Tryz.underlying42 rfl HRZ.out) rfl ⟨_,rfl,HF.out.1,HF.out.2⟩
 |true=>
  have HF2:Hid (apF D U k T nT kind a b=apR D U k T nT kind a b):=by show _=_;rw[HAF.out];rfl
  obtain⟨db,ub,v9,rfl,hsd,hsu,hto⟩:=HBK.out rfl;have hst:=HST.out rfl;have hbk:Bk w2 w1.heap.size db ub k v9:=⟨HR2.out,hsd.1,hsu.1,hsd.2.1,hsu.2.1⟩
  have hne:NeG w1.heap.size v9:=fun t ht e=>by
   rcases hto.2 with⟨h',_⟩|⟨g,c,cur,h',hb,hh,_⟩
   ·rw[h'] at ht;simp[Value.ownBlock] at ht
   ·rw[h'] at ht;simp[Value.ownBlock] at ht;have:=(Array.getElem?_eq_some_iff.1 hh).1;omega
  have hto2:TapO (w.heap.size+3) w2 v9 T nT:=by
   refine⟨hto.1,?_⟩;rcases hto.2 with h'|⟨g,c,cur,h1,h2,h3,h4⟩
   ·exact .inl h'
   ·exact .inr ⟨g,c,cur,h1,h2,by rw[HB2.out.block g (Array.getElem?_eq_some_iff.1 h3).1];exact h3,h4⟩
  have hkn:k+nT=(nU:Int):=by have:=hst.2.2.2.2.1;rw[HLU.out] at this;exact this
  have HC:=apply_any seq kind a b ha hbb (H:=w.heap.size+3) (B:=w.heap.size+3) hbk hsd hsu hto2.tapV hst.1 hst.2.2.2.1 (by omega) mT HB1.out (Nat.le_refl _) hne (by have:=HB2.out.size;have:=HB1.out;omega);have HSR:=apR_ser (k:=k) (T:=T) (n:=nT) (kind:=kind) (a:=a) (b:=b) hst.1 hst.2.2.1;have HNO:Hid ((apR D U k T nT kind a b).ok=false→apR D U k T nT kind a b=apNo):=apR_no;have HSER:=hdI <| HSR
  have HG:=hdI <| hbk.lt
  have f0:w2.cell? ⟨w.heap.size+1,0,none⟩=some (.int .u32 seq):=by rw[cell_of_row w2 _ 0 _ _ _ HX2.out.fb];rfl
  have f1:w2.cell? ⟨w.heap.size+1,1,none⟩=some (.int .i64 kind):=by rw[cell_of_row w2 _ 1 _ _ _ HX2.out.fb];rfl
  have f2:w2.cell? ⟨w.heap.size+1,2,none⟩=some (.int .u32 a):=by rw[cell_of_row w2 _ 2 _ _ _ HX2.out.fb];rfl
  have f3:w2.cell? ⟨w.heap.size+1,3,none⟩=some (.int .u32 b):=by rw[cell_of_row w2 _ 3 _ _ _ HX2.out.fb];rfl
  clear hsd hsu hto hst hbk hto2 hkn HSR HBK HST hne HR2 HB2 HAF;generalize apR D U k T nT kind a b=r at *;go_wp2_with fail;refine HC.mono ?_;rintro e w3 ⟨rfl,hb3,hp⟩;have HX3:=hdI <| HX2.out.call hb3 (Nat.le_refl _)
  have HRB:=hdI <| HX3.out.rb
  clear f0 f1 f2 f3 HC HX2;cases hr:r.ok with
  |false=>
   have HF3:Hid (apF D U k T nT kind a b=apNo):=by show _=_;rw[HF2.out,HNO.out hr]
   have HF:Hid (APV w.heap.size (w3.setRow (w.heap.size+2) #[.bool false,.slice none 0 0,.slice none 0 0,.int .i64 0,.slice none 0 0]) (.agg #[.bool false,.slice none 0 0,.slice none 0 0,.int .i64 0,.slice none 0 0]) (apF D U k T nT kind a b)∧Below w.heap.size w (w3.setRow (w.heap.size+2) #[.bool false,.slice none 0 0,.slice none 0 0,.int .i64 0,.slice none 0 0])):=
    ⟨by rw[HF3.out];exact APV.no _ _,HX3.out.below.trans ((Wr.setRow _ _ _).below (by omega))⟩
   clear hp hb3 HNO HSER hr
   go_upto_region 3 with fail
   go_wp2_with (first
    |(refine wpList_store_row rfl 42 (.tmp 4) (.tmp 19) rfl (w.heap.size+2) #[.bool false,.slice none 0 0,.slice none 0 0,.int .i64 0,.slice none 0 0] rfl rfl 42 _ HRB.out HRZ.out rfl (by simp[Value.oneCell']) ?_)
    |fail)
   exact bodyPost_ret (v:=.agg #[.bool false,.slice none 0 0,.slice none 0 0,.int .i64 0,.slice none 0 0]) (results_cell_row rfl _ _ (w.heap.size+2) 42 _ (0,0) _ rfl (setRow_heap _ _ _ _ _ _ HRB.out) Tryz.underlying42 rfl HRZ.out) rfl ⟨_,rfl,HF.out.1,HF.out.2⟩
  |true=>
   obtain⟨d',u',v',r1,r2,r3,r4,r5⟩:=hp hr;obtain⟨aT',cT',rfl⟩:=r4.slice;have HS:=state_any aT' r.n cT' (fun v=>decide ((v:Int)∈r.D)) (fun v=>decide ((v:Int)∈r.U)) r1 (r2.congr (fun v _=>by simp)) (r3.congr (fun v _=>by simp));rw[HSER.out.1.eq_upTo _ (fun v _=>by simp),HSER.out.2.eq_upTo _ (fun v _=>by simp)] at HS;have HTV:=hdI <| r4
   have HRK:=hdI <| hr
   clear r1 r2 r3 r4 r5 hp HSER HNO hb3 hr;go_wp2_with fail;refine HS.mono ?_;rintro e w4 ⟨aD',nD',cD',aU',nU',cU',rfl,g1,g2,g3,hb4⟩;have HRB4:Hid (w4.heap[w.heap.size+2]?=some (.cells #[.bool false,.slice none 0 0,.slice none 0 0,.int .i64 0,.slice none 0 0] 42 (0,0))):=by show _=_;rw[hb4.block _ (Array.getElem?_eq_some_iff.1 HRB.out).1];exact HRB.out
   have hw5:Wr (w.heap.size+2) w4 (w4.setRow (w.heap.size+2) #[.bool true,.slice aD' nD' cD',.slice aU' nU' cU',.int .i64 r.k,.slice aT' r.n cT']):=Wr.setRow _ _ _;have HF:Hid (APV w.heap.size (w4.setRow (w.heap.size+2) #[.bool true,.slice aD' nD' cD',.slice aU' nU' cU',.int .i64 r.k,.slice aT' r.n cT']) (.agg #[.bool true,.slice aD' nD' cD',.slice aU' nU' cU',.int .i64 r.k,.slice aT' r.n cT']) (apF D U k T nT kind a b)∧Below w.heap.size w (w4.setRow (w.heap.size+2) #[.bool true,.slice aD' nD' cD',.slice aU' nU' cU',.int .i64 r.k,.slice aT' r.n cT'])):=by
    have hlt:=(Array.getElem?_eq_some_iff.1 HRB.out).1;obtain⟨s1,s2,s3⟩:=g1.sat;obtain⟨t1,t2,t3⟩:=g2.sat;obtain⟨q1,q2,q3⟩:=HTV.out.sat;have q4:SAt w4 aT' r.T:=q1.below hb4;have q5:Lies (w.heap.size+3) w4 aT':=q3.mono (Nat.le_refl _) hb4.size;refine⟨⟨aD',nD',cD',aU',nU',cU',aT',r.n,cT',by rw[HF2.out,HRK.out],?_⟩,(HX3.out.below.trans (hb4.mono HX3.out.below.size)).trans (hw5.below (by omega))⟩;rw[HF2.out];have z:(w4.setRow (w.heap.size+2) #[.bool true,.slice aD' nD' cD',.slice aU' nU' cU',.int .i64 r.k,.slice aT' r.n cT']).heap.size=w4.heap.size:=hw5.size;refine⟨s1.keep (by rw[z];exact Nat.le_refl _) (fun ad e _=>hw5.block _ (by have:=(s3 ad e).1;omega)),t1.keep (by rw[z];exact Nat.le_refl _) (fun ad e _=>hw5.block _ (by have:=(t3 ad e).1;omega)),q4.keep (by rw[z];exact Nat.le_refl _) (fun ad e _=>hw5.block _ (by have:=(q5 ad e).1;omega)),s2,t2,q2,?_,?_,?_,?_,?_,?_⟩
    ·exact s3.mono (by omega) (by rw[z];exact Nat.le_refl _)
    ·exact t3.mono (by omega) (by rw[z];exact Nat.le_refl _)
    ·exact q5.mono (by omega) (by rw[z];exact Nat.le_refl _)
    ·exact fun x y hx hy e=>g3 x.block (by rw[hx];rfl) (by rw[hy,e];rfl)
    ·exact fun x y hx hy e=>by have:=(s3 x hx).1;have:=(q3 y hy).2;omega
    ·exact fun x y hx hy e=>by have:=(t3 x hx).1;have:=(q3 y hy).2;omega
   clear g1 g2 g3 hb4 hw5 HS HTV;go_wp2_with (first
    |(refine wpList_store_row rfl 42 (.tmp 4) (.tmp 21) rfl (w.heap.size+2) #[.bool true,.slice aD' nD' cD',.slice aU' nU' cU',.int .i64 r.k,.slice aT' r.n cT'] rfl rfl 42 _ HRB4.out HRZ.out rfl (by simp[Value.oneCell']) ?_)
    |fail)
   exact bodyPost_ret (v:=.agg #[.bool true,.slice aD' nD' cD',.slice aU' nU' cU',.int .i64 r.k,.slice aT' r.n cT']) (results_cell_row rfl _ _ (w.heap.size+2) 42 _ (0,0) _ rfl (setRow_heap _ _ _ _ _ _ HRB4.out) Tryz.underlying42 rfl HRZ.out) rfl ⟨_,rfl,HF.out.1,HF.out.2⟩
end Go.Proofs.YtncomnkdlpoelaaGreatDoor
