import Derived.Test.YtncomnkdlpoelaaGreatDoorMEso
import Derived.Test.YtncomnkdlpoelaaGreatDoorMU8i
import Derived.Deep.Cut
import Derived.BigRegion
namespace Go.Proofs.YtncomnkdlpoelaaGreatDoor
open Go.ChangeShapes Go.WideShapes Go.ChangeAt Go.RowKit
set_option linter.unusedVariables false
def zFr:Array Value:=#[.int .u32 0,.int .i64 0,.int .u32 0,.int .u32 0]
theorem wrapU (z:Int):∃ z':Nat,IntKind.u32.wrap z=z'∧z'<4294967296:=by
 rw[IntKind.wrap_u32];exact⟨(z%4294967296).toNat,by omega,by omega⟩
theorem IO.at_j {B:Nat} {w:World} {q m c:Nat} {xs:List Int} (h:IO B w (.slice (some ⟨q,0,none⟩) m c) xs) {j:Nat} (hj:j<m):∃ z:Int,w.cell? ⟨q,j,none⟩=some (.int .i64 z):=by
 have hl:=h.sat.2.1;subst hl;refine⟨xs.getD j 0,?_⟩;rw[World.ownsRow.cellAt h j (by omega)];simp[hj]
theorem Tryz.sizeFr:(Tryz.prog.info? 38).map (·.size)=some 4:=by kernel_rfl
theorem results_sf {fn:Func} {p q:Tmp} (h:fn.results=#[.cell p 26,.cell q 38]) (tmps:Array Value) (w:World) (g g':Nat) (c0 c1 c2 c3 b0 b1 b2 b3:Value)
  (hp:tmps.getD p undef=.pointer (some ⟨g,0,none⟩)) (hq:tmps.getD q undef=.pointer (some ⟨g',0,none⟩)) (hg:w.heap[g]?=some (.cells #[c0,c1,c2,c3] 26 (0,0))) (hg':w.heap[g']?=some (.cells #[b0,b1,b2,b3] 38 (0,0))) :
  (results fn tmps).run Tryz.prog w=.ok (.tuple #[.agg #[c0,c1,c2,c3],.agg #[b0,b1,b2,b3]]) w:=by
 have hp':tmps[p]?.getD undef=.pointer (some ⟨g,0,none⟩):=by simpa using hp
 have hq':tmps[q]?.getD undef=.pointer (some ⟨g',0,none⟩):=by simpa using hq
 have h1:=run_loadVar_row (P:=Tryz.prog) w g 26 26 #[c0,c1,c2,c3] (0,0) _ hg Tryz.underlying26 rfl Tryz.sizeSt;have h2:=run_loadVar_row (P:=Tryz.prog) w g' 38 38 #[b0,b1,b2,b3] (0,0) _ hg' Tryz.underlying38 rfl Tryz.sizeFr;simp[results,h,hp',hq',asAddr,h1,h2]
def DafP (w:World) (e:Ending) (w':World):Prop:=
 ∃ aD nD cD aU nU cU k aT nT cT kd,∃ fa fb:Nat,e=.returned (.tuple #[.agg #[.slice aD nD cD,.slice aU nU cU,.int .i64 k,.slice aT nT cT],.agg #[.int .u32 5,.int .i64 kd,.int .u32 fa,.int .u32 fb]])∧fa<4294967296∧fb<4294967296∧DY (w.heap.size+2) aD nD cD aU nU cU k aT nT cT w'∧Below w.heap.size w w'
set_option maxRecDepth 100000 in
set_option maxHeartbeats 16000000 in
theorem drawAF_any (x:Option Addr) (n cap:Nat) (zs:List Int) (w:World) (hl:zs.length=n) (hn:n≤1048576) (hz:Byte zs) (ha:At .u8 w x zs) :
  Calls Tryz.prog 9 #[.slice x n cap] w (DafP w):=by
 have b0:Below w.heap.size w ((w.alloc (.cells #[.slice none 0 0,.slice none 0 0,.int .i64 0,.slice none 0 0] 26)).alloc (.cells #[.int .u32 0,.int .i64 0,.int .u32 0,.int .u32 0] 38)):=((Below.refl _ _).alloc (Nat.le_refl _) _).alloc (by simp) _;have HN:=hdI (new_any x n cap zs _ hl hn hz (ha.below b0));have h1:=heap_alloc2_old w (.cells #[.slice none 0 0,.slice none 0 0,.int .i64 0,.slice none 0 0] 26) (.cells #[.int .u32 0,.int .i64 0,.int .u32 0,.int .u32 0] 38);have h3:=heap_alloc2_new w (.cells #[.slice none 0 0,.slice none 0 0,.int .i64 0,.slice none 0 0] 26) (.cells #[.int .u32 0,.int .i64 0,.int .u32 0,.int .u32 0] 38);have HT:=hdI (show zs.length=n∧n≤1048576∧Byte zs∧At .u8 w x zs from⟨hl,hn,hz,ha⟩);have HR:=hdI (And.intro b0 (And.intro h1 h3));clear hl hn hz ha b0 h1 h3;go_enter Tryz.func9,Tryz.ntmps9;go_wp2_with fail;generalize ew:(w.alloc (.cells #[.slice none 0 0,.slice none 0 0,.int .i64 0,.slice none 0 0] 26)).alloc (.cells #[.int .u32 0,.int .i64 0,.int .u32 0,.int .u32 0] 38)=w0 at *;have hs0:w0.heap.size=w.heap.size+2:=by rw[←ew];simp
 clear ew;refine HN.out.mono ?_;rintro e w1 ⟨rfl,hc1,B1,s1⟩;rw[hs0] at hc1 B1 s1 ⊢;have hbl:=HR.out.1.trans (B1.mono (show w.heap.size≤w.heap.size+2 by omega));have e1:w1.heap[w.heap.size]?=some (.cells #[.slice none 0 0,.slice none 0 0,.int .i64 0,.slice none 0 0] 26 (0,0)):=by rw[B1.block _ (by omega)];exact HR.out.2.1
 have e3:w1.heap[w.heap.size+1]?=some (.cells #[.int .u32 0,.int .i64 0,.int .u32 0,.int .u32 0] 38 (0,0)):=by rw[B1.block _ (by omega)];exact HR.out.2.2
 have HD1:=hdI (show DR 38 zFr w x n cap w.heap.size (w.heap.size+1) #[.slice none 0 0,.slice none 0 0,.int .i64 0,.slice none 0 0] #[.int .u32 0,.int .i64 0,.int .u32 0,.int .u32 0] w1 from⟨hbl,hc1,CurT.of_at HT.out.1 HT.out.2.1 HT.out.2.2.1 HT.out.2.2.2 hbl (by omega),e1,e3,e1,e3,by omega,by omega,by decide⟩);clear hbl e1 e3 hc1 B1 s1 HR HN HT hs0;have HBW:=hdI (drawSt_any (w.heap.size+2) x n cap _ HD1.out.cb HD1.out.ct);go_wp2_with fail;refine HBW.out.mono ?_;rintro e w2 ⟨v,rfl,aD,nD,cD,aU,nU,cU,k,aT,nT,cT,D,U,T,rfl,i1,i2,i3,pD,lD,pU,lT,hk,ap,hc,hw⟩;have hz1:w.heap.size+2+1≤w1.heap.size:=HD1.out.lt;have HD2:=hdI (HD1.out.to hw.wrT hc);have HL2:=hdI (show DY (w.heap.size+2) aD nD cD aU nU cU k aT nT cT w2 from⟨⟨D,U,T,IO.mono i1 hz1,IO.mono i2 hz1,TapO.mono i3 hz1,by omega,Nat.le_trans pU.len (by decide),by omega⟩,hk⟩);have HNS:=hdI (heap_alloc_new w2 (.cells #[.slice none 0 0,.slice none 0 0,.int .i64 0,.slice none 0 0] 26));have bS:Below w2.heap.size w2 ((w2.alloc (.cells #[.slice none 0 0,.slice none 0 0,.int .i64 0,.slice none 0 0] 26)).setRow w2.heap.size #[.slice aD nD cD,.slice aU nU cU,.int .i64 k,.slice aT nT cT]):=(below_new _ _).trans ((Wr.setRow _ _ _).below (Nat.le_refl _));have hz2:w.heap.size+2<w2.heap.size:=HD2.out.lt;have HD3:=hdI ((HD2.out.to (WrG.of_below bS).wrT (HD2.out.cb.bel bS).1).swS (setRow_heap _ _ _ _ _ _ HNS.out) (by omega));have HX3:=hdI (HL2.out.wrG (WrG.of_below bS));have hlD:=i1.sat.2.1;have hlU:=i2.sat.2.1;have hnU:=pU.len;have HAP:=hdI (And.intro ap (show nD≤280∧nU≤280 by omega));have HBN:=hdI (show nD≤280∧nU≤280 by omega);have hU':(nU:Int)≤280:=by omega
 clear HD1 HBW i1 i2 i3 pD lD pU hc hw hz1 HD2 HL2 bS ap hk hlD hlU hnU lT
 go_upto_region 3 with (first
  |(refine wpList_store_row rfl 26 (.tmp 5) (.tmp 13) rfl w2.heap.size #[.slice aD nD cD,.slice aU nU cU,.int .i64 k,.slice aT nT cT] rfl rfl 26 _ HNS.out Tryz.sizeSt rfl (by simp[Value.oneCell']) ?_)
  |fail)
 clear HNS;generalize (w2.alloc (.cells #[.slice none 0 0,.slice none 0 0,.int .i64 0,.slice none 0 0] 26)).setRow w2.heap.size #[.slice aD nD cD,.slice aU nU cU,.int .i64 k,.slice aT nT cT]=w3 at *;generalize w2.heap.size=S at *;have HBW:=hdI (below_any (w.heap.size+2) x n cap 3 _ HD3.out.cb HD3.out.ct (by decide) (by decide));go_wp2_with fail;refine HBW.out.mono ?_;rintro e w4 ⟨y,rfl,y0,y1,hc,hw⟩;have HD4:=hdI (HD3.out.cur hc hw);have HX4:=hdI (HX3.out.wrG hw.wrG);clear HD3 HX3 HBW hc hw;have HNO:=hdI (heap_alloc_new w4 (.cells #[.int .u32 0,.int .i64 0,.int .u32 0,.int .u32 0] 38));have bO:Below w4.heap.size w4 ((w4.alloc (.cells #[.int .u32 0,.int .i64 0,.int .u32 0,.int .u32 0] 38)).setRow w4.heap.size #[.int .u32 5,.int .i64 (1+y),.int .u32 0,.int .u32 0]):=(below_new _ _).trans ((Wr.setRow _ _ _).below (Nat.le_refl _));have hz4:w.heap.size+2<w4.heap.size:=HD4.out.lt;have hSO:w4.heap.size≠S:=Nat.ne_of_gt (lt_of_heap HD4.out.s);have HD5:=hdI ((HD4.out.to (WrG.of_below bO).wrT (HD4.out.cb.bel bO).1).swO (setRow_heap _ _ _ _ _ _ HNO.out) (by omega));have HX5:=hdI (HX4.out.wrG (WrG.of_below bO));clear HD4 HX4 bO
 go_upto_region 4 with (first
  |(refine wpList_store_row rfl 38 (.tmp 6) (.tmp 17) rfl w4.heap.size #[.int .u32 5,.int .i64 (1+y),.int .u32 0,.int .u32 0] rfl rfl 38 _ HNO.out Tryz.sizeFr rfl (by simp[Value.oneCell']) ?_)
  |fail)
 clear HNO;generalize (w4.alloc (.cells #[.int .u32 0,.int .i64 0,.int .u32 0,.int .u32 0] 38)).setRow w4.heap.size #[.int .u32 5,.int .i64 (1+y),.int .u32 0,.int .u32 0]=w5 at *;generalize w4.heap.size=O at *;have HSO:=hdI (show w.heap.size+1<O∧O≠S by omega);have HSO2:=hdI (show w.heap.size+1<S∧w.heap.size+1<O by omega);have HBW:=hdI (below_any (w.heap.size+2) x n cap 60 _ HD5.out.cb HD5.out.ct (by decide) (by decide));go_wp2_with fail;refine HBW.out.mono ?_;rintro e w6 ⟨ya,rfl,ya0,ya1,hc,hw⟩;have HD6:=hdI (HD5.out.cur hc hw);have HX6:=hdI (HX5.out.wrG hw.wrG);clear HD5 HX5 HBW hc hw;have HBW:=hdI (below_any (w.heap.size+2) x n cap 2 _ HD6.out.cb HD6.out.ct (by decide) (by decide));go_wp2_with fail;refine HBW.out.mono ?_;rintro e w7 ⟨yb,rfl,yb0,yb1,hc,hw⟩;have HD7:=hdI (HD6.out.cur hc hw);have HX7:=hdI (HX6.out.wrG hw.wrG);clear HD6 HX6 HBW hc hw;obtain⟨ga,rfl⟩:=Int.eq_ofNat_of_zero_le ya0;obtain⟨gb,rfl⟩:=Int.eq_ofNat_of_zero_le yb0;have o2:w7.cell? ⟨O,2,none⟩=some (.int .u32 0):=cell_of_row _ _ _ _ _ _ HD7.out.o;have f2:=frozen_of_row _ _ 2 _ _ HD7.out.o;have HD8:=hdI (HD7.out.putO HSO.out ((Wr.refl _ _).setCell 2 (.int .u32 ga)) (heap_setCell_same _ _ _ _ _ _ HD7.out.o));have HX8:=hdI (HX7.out.typ HD7.out.o (by decide) (by decide) ((Wr.refl _ _).setCell 2 (.int .u32 ga)));clear HD7 HX7
 go_upto_region 7 with fail
 clear o2 f2;generalize w7.setCell ⟨O,2,none⟩ (.int .u32 ga)=w8 at *;have o3:w8.cell? ⟨O,3,none⟩=some (.int .u32 0):=cell_of_row _ _ _ _ _ _ HD8.out.o;have f3:=frozen_of_row _ _ 3 _ _ HD8.out.o;have HD9:=hdI (HD8.out.putO HSO.out ((Wr.refl _ _).setCell 3 (.int .u32 gb)) (heap_setCell_same _ _ _ _ _ _ HD8.out.o));have HX9:=hdI (HX8.out.typ HD8.out.o (by decide) (by decide) ((Wr.refl _ _).setCell 3 (.int .u32 gb)));clear HD8 HX8
 go_upto_region 8 with fail
 clear o3 f3;generalize w8.setCell ⟨O,3,none⟩ (.int .u32 gb)=w9 at *;have o1:w9.cell? ⟨O,1,none⟩=some (.int .i64 (1+y)):=cell_of_row _ _ _ _ _ _ HD9.out.o
 go_upto_if 30 with fail
 clear o1;try dsimp only[Act.put]
 go_cut [] from 10 (fun ww=>∃(kd:Int) (fa fb:Nat),fa<4294967296∧fb<4294967296∧DR 38 zFr w x n cap S O #[.slice aD nD cD,.slice aU nU cU,.int .i64 k,.slice aT nT cT] #[.int .u32 5,.int .i64 kd,.int .u32 fa,.int .u32 fb] ww∧DY (w.heap.size+2) aD nD cD aU nU cU k aT nT cT ww)
 case first=>
  by_cases h3:1+y=3
  ·have h3':(1+y == 3)=true:=by simp[h3]
   clear h3;have o3:w9.cell? ⟨O,3,none⟩=some (.int .u32 gb):=cell_of_row _ _ _ _ _ _ HD9.out.o;have f3:=frozen_of_row _ _ 3 _ _ HD9.out.o;have HDa:=hdI (HD9.out.putO HSO.out ((Wr.refl _ _).setCell 3 (.int .u32 0)) (heap_setCell_same _ _ _ _ _ _ HD9.out.o));have HXa:=hdI (HX9.out.typ HD9.out.o (by decide) (by decide) ((Wr.refl _ _).setCell 3 (.int .u32 0)));clear HD9 HX9
   go_upto_region 10 with fail
   clear o3 f3;generalize w9.setCell ⟨O,3,none⟩ (.int .u32 0)=wa at *;have s1:wa.cell? ⟨S,1,none⟩=some (.slice aU nU cU):=cell_of_row _ _ _ _ _ _ HDa.out.s;have HBW:=hdI (below_any (w.heap.size+2) x n cap (nU+2) _ HDa.out.cb HDa.out.ct (by omega) (by omega));go_wp2_with fail;refine HBW.out.mono ?_;rintro e wb ⟨yc,rfl,yc0,yc1,hc,hw⟩;have HDb:=hdI (HDa.out.cur hc hw);have HXb:=hdI (HXa.out.wrG hw.wrG);clear HDa HXa HBW hc hw;obtain⟨fc,rfl⟩:=Int.eq_ofNat_of_zero_le yc0;have o2:wb.cell? ⟨O,2,none⟩=some (.int .u32 ga):=cell_of_row _ _ _ _ _ _ HDb.out.o;have f2:=frozen_of_row _ _ 2 _ _ HDb.out.o;have HDc:=hdI (HDb.out.putO HSO.out ((Wr.refl _ _).setCell 2 (.int .u32 fc)) (heap_setCell_same _ _ _ _ _ _ HDb.out.o));have HXc:=hdI (HXb.out.typ HDb.out.o (by decide) (by decide) ((Wr.refl _ _).setCell 2 (.int .u32 fc)));clear HDb HXb;go_wp2
   go_meet
   case rel=>exact⟨_,fc,0,by omega,by omega,HDc.out,HXc.out⟩
  ·have h3':(1+y == 3)=false:=by simp[h3]
   go_wp2
   go_meet
   case rel=>exact⟨_,ga,gb,by omega,by omega,HD9.out,HX9.out⟩
 case rest=>
  obtain⟨kd,fa,fb,ha,hb,hd,hx⟩:=hcut;have HD:=hdI hd;have HX:=hdI hx;have HFB:=hdI (And.intro ha hb);clear hd hx ha hb HD9 HX9
  go_upto_region 11 with fail
  go_cut [52] from 10 (fun v ww=>∃ b:Bool,v=.bool b∧(b=true→0<nD)∧DR 38 zFr w x n cap S O #[.slice aD nD cD,.slice aU nU cU,.int .i64 k,.slice aT nT cT] #[.int .u32 5,.int .i64 kd,.int .u32 fa,.int .u32 fb] ww∧DY (w.heap.size+2) aD nD cD aU nU cU k aT nT cT ww)
  case first=>
   have o1:_=some (Value.int .i64 kd):=cell_of_row _ _ 1 _ _ _ HD.out.o;have s0:_=some (Value.slice aD nD cD):=cell_of_row _ _ 0 _ _ _ HD.out.s;have HBW:=hdI (once_any (w.heap.size+2) x n cap 2 _ HD.out.cb HD.out.ct (by decide) (by decide));by_cases h2:kd=2
   ·have e2:(kd == 2)=true:=by simp[h2]
    clear h2;by_cases hD:0<nD
    ·have hD':0<(nD:Int):=by omega
     go_wp2_with fail;refine HBW.out.mono ?_;rintro e w9 ⟨bo,rfl,hc,hw⟩;have HF:=hdI (HD.out.cur hc hw);have HXF:=hdI (HX.out.wrG hw.wrG);clear HD HX HBW hc hw o1 s0;go_wp2
     go_meet
     case rel=>exact⟨bo,rfl,fun _=>hD,HF.out,HXF.out⟩
    ·have hD':¬ 0<(nD:Int):=by omega
     go_wp2
     go_meet
     case rel=>exact⟨false,rfl,by simp,HD.out,HX.out⟩
   ·have e2:(kd == 2)=false:=by simp[h2]
    go_wp2
    go_meet
    case rel=>exact⟨false,rfl,by simp,HD.out,HX.out⟩
  case rest=>
   obtain⟨b,rfl,hb,hd,hx⟩:=hcut;have HD':=hdI hd;have HX':=hdI hx;clear hd hx HD HX
   go_upto_if 52 with fail
   try dsimp only[Act.put]
   go_cut [] from 10 (fun ww=>∃(kd:Int) (fa fb:Nat),fa<4294967296∧fb<4294967296∧DR 38 zFr w x n cap S O #[.slice aD nD cD,.slice aU nU cU,.int .i64 k,.slice aT nT cT] #[.int .u32 5,.int .i64 kd,.int .u32 fa,.int .u32 fb] ww∧DY (w.heap.size+2) aD nD cD aU nU cU k aT nT cT ww)
   case first=>
    cases b with
    |false=>
     go_wp2
     go_meet
     case rel=>exact⟨_,_,_,HFB.out.1,HFB.out.2,HD'.out,HX'.out⟩
    |true=>
     have hnD:=hb rfl;have hnD':0<(nD:Int):=by omega
     obtain⟨⟨D',U',T',hl⟩,_⟩:=HX'.out;obtain⟨qd,z,rfl,cz⟩:=hl.d.hd hnD;clear hl cz hb HAP
     go_upto_region 12 with fail
     refine wp_region_any (by kernel_rfl) ?_;refine wpAny_slotsU (fun _ _ _=>True) (frame:=(fun (a b c d e f g h i j k l m n o p q r s u v w x y z A B C D E F G H I J K L M N O P Q R S T U V W X Y Z a0 a1 a2 a3 a4 a5 a6 a7 a8 a9 b0 b1 b2 b3 b4 b5 b6 b7 b8 b9 c0 c1 c2 c3 c4:Value)=>fun (t:Nat→Value)=>({ tmps:=List.toArray [a,b,c,d,e,f,g,h,i,j,k,l,m,n,o,p,q,r,s,u,v,w,x,y,z,A,B,C,D,E,F,G,H,I,J,K,L,M,N,O,P,Q,R,S,T,U,V,W,X,Y,Z,a0,a1,t 0,t 1,t 2,t 3,t 4,t 5,t 6,t 7,t 8,t 9,t 10,a2,a3,a4,a5,a6,a7,a8,a9,b0,b1,b2,b3,b4,b5,b6,b7,b8,b9,c0,c1,c2,c3,c4],defers:=[] }:Act)) _ _ _ _ _ _ _ _ _ _ _ _ _ _ _ _ _ _ _ _ _ _ _ _ _ _ _ _ _ _ _ _ _ _ _ _ _ _ _ _ _ _ _ _ _ _ _ _ _ _ _ _ _ _ _ _ _ _ _ _ _ _ _ _ _ _ _ _ _ _ _ _ _ _ _ _)
      (Ext:=fun L u w'=>((L 7=true→L 6=true)∧(L 8=true→L 7=true)∧(L 9=true→L 8=true)∧(L 11=true→L 9=true))∧(if L 11=true then(∃(kd:Int) (fa fb:Nat),fa<4294967296∧fb<4294967296∧DR 38 zFr w x n cap S O #[.slice (some ⟨qd,0,none⟩) nD cD,.slice aU nU cU,.int .i64 k,.slice aT nT cT] #[.int .u32 5,.int .i64 kd,.int .u32 fa,.int .u32 fb] w'∧DY (w.heap.size+2) (some ⟨qd,0,none⟩) nD cD aU nU cU k aT nT cT w') else(DR 38 zFr w x n cap S O #[.slice (some ⟨qd,0,none⟩) nD cD,.slice aU nU cU,.int .i64 k,.slice aT nT cT] #[.int .u32 5,.int .i64 kd,.int .u32 fa,.int .u32 fb] w'∧DY (w.heap.size+2) (some ⟨qd,0,none⟩) nD cD aU nU cU k aT nT cT w'))) (Good:=fun i L w' v=>if i=0 then v=.pointer (some ⟨S,0,none⟩) else if i=1 then v=.slice (some ⟨qd,0,none⟩) nD cD else if i=2 then v=.pointer (some ⟨w.heap.size+2,0,none⟩) else if i=3 then v=.pointer (some ⟨S,0,none⟩) else if i=4 then v=.slice (some ⟨qd,0,none⟩) nD cD else if i=5 then v=.int .i64 nD else if i=6 then ∃ j:Nat,v=.int .i64 j∧j<nD else if i=7 then ∃ j:Nat,v=.pointer (some ⟨qd,j,none⟩)∧j<nD else if i=8 then ∃ z:Int,v=.int .i64 z else if i=9 then ∃ z:Nat,v=.int .u32 z∧z<4294967296 else if i=10 then v=.pointer (some ⟨O,2,none⟩) else if i=11 then L 11=true else True) ?hstab (by kernel_rfl) ?hop ?hdone _ _ ((fun (x0 x1 x2 x3 x4 x5 x6 x7 x8 x9 x10:Value)=>fun (i:Nat)=>if i=0 then x0 else if i=1 then x1 else if i=2 then x2 else if i=3 then x3 else if i=4 then x4 else if i=5 then x5 else if i=6 then x6 else if i=7 then x7 else if i=8 then x8 else if i=9 then x9 else if i=10 then x10 else undef) _ _ _ _ _ _ _ _ _ _ _) _ (by simp) ?ext ?start (by simp)
     case start=>intro i hi h;exact absurd h (by rw[Array.getD_eq_getD_getElem?,Array.getElem?_replicate];split<;>simp)
     case ext=>exact⟨⟨by simp,by simp,by simp,by simp⟩,by simp;exact⟨HD'.out.to (WrG.of_below ((Below.refl _ _).drew)).wrT (HD'.out.cb.bel ((Below.refl _ _).drew)).1,HX'.out.wrG (WrG.of_below ((Below.refl _ _).drew))⟩⟩
     case hstab=>
      intro j L w9 w' i v hM hij hLi h;by_cases h11:j=11
      ·subst h11;simp at h ⊢;unfold updK;split<;>simp[h]
      simp only[if_neg h11] at h ⊢;exact h
     case hop=>
      intro i o L t w' ho hLi hx hdep K hK;have hi:i<12:=(Array.getElem?_eq_some_iff.1 ho).1;have hD:∃ co,DR 38 zFr w x n cap S O #[.slice (some ⟨qd,0,none⟩) nD cD,.slice aU nU cU,.int .i64 k,.slice aT nT cT] co w'∧DY (w.heap.size+2) (some ⟨qd,0,none⟩) nD cD aU nU cU k aT nT cT w':=by
       have h:=hx.2;by_cases h11:L 11=true
       ·rw[if_pos h11] at h;obtain⟨_,_,_,_,_,h⟩:=h;exact⟨_,h⟩
       ·rw[if_neg h11] at h;exact⟨_,h⟩
      obtain⟨co,hD,hY⟩:=hD;have s0:w'.cell? ⟨S,0,none⟩=some (.slice (some ⟨qd,0,none⟩) nD cD):=cell_of_row _ _ _ _ _ _ hD.s;clear hD;obtain rfl|rfl|rfl|rfl|rfl|rfl|rfl|rfl|rfl|rfl|rfl|rfl:i=0∨i=1∨i=2∨i=3∨i=4∨i=5∨i=6∨i=7∨i=8∨i=9∨i=10∨i=11:=by omega
      all_goals(simp at ho;subst ho)
      all_goals try(have hK':=hK w' _ rfl ⟨by simpa[updK] using hx.1,by simpa[updK] using hx.2⟩ trivial;clear hK;simp[Region.binds] at hdep;rw[if_pos (by rfl)];go_simp;simpa[upd,hdep,s0] using hK';done)
      ·have d2:t 2=.pointer (some ⟨w.heap.size+2,0,none⟩):=by simpa using(hdep ⟨2,.data⟩ (by simp) rfl).2
       have d5:t 5=.int .i64 nD:=by simpa using(hdep ⟨5,.data⟩ (by simp) rfl).2
       clear hdep s0 hY;have h7:¬ L 7=true:=fun h=>by rw[hx.1.1 h] at hLi;cases hLi
       have h8:¬ L 8=true:=fun h=>h7 (hx.1.2.1 h)
       have h9:¬ L 9=true:=fun h=>h8 (hx.1.2.2.1 h)
       have h11:¬ L 11=true:=fun h=>h9 (hx.1.2.2.2 h)
       have hf:=hx.2;rw[if_neg h11] at hf;have A:=below_any (w.heap.size+2) x n cap nD w' hf.1.cb hf.1.ct (by omega) (by have:=HBN.out;omega);have hK':∀ ww (y:Nat),y<nD→CurB ww (w.heap.size+2) x n cap→Wr (w.heap.size+2) w' ww→K _ ww:=fun ww y hy hc hw=>hK ww (.int .i64 y) (by simp;exact⟨y,rfl,hy⟩) ⟨by simp[updK,h7,h8,h9,h11],by simp only[updK];simp[h11];exact⟨hf.1.cur hc hw,hf.2.wrG hw.wrG⟩⟩ trivial
       clear hK hx hf;rw[if_pos (by rfl)];go_simp;try simp only[d2,d5]
       refine A.mono ?_;rintro e w9 ⟨y,rfl,hy0,hy1,hc,hw⟩;obtain⟨y,rfl⟩:=Int.eq_ofNat_of_zero_le hy0;have hK2:=hK' w9 y (by omega) hc hw;clear hK' A hc hw;go_simp;simpa[upd,d2,d5] using hK2
      ·have d1:t 1=.slice (some ⟨qd,0,none⟩) nD cD:=by simpa using(hdep ⟨1,.data⟩ (by simp) rfl).2
       have l6:=(hdep ⟨6,.data⟩ (by simp) rfl).1;obtain⟨j,d6,hj⟩:∃ j:Nat,t 6=.int .i64 j∧j<nD:=by simpa using(hdep ⟨6,.data⟩ (by simp) rfl).2
       clear hdep s0 hY;have hj':(j:Int)<nD:=by omega
       have hK':=hK w' (.pointer (some ⟨qd,j,none⟩)) (by simp;exact hj) ⟨⟨by simp[updK,l6],by simp[updK],by simpa[updK] using hx.1.2.2.1,by simpa[updK] using hx.1.2.2.2⟩,by simpa[updK] using hx.2⟩ trivial;clear hK hx;rw[if_pos (by rfl)];go_simp;simpa[upd,d1,d6,hj] using hK'
      ·have l7:=(hdep ⟨7,.data⟩ (by simp) rfl).1;obtain⟨j,d7,hj⟩:∃ j:Nat,t 7=.pointer (some ⟨qd,j,none⟩)∧j<nD:=by simpa using(hdep ⟨7,.data⟩ (by simp) rfl).2
       clear hdep s0;obtain⟨z,cz⟩:∃ z:Int,w'.cell? ⟨qd,j,none⟩=some (.int .i64 z):=by
        obtain⟨⟨D',U',T',hl⟩,_⟩:=hY;exact hl.d.at_j hj
       have hK':=hK w' (.int .i64 z) (by simp) ⟨⟨by simpa[updK] using hx.1.1,by simp[updK,l7],by simp[updK],by simpa[updK] using hx.1.2.2.2⟩,by simpa[updK] using hx.2⟩ trivial;clear hK hx hY;rw[if_pos (by rfl)];go_simp;simpa[upd,d7,cz] using hK'
      ·have l8:=(hdep ⟨8,.data⟩ (by simp) rfl).1;obtain⟨z,d8⟩:∃ z:Int,t 8=.int .i64 z:=by simpa using(hdep ⟨8,.data⟩ (by simp) rfl).2
       clear hdep s0 hY;obtain⟨z',ez,hz⟩:=wrapU z;have hK':=hK w' (.int .u32 z') (by simp;exact⟨z',rfl,hz⟩) ⟨⟨by simpa[updK] using hx.1.1,by simpa[updK] using hx.1.2.1,by simp[updK,l8],by simp[updK]⟩,by simpa[updK] using hx.2⟩ trivial;clear hK hx;rw[if_pos (by rfl)];go_simp;simpa[upd,d8,ez] using hK'
      ·have d10:t 10=.pointer (some ⟨O,2,none⟩):=by simpa using(hdep ⟨10,.data⟩ (by simp) rfl).2
       have l9:=(hdep ⟨9,.data⟩ (by simp) rfl).1;obtain⟨z,d9,hz⟩:∃ z:Nat,t 9=.int .u32 z∧z<4294967296:=by simpa using(hdep ⟨9,.data⟩ (by simp) rfl).2
       clear hdep s0 hY;have hf:=hx.2;rw[hLi,if_neg (by decide)] at hf;have o2:w'.cell? ⟨O,2,none⟩=some (.int .u32 fa):=cell_of_row _ _ _ _ _ _ hf.1.o;have f2:w'.frozen? ⟨O,2,none⟩=false:=frozen_of_row _ _ _ _ _ hf.1.o;have hwO:Wr O w' (w'.setCell ⟨O,2,none⟩ (.int .u32 z)):=(Wr.refl _ _).setCell _ _;have hK':=hK (w'.setCell ⟨O,2,none⟩ (.int .u32 z)) undef (by simp[updK]) ⟨⟨by simpa[updK] using hx.1.1,by simpa[updK] using hx.1.2.1,by simpa[updK] using hx.1.2.2.1,by simp[updK,l9]⟩,by
        have e:updK L 11 11=true:=by simp[updK]
        rw[if_pos e];exact⟨_,z,_,hz,HFB.out.2,hf.1.putO HSO.out hwO (heap_setCell_same _ _ _ _ _ _ hf.1.o),hf.2.typ hf.1.o (by decide) (by decide) hwO⟩⟩ trivial
       clear hK hx hf hwO;rw[if_pos (by rfl)];go_simp;simpa[upd,d9,d10,Act.put] using hK'
     case hdone=>
      intro L t w' hx hg;have h11:L 11=true:=by simpa using hg 11 (by decide)
      have hf:=hx.2;rw[if_pos h11] at hf;have HF:=hdI hf;clear hg hx hf;go_wp2
      go_meet
      case rel=>exact HF.out
   case rest=>
    clear HD' HX' HFB hb;obtain⟨kd,fa,fb,ha,hb,hd,hx⟩:=hcut;have HD:=hdI hd;have HX:=hdI hx;have HFB:=hdI (And.intro ha hb);clear hd hx ha hb;have HBW:=hdI (below_any (w.heap.size+2) x n cap 12 _ HD.out.cb HD.out.ct (by decide) (by decide));go_wp2_with fail;refine HBW.out.mono ?_;rintro e wk ⟨kz,rfl,kz0,kz1,hc,hw⟩;have HD':=hdI (HD.out.cur hc hw);have HX':=hdI (HX.out.wrG hw.wrG);clear HD HX HBW hc hw;have HD:=HD';have HX:=HX';clear HD' HX'
    go_upto_if 67 with fail
    try dsimp only[Act.put]
    go_cut [] from 10 (fun ww=>∃(kd:Int) (fa fb:Nat),fa<4294967296∧fb<4294967296∧DR 38 zFr w x n cap S O #[.slice aD nD cD,.slice aU nU cU,.int .i64 k,.slice aT nT cT] #[.int .u32 5,.int .i64 kd,.int .u32 fa,.int .u32 fb] ww∧DY (w.heap.size+2) aD nD cD aU nU cU k aT nT cT ww)
    case first=>
     by_cases hk:kz=0
     ·have hk':(kz == 0)=true:=by simp[hk]
      clear hk;have o2:_=some (Value.int .u32 fa):=cell_of_row _ _ 2 _ _ _ HD.out.o;have f2:=frozen_of_row _ _ 2 _ _ HD.out.o;have HF:=hdI (HD.out.putO HSO.out ((Wr.refl _ _).setCell 2 (.int .u32 ((256+ga:Nat):Int))) (heap_setCell_same _ _ _ _ _ _ HD.out.o));have HXF:=hdI (HX.out.typ HD.out.o (by decide) (by decide) ((Wr.refl _ _).setCell 2 (.int .u32 ((256+ga:Nat):Int))));clear HD HX;go_wp2
      go_meet
      case rel=>exact⟨_,256+ga,_,by omega,HFB.out.2,HF.out,HXF.out⟩
     ·have hk':(kz == 0)=false:=by simp[hk]
      go_wp2
      go_meet
      case rel=>exact⟨_,_,_,HFB.out.1,HFB.out.2,HD.out,HX.out⟩
    case rest=>
     clear HD HX HFB;obtain⟨kd,fa,fb,ha,hb,hd,hx⟩:=hcut;have HD:=hdI hd;have HX:=hdI hx;have HFB:=hdI (And.intro ha hb);clear hd hx ha hb
     go_upto_if 73 with fail
     try dsimp only[Act.put]
     go_cut [] from 10 (fun ww=>∃(kd:Int) (fa fb:Nat),fa<4294967296∧fb<4294967296∧DR 38 zFr w x n cap S O #[.slice aD nD cD,.slice aU nU cU,.int .i64 k,.slice aT nT cT] #[.int .u32 5,.int .i64 kd,.int .u32 fa,.int .u32 fb] ww∧DY (w.heap.size+2) aD nD cD aU nU cU k aT nT cT ww)
     case first=>
      by_cases hk:kz=1
      ·have hk':(kz == 1)=true:=by simp[hk]
       clear hk;have o3:_=some (Value.int .u32 fb):=cell_of_row _ _ 3 _ _ _ HD.out.o;have f3:=frozen_of_row _ _ 3 _ _ HD.out.o;have HF:=hdI (HD.out.putO HSO.out ((Wr.refl _ _).setCell 3 (.int .u32 2)) (heap_setCell_same _ _ _ _ _ _ HD.out.o));have HXF:=hdI (HX.out.typ HD.out.o (by decide) (by decide) ((Wr.refl _ _).setCell 3 (.int .u32 2)));clear HD HX;go_wp2
       go_meet
       case rel=>exact⟨_,_,2,HFB.out.1,by decide,HF.out,HXF.out⟩
      ·have hk':(kz == 1)=false:=by simp[hk]
       go_wp2
       go_meet
       case rel=>exact⟨_,_,_,HFB.out.1,HFB.out.2,HD.out,HX.out⟩
     case rest=>
      clear HD HX HFB;obtain⟨kd,fa,fb,ha,hb,hd,hx⟩:=hcut;have HD:=hdI hd;have HX:=hdI hx;have HFB:=hdI (And.intro ha hb);clear hd hx ha hb
      go_upto_if 76 with fail
      try dsimp only[Act.put]
      go_cut [] from 10 (fun ww=>∃(kd:Int) (fa fb:Nat),fa<4294967296∧fb<4294967296∧DR 38 zFr w x n cap S O #[.slice aD nD cD,.slice aU nU cU,.int .i64 k,.slice aT nT cT] #[.int .u32 5,.int .i64 kd,.int .u32 fa,.int .u32 fb] ww∧DY (w.heap.size+2) aD nD cD aU nU cU k aT nT cT ww)
      case first=>
       by_cases hk:kz=2
       ·have hk':(kz == 2)=true:=by simp[hk]
        clear hk;have o1:_=some (Value.int .i64 kd):=cell_of_row _ _ 1 _ _ _ HD.out.o;have f1:=frozen_of_row _ _ 1 _ _ HD.out.o;have HF:=hdI (HD.out.putO HSO.out ((Wr.refl _ _).setCell 1 (.int .i64 (4*gb))) (heap_setCell_same _ _ _ _ _ _ HD.out.o));have HXF:=hdI (HX.out.typ HD.out.o (by decide) (by decide) ((Wr.refl _ _).setCell 1 (.int .i64 (4*gb))));clear HD HX;go_wp2
        go_meet
        case rel=>exact⟨_,_,_,HFB.out.1,HFB.out.2,HF.out,HXF.out⟩
       ·have hk':(kz == 2)=false:=by simp[hk]
        go_wp2
        go_meet
        case rel=>exact⟨_,_,_,HFB.out.1,HFB.out.2,HD.out,HX.out⟩
      case rest=>
       clear HD HX HFB;obtain⟨kd,fa,fb,ha,hb,hd,hx⟩:=hcut;have HD:=hdI hd;have HX:=hdI hx;have HFB:=hdI (And.intro ha hb);clear hd hx ha hb
       go_upto_if 81 with fail
       try dsimp only[Act.put]
       go_cut [] from 10 (fun ww=>∃ aD nD cD aU nU cU k aT nT cT,DR 38 zFr w x n cap S O #[.slice aD nD cD,.slice aU nU cU,.int .i64 k,.slice aT nT cT] #[.int .u32 5,.int .i64 kd,.int .u32 fa,.int .u32 fb] ww∧DY (w.heap.size+2) aD nD cD aU nU cU k aT nT cT ww)
       case first=>
        by_cases hk:kz=3
        ·have hk':(kz == 3)=true:=by simp[hk]
         clear hk;obtain⟨⟨D',U',T',hl⟩,hk9⟩:=HX.out;have hlD:=hl.d.sat.2.1;have hlU:=hl.u.sat.2.1;have hbd:=HAP.out.2;have HBW:=hdI (spoilSt_any (w.heap.size+2) x n cap aD aU aT nD cD nU cU nT cT D' U' T' k _ HD.out.cb HD.out.ct hl (by omega) HAP.out.1 hk9);clear hl hlD hlU hbd hk9;go_wp2_with (first
          |(refine wpList_load_row rfl 26 (.tmp 5) rfl S rfl 26 _ (0,0) _ HD.out.s Tryz.underlying26 rfl Tryz.sizeSt ?_)
          |fail)
         refine HBW.out.mono ?_;rintro e wq ⟨v,rfl,⟨bD,mD,dD,bU,mU,dU,kk,bT,mT,dT,D9,U9,T9,rfl,hl9,hk9⟩,hc,hw⟩;have HDq:=hdI (HD.out.to hw hc);have HXq:=hdI (show DY (w.heap.size+2) bD mD dD bU mU dU kk bT mT dT wq from⟨⟨_,_,_,hl9⟩,hk9⟩);have hwS:=Wr.setRow S wq #[.slice bD mD dD,.slice bU mU dU,.int .i64 kk,.slice bT mT dT];have HF:=hdI (HDq.out.putS (by omega) hwS (setRow_heap _ _ _ _ _ _ HDq.out.s));have HXF:=hdI (HXq.out.typ HDq.out.s (by decide) (by decide) hwS);clear HBW hl9 hk9 hc hw hwS HXq HD HX;go_wp2_with (first
          |(refine wpList_store_row rfl 26 (.tmp 5) (.tmp 84) rfl S #[.slice bD mD dD,.slice bU mU dU,.int .i64 kk,.slice bT mT dT] rfl rfl 26 _ HDq.out.s Tryz.sizeSt rfl (by simp[Value.oneCell']) ?_)
          |fail)
         go_meet
         case rel=>exact⟨_,_,_,_,_,_,_,_,_,_,HF.out,HXF.out⟩
        ·have hk':(kz == 3)=false:=by simp[hk]
         go_wp2
         go_meet
         case rel=>exact⟨_,_,_,_,_,_,_,_,_,_,HD.out,HX.out⟩
       case rest=>
        clear HD HX HAP HBN hU';obtain⟨aD,nD,cD,aU,nU,cU,k,aT,nT,cT,hd,hx⟩:=hcut;have HD:=hdI hd;have HX:=hdI hx;clear hd hx
        go_upto_region 22 with fail
        refine wp_region_any (by kernel_rfl) ?_;refine wpAny_slotsV (fun _ _ _=>True) (frame:=(fun (a b c d e f g h i j k l m n o p q r s u v w x y z A B C D E F G H I J K L M N O P Q R S T U V W X Y Z a0 a1 a2 a3 a4 a5 a6 a7 a8 a9 b0 b1 b2 b3 b4 b5 b6 b7 b8 b9 c0 c1 c2 c3 c4 c5 c6 c7 c8 c9 d0 d1 d2 d3:Value)=>fun (t:Nat→Value)=>({ tmps:=List.toArray [a,b,c,d,e,f,g,h,i,j,k,l,m,n,o,p,q,r,s,u,v,w,x,y,z,A,B,C,D,E,F,G,H,I,J,K,L,M,N,O,P,Q,R,S,T,U,V,W,X,Y,Z,a0,a1,a2,a3,a4,a5,a6,a7,a8,a9,b0,b1,b2,b3,b4,b5,b6,b7,b8,b9,c0,c1,c2,c3,c4,c5,c6,c7,c8,c9,d0,d1,d2,d3,t 0,t 1],defers:=[] }:Act)) _ _ _ _ _ _ _ _ _ _ _ _ _ _ _ _ _ _ _ _ _ _ _ _ _ _ _ _ _ _ _ _ _ _ _ _ _ _ _ _ _ _ _ _ _ _ _ _ _ _ _ _ _ _ _ _ _ _ _ _ _ _ _ _ _ _ _ _ _ _ _ _ _ _ _ _ _ _ _ _ _ _ _ _ _)
         (Ext:=fun L u w'=>ZR 38 zFr w S O #[.slice aD nD cD,.slice aU nU cU,.int .i64 k,.slice aT nT cT] #[.int .u32 5,.int .i64 kd,.int .u32 fa,.int .u32 fb] (L 2) (L 3) w'∧DY (w.heap.size+2) aD nD cD aU nU cU k aT nT cT w') (Good:=fun i L w' v=>if i=0 then v=.agg #[.slice aD nD cD,.slice aU nU cU,.int .i64 k,.slice aT nT cT] else if i=1 then v=.agg #[.int .u32 5,.int .i64 kd,.int .u32 fa,.int .u32 fb] else if i=2 then L 2=true else if i=3 then L 3=true else True) ?hstab (by kernel_rfl) ?hop ?hdone _ _ ((fun (x0 x1:Value)=>fun (i:Nat)=>if i=0 then x0 else if i=1 then x1 else undef) _ _) _ (by simp) ?ext ?start (by simp)
        case start=>intro i hi h;exact absurd h (by rw[Array.getD_eq_getD_getElem?,Array.getElem?_replicate];split<;>simp)
        case ext=>exact⟨⟨HD.out.bel.trans (((Below.refl _ _).drew).mono HD.out.bel.size),HD.out.s,HD.out.o,HD.out.r1,HD.out.r3⟩,HX.out.wrG (WrG.of_below ((Below.refl _ _).drew))⟩
        case hstab=>
         intro j L w9 w' i v hM hij hLi h;by_cases h3:j=2
         ·subst h3;simp at h ⊢;unfold updK;split<;>simp[h]
         by_cases h5:j=3
         ·subst h5;simp at h ⊢;unfold updK;split<;>simp[h]
         simp only[if_neg h3,if_neg h5] at h ⊢;exact h
        case hop=>
         intro i o L t w' ho hLi hx hdep K hK;have hi:i<4:=(Array.getElem?_eq_some_iff.1 ho).1;obtain rfl|rfl|rfl|rfl:i=0∨i=1∨i=2∨i=3:=by omega
         all_goals(simp at ho;subst ho)
         all_goals try(have hK':=hK w' _ rfl (by simpa[updK] using hx) trivial;clear hK;simp[Region.binds] at hdep;rw[if_pos (by rfl)];go_simp;simpa[upd,hdep] using hK';done)
         ·clear hdep;have hK':=hK w' (.agg #[.slice aD nD cD,.slice aU nU cU,.int .i64 k,.slice aT nT cT]) (by simp) (by simpa[updK] using hx) trivial;clear hK;rw[if_pos (by rfl)];refine wp_load_row 26 (.tmp 5) rfl S rfl 26 _ (0,0) _ hx.1.s Tryz.underlying26 rfl Tryz.sizeSt ?_;simpa[upd,Act.put] using hK'
         ·clear hdep;have hK':=hK w' (.agg #[.int .u32 5,.int .i64 kd,.int .u32 fa,.int .u32 fb]) (by simp) (by simpa[updK] using hx) trivial;clear hK;rw[if_pos (by rfl)];refine wp_load_row 38 (.tmp 6) rfl O rfl 38 _ (0,0) _ hx.1.o Tryz.underlying38 rfl Tryz.sizeFr ?_;simpa[upd,Act.put] using hK'
         ·have d0:t 0=.agg #[.slice aD nD cD,.slice aU nU cU,.int .i64 k,.slice aT nT cT]:=by simpa using(hdep ⟨0,.data⟩ (by simp) rfl).2
          clear hdep;obtain⟨hz,hX⟩:=hx;rw[hLi] at hz;have hK':=hK (w'.setRow w.heap.size #[.slice aD nD cD,.slice aU nU cU,.int .i64 k,.slice aT nT cT]) undef (by simp[updK]) (by
           simp only[updK];simp;exact⟨hz.one HSO2.out,hX.typ hz.r1 (by decide) (by decide) (Wr.setRow _ _ _)⟩) trivial
          clear hK;rw[if_pos (by rfl)];refine wp_store_row 26 (.tmp 2) (.tmp 85) rfl w.heap.size #[.slice aD nD cD,.slice aU nU cU,.int .i64 k,.slice aT nT cT] rfl d0 26 _ hz.r1 Tryz.sizeSt rfl (by simp[Value.oneCell']) ?_;simpa[upd,Act.put] using hK'
         ·have d1:t 1=.agg #[.int .u32 5,.int .i64 kd,.int .u32 fa,.int .u32 fb]:=by simpa using(hdep ⟨1,.data⟩ (by simp) rfl).2
          clear hdep;obtain⟨hz,hX⟩:=hx;rw[hLi] at hz;have hK':=hK (w'.setRow (w.heap.size+1) #[.int .u32 5,.int .i64 kd,.int .u32 fa,.int .u32 fb]) undef (by simp[updK]) (by
           simp only[updK];simp;exact⟨hz.two HSO2.out,hX.typ hz.r3 (by decide) (by decide) (Wr.setRow _ _ _)⟩) trivial
          clear hK;rw[if_pos (by rfl)];refine wp_store_row 38 (.tmp 3) (.tmp 86) rfl (w.heap.size+1) #[.int .u32 5,.int .i64 kd,.int .u32 fa,.int .u32 fb] rfl d1 38 _ hz.r3 Tryz.sizeFr rfl (by simp[Value.oneCell']) ?_;simpa[upd,Act.put] using hK'
        case hdone=>
         intro L t w' hx hg;have h3:L 2=true:=by simpa using hg 2 (by decide)
         have h5:L 3=true:=by simpa using hg 3 (by decide)
         rw[h3,h5] at hx;have HF:=hdI hx;clear hg hx h3 h5;go_wp2_with fail
         (try simp only[Exit.inBlock,Exit.then])
         exact bodyPost_ret (results_sf rfl _ _ w.heap.size (w.heap.size+1) _ _ _ _ _ _ _ _ rfl rfl HF.out.1.r1 HF.out.1.r3) rfl ⟨_,_,_,_,_,_,_,_,_,_,_,_,_,rfl,HFB.out.1,HFB.out.2,HF.out.2,HF.out.1.bel⟩
end Go.Proofs.YtncomnkdlpoelaaGreatDoor
