import Derived.Test.YtncomnkdlpoelaaGreatDoorMEso
open Go.Proofs.Tryz renaming prog->tP
open Go.Proofs.Tryz
open Go.Value renaming slice->aM,int->aO,pointer->aY,bool->ae,agg->af
open Go.IntKind renaming i64->aZ,u32->ai,u8->aP
open Go.Obj renaming cells->aa
open Go.Ending renaming returned->aQ
open Go.Ground renaming data->ag
open Go.Operand renaming tmp->ah
open Option renaming some->aR,none->aS
open Go renaming World->aV,Value->aX
set_option maxHeartbeats 16000000
set_option maxRecDepth 100000
namespace Go.Proofs.YtncomnkdlpoelaaGreatDoor
open Go.ChangeShapes Go.WideShapes Go.ChangeAt Go.RowKit
set_option linter.unusedVariables false
def RA:Array aX:=CI
theorem Yq (z:Int):∃ z':Nat,IntKind.u32.wrap z=z'/\z'<4294967296:=by
 rw[IntKind.wrap_u32];exact⟨(z%4294967296).toNat,AJ,AJ⟩
theorem Iow.at_j {B:Nat} {w:aV} {q m c:Nat} {xs:List Int} (h:Iow B w (aM (aR ⟨q,0,aS⟩) m c) xs) {j:Nat} (hj:j<m):∃ z:Int,w.cell? ⟨q,j,aS⟩=aR (aO aZ z):=by
 have hl:=h.sat.2.1;subst hl;refine⟨xs.getD j 0,?_⟩;rw[World.ownsRow.cellAt h j AJ];simp[hj]
theorem Tryz.sizeFr:(tP.info? 38).map (·.size)=aR 4:=AM
theorem Ok {fn:Func} {p q:Tmp} (h:fn.results=#[.cell p 26,.cell q 38]) (tmps:Array aX) (w:aV) (g g':Nat) (c0 c1 c2 c3 b0 b1 b2 b3:aX)
  (hp:tmps.getD p undef=aY (aR ⟨g,0,aS⟩)) (hq:tmps.getD q undef=aY (aR ⟨g',0,aS⟩)) (hg:w.heap[g]?=aR (aa #[c0,c1,c2,c3] 26 (0,0))) (hg':w.heap[g']?=aR (aa #[b0,b1,b2,b3] 38 (0,0))) :
  (results fn tmps).run tP w=.ok (.tuple #[af #[c0,c1,c2,c3],af #[b0,b1,b2,b3]]) w:=by
 have hp':tmps[p]?.getD undef=aY (aR ⟨g,0,aS⟩):=by simpa using hp
 have hq':tmps[q]?.getD undef=aY (aR ⟨g',0,aS⟩):=by simpa using hq
 have h1:=run_loadVar_row (P:=tP) w g 26 26 #[c0,c1,c2,c3] (0,0) _ hg underlying26 rfl Tryz.sizeSt;have h2:=run_loadVar_row (P:=tP) w g' 38 38 #[b0,b1,b2,b3] (0,0) _ hg' underlying38 rfl Tryz.sizeFr;simp[results,h,hp',hq',asAddr,h1,h2]
def Zp (w:aV) (e:Ending) (w':aV):Prop:=
 ∃ aD nD cD aU nU cU k aT nT cT kd,∃ fa fb:Nat,e=aQ (.tuple #[af #[aM aD nD cD,aM aU nU cU,aO aZ k,aM aT nT cT],af #[aO ai 5,aO aZ kd,aO ai fa,aO ai fb]])/\fa<4294967296/\fb<4294967296/\DY (w.heap.size+2) aD nD cD aU nU cU k aT nT cT w'/\Below w.heap.size w w'
theorem Ol (x:Option Addr) (n cap:Nat) (zs:List Int) (w:aV) (hl:zs.length=n) (hn:n<=1048576) (hz:Cb zs) (ha:At aP w x zs) :
  Calls tP 9 #[aM x n cap] w (Zp w):=by
 have b0:Below w.heap.size w ((w.alloc (aa CJ 26)).alloc (aa CI 38)):=(Cf.alloc Ch _).alloc AL _;have HN:=CY (PQ x n cap zs _ hl hn hz (ha.below b0));have h1:=heap_alloc2_old w (aa CJ 26) (aa CI 38);have h3:=heap_alloc2_new w (aa CJ 26) (aa CI 38);have HT:=CY (show zs.length=n/\n<=1048576/\Cb zs/\At aP w x zs from⟨hl,hn,hz,ha⟩);have HR:=CY (Al b0 (Al h1 h3));go_enter func9,ntmps9;go_wp2_with fail;generalize ew:(w.alloc (aa CJ 26)).alloc (aa CI 38)=w0 at *;have hs0:w0.heap.size=w.heap.size+2:=by rw[<-ew];simp
 refine HN.o.mono ?_;rintro e w1 ⟨rfl,hc1,B1,s1⟩;rw[hs0] at hc1 B1 s1 |-;have hbl:=HR.o.1.trans (B1.mono (show w.heap.size<=w.heap.size+2 by omega));have e1:w1.heap[w.heap.size]?=aR (aa CJ 26 (0,0)):=by rw[B1.block _ AJ];exact HR.o.2.1
 have e3:w1.heap[w.heap.size+1]?=aR (aa CI 38 (0,0)):=by rw[B1.block _ AJ];exact HR.o.2.2
 have HD1:=CY (show DR 38 RA w x n cap w.heap.size (w.heap.size+1) CJ CI w1 from⟨hbl,hc1,Fb.of_at HT.o.1 HT.o.2.1 HT.o.2.2.1 HT.o.2.2.2 hbl AJ,e1,e3,e1,e3,AJ,AJ,AK⟩);have HBW:=CY (KR (w.heap.size+2) x n cap _ HD1.o.cb HD1.o.ct);go_wp2_with fail;refine HBW.o.mono ?_;rintro e w2 ⟨v,rfl,aD,nD,cD,aU,nU,cU,k,aT,nT,cT,D,U,T,rfl,i1,i2,i3,pD,lD,pU,lT,hk,ap,hc,hw⟩;have hz1:w.heap.size+2+1<=w1.heap.size:=HD1.o.lt;have HD2:=CY (HD1.o.to hw.wrT hc);have HL2:=CY (show DY (w.heap.size+2) aD nD cD aU nU cU k aT nT cT w2 from⟨⟨D,U,T,Iow.mono i1 hz1,Iow.mono i2 hz1,Cj.mono i3 hz1,AJ,Ai pU.len AK,AJ⟩,hk⟩);have HNS:=CY (AS w2 (aa CJ 26));have bS:Below w2.heap.size w2 ((w2.alloc (aa CJ 26)).setRow w2.heap.size #[aM aD nD cD,aM aU nU cU,aO aZ k,aM aT nT cT]):=(Co _ _).trans ((Wr.setRow _ _ _).below Ch);have hz2:w.heap.size+2<w2.heap.size:=HD2.o.lt;have HD3:=CY ((HD2.o.to (Eo.of_below bS).wrT (HD2.o.cb.bel bS).1).swS (AB HNS.o) AJ);have HX3:=CY (HL2.o.wrG (Eo.of_below bS));have hlD:=i1.sat.2.1;have hlU:=i2.sat.2.1;have hnU:=pU.len;have HAP:=CY (Al ap (show nD<=280/\nU<=280 by omega));have HBN:=CY (show nD<=280/\nU<=280 by omega);have hU':(nU:Int)<=280:=AJ
 go_upto_region 3 with (first
  |(refine AE 26 (ah 5) (ah 13) w2.heap.size #[aM aD nD cD,aM aU nU cU,aO aZ k,aM aT nT cT] 26 HNS.o Tryz.sizeSt rfl (by simp[Value.oneCell']) ?_)
  |fail)
 generalize (w2.alloc (aa CJ 26)).setRow w2.heap.size #[aM aD nD cD,aM aU nU cU,aO aZ k,aM aT nT cT]=w3 at *;generalize w2.heap.size=S at *;have HBW:=CY (Cl (w.heap.size+2) x n cap 3 _ HD3.o.cb HD3.o.ct AK AK);go_wp2_with fail;refine HBW.o.mono ?_;rintro e w4 ⟨y,rfl,y0,y1,hc,hw⟩;have HD4:=CY (HD3.o.cur hc hw);have HX4:=CY (HX3.o.wrG hw.wrG);have HNO:=CY (AS w4 (aa CI 38));have bO:Below w4.heap.size w4 ((w4.alloc (aa CI 38)).setRow w4.heap.size #[aO ai 5,aO aZ (1+y),aO ai 0,aO ai 0]):=(Co _ _).trans ((Wr.setRow _ _ _).below Ch);have hz4:w.heap.size+2<w4.heap.size:=HD4.o.lt;have hSO:w4.heap.size≠S:=Nat.ne_of_gt (Cm HD4.o.s);have HD5:=CY ((HD4.o.to (Eo.of_below bO).wrT (HD4.o.cb.bel bO).1).swO (AB HNO.o) AJ);have HX5:=CY (HX4.o.wrG (Eo.of_below bO))
 go_upto_region 4 with (first
  |(refine AE 38 (ah 6) (ah 17) w4.heap.size #[aO ai 5,aO aZ (1+y),aO ai 0,aO ai 0] 38 HNO.o Tryz.sizeFr rfl (by simp[Value.oneCell']) ?_)
  |fail)
 generalize (w4.alloc (aa CI 38)).setRow w4.heap.size #[aO ai 5,aO aZ (1+y),aO ai 0,aO ai 0]=w5 at *;generalize w4.heap.size=O at *;have HSO:=CY (show w.heap.size+1<O/\O≠S by omega);have HSO2:=CY (show w.heap.size+1<S/\w.heap.size+1<O by omega);have HBW:=CY (Cl (w.heap.size+2) x n cap 60 _ HD5.o.cb HD5.o.ct AK AK);go_wp2_with fail;refine HBW.o.mono ?_;rintro e w6 ⟨ya,rfl,ya0,ya1,hc,hw⟩;have HD6:=CY (HD5.o.cur hc hw);have HX6:=CY (HX5.o.wrG hw.wrG);have HBW:=CY (Cl (w.heap.size+2) x n cap 2 _ HD6.o.cb HD6.o.ct AK AK);go_wp2_with fail;refine HBW.o.mono ?_;rintro e w7 ⟨yb,rfl,yb0,yb1,hc,hw⟩;have HD7:=CY (HD6.o.cur hc hw);have HX7:=CY (HX6.o.wrG hw.wrG);obtain⟨ga,rfl⟩:=Ab ya0;obtain⟨gb,rfl⟩:=Ab yb0;have o2:w7.cell? ⟨O,2,aS⟩=aR (aO ai 0):=AA HD7.o.o _;have f2:=An _ _ 2 _ _ HD7.o.o;have HD8:=CY (HD7.o.putO HSO.o ((Wr.refl _ _).setCell 2 (aO ai ga)) (Ao _ _ _ _ _ _ HD7.o.o));have HX8:=CY (HX7.o.typ HD7.o.o AK AK ((Wr.refl _ _).setCell 2 (aO ai ga)))
 go_upto_region 7 with fail
 generalize w7.setCell ⟨O,2,aS⟩ (aO ai ga)=w8 at *;have o3:w8.cell? ⟨O,3,aS⟩=aR (aO ai 0):=AA HD8.o.o _;have f3:=An _ _ 3 _ _ HD8.o.o;have HD9:=CY (HD8.o.putO HSO.o ((Wr.refl _ _).setCell 3 (aO ai gb)) (Ao _ _ _ _ _ _ HD8.o.o));have HX9:=CY (HX8.o.typ HD8.o.o AK AK ((Wr.refl _ _).setCell 3 (aO ai gb)))
 go_upto_region 8 with fail
 generalize w8.setCell ⟨O,3,aS⟩ (aO ai gb)=w9 at *;have o1:w9.cell? ⟨O,1,aS⟩=aR (aO aZ (1+y)):=AA HD9.o.o _
 go_upto_if 30 with fail
 try dsimp only[Act.put]
 go_cut [] from 10 (λww=>∃(kd:Int) (fa fb:Nat),fa<4294967296/\fb<4294967296/\DR 38 RA w x n cap S O #[aM aD nD cD,aM aU nU cU,aO aZ k,aM aT nT cT] #[aO ai 5,aO aZ kd,aO ai fa,aO ai fb] ww/\DY (w.heap.size+2) aD nD cD aU nU cU k aT nT cT ww)
 case first=>
  by_cases h3:1+y=3
  ·have h3':(1+y == 3)=true:=by simp[h3]
   have o3:w9.cell? ⟨O,3,aS⟩=aR (aO ai gb):=AA HD9.o.o _;have f3:=An _ _ 3 _ _ HD9.o.o;have HDa:=CY (HD9.o.putO HSO.o ((Wr.refl _ _).setCell 3 (aO ai 0)) (Ao _ _ _ _ _ _ HD9.o.o));have HXa:=CY (HX9.o.typ HD9.o.o AK AK ((Wr.refl _ _).setCell 3 (aO ai 0)))
   go_upto_region 10 with fail
   generalize w9.setCell ⟨O,3,aS⟩ (aO ai 0)=wa at *;have s1:wa.cell? ⟨S,1,aS⟩=aR (aM aU nU cU):=AA HDa.o.s _;have HBW:=CY (Cl (w.heap.size+2) x n cap (nU+2) _ HDa.o.cb HDa.o.ct AJ AJ);go_wp2_with fail;refine HBW.o.mono ?_;rintro e wb ⟨yc,rfl,yc0,yc1,hc,hw⟩;have HDb:=CY (HDa.o.cur hc hw);have HXb:=CY (HXa.o.wrG hw.wrG);obtain⟨fc,rfl⟩:=Ab yc0;have o2:wb.cell? ⟨O,2,aS⟩=aR (aO ai ga):=AA HDb.o.o _;have f2:=An _ _ 2 _ _ HDb.o.o;have HDc:=CY (HDb.o.putO HSO.o ((Wr.refl _ _).setCell 2 (aO ai fc)) (Ao _ _ _ _ _ _ HDb.o.o));have HXc:=CY (HXb.o.typ HDb.o.o AK AK ((Wr.refl _ _).setCell 2 (aO ai fc)));go_wp2
   go_meet
   case rel=>exact⟨_,fc,0,AJ,AJ,HDc.o,HXc.o⟩
  ·have h3':(1+y == 3)=false:=by simp[h3]
   go_wp2
   go_meet
   case rel=>exact⟨_,ga,gb,AJ,AJ,HD9.o,HX9.o⟩
 case rest=>
  obtain⟨kd,fa,fb,ha,hb,hd,hx⟩:=hcut;have HD:=CY hd;have HX:=CY hx;have HFB:=CY (Al ha hb)
  go_upto_region 11 with fail
  go_cut [52] from 10 (λv ww=>∃ b:Bool,v=ae b/\(b=true->0<nD)/\DR 38 RA w x n cap S O #[aM aD nD cD,aM aU nU cU,aO aZ k,aM aT nT cT] #[aO ai 5,aO aZ kd,aO ai fa,aO ai fb] ww/\DY (w.heap.size+2) aD nD cD aU nU cU k aT nT cT ww)
  case first=>
   have o1:_=aR (aO aZ kd):=AA HD.o.o 1;have s0:_=aR (aM aD nD cD):=AA HD.o.s 0;have HBW:=CY (EN (w.heap.size+2) x n cap 2 _ HD.o.cb HD.o.ct AK AK);by_cases h2:kd=2
   ·have e2:(kd == 2)=true:=by simp[h2]
    by_cases hD:0<nD
    ·have hD':0<(nD:Int):=AJ
     go_wp2_with fail;refine HBW.o.mono ?_;rintro e w9 ⟨bo,rfl,hc,hw⟩;have HF:=CY (HD.o.cur hc hw);have HXF:=CY (HX.o.wrG hw.wrG);go_wp2
     go_meet
     case rel=>exact⟨bo,rfl,λ_=>hD,HF.o,HXF.o⟩
    ·have hD':¬ 0<(nD:Int):=AJ
     go_wp2
     go_meet
     case rel=>exact⟨false,rfl,AL,HD.o,HX.o⟩
   ·have e2:(kd == 2)=false:=by simp[h2]
    go_wp2
    go_meet
    case rel=>exact⟨false,rfl,AL,HD.o,HX.o⟩
  case rest=>
   obtain⟨b,rfl,hb,hd,hx⟩:=hcut;have HD':=CY hd;have HX':=CY hx
   go_upto_if 52 with fail
   try dsimp only[Act.put]
   go_cut [] from 10 (λww=>∃(kd:Int) (fa fb:Nat),fa<4294967296/\fb<4294967296/\DR 38 RA w x n cap S O #[aM aD nD cD,aM aU nU cU,aO aZ k,aM aT nT cT] #[aO ai 5,aO aZ kd,aO ai fa,aO ai fb] ww/\DY (w.heap.size+2) aD nD cD aU nU cU k aT nT cT ww)
   case first=>
    cases b with
    |false=>
     go_wp2
     go_meet
     case rel=>exact⟨_,_,_,HFB.o.1,HFB.o.2,HD'.o,HX'.o⟩
    |true=>
     have hnD:=hb rfl;have hnD':0<(nD:Int):=AJ
     obtain⟨⟨D',U',T',hl⟩,_⟩:=HX'.o;obtain⟨qd,z,rfl,cz⟩:=hl.d.hd hnD
     go_upto_region 12 with fail
     refine Ag AM ?_;refine Cg (λ_ _ _=>True) (frame:=(λ(a b c d e f g h i j k l m n o p q r s u v w x y z A B C D E F G H I J K L M N O P Q R S T U V W X Y Z a0 a1 a2 a3 a4 a5 a6 a7 a8 a9 b0 b1 b2 b3 b4 b5 b6 b7 b8 b9 c0 c1 c2 c3 c4:aX)=>λ(t:Nat->aX)=>({ tmps:=List.toArray [a,b,c,d,e,f,g,h,i,j,k,l,m,n,o,p,q,r,s,u,v,w,x,y,z,A,B,C,D,E,F,G,H,I,J,K,L,M,N,O,P,Q,R,S,T,U,V,W,X,Y,Z,a0,a1,t 0,t 1,t 2,t 3,t 4,t 5,t 6,t 7,t 8,t 9,t 10,a2,a3,a4,a5,a6,a7,a8,a9,b0,b1,b2,b3,b4,b5,b6,b7,b8,b9,c0,c1,c2,c3,c4],defers:=[] }:Act)) _ _ _ _ _ _ _ _ _ _ _ _ _ _ _ _ _ _ _ _ _ _ _ _ _ _ _ _ _ _ _ _ _ _ _ _ _ _ _ _ _ _ _ _ _ _ _ _ _ _ _ _ _ _ _ _ _ _ _ _ _ _ _ _ _ _ _ _ _ _ _ _ _ _ _ _)
      (Ext:=λL u w'=>((L 7=true->L 6=true)/\(L 8=true->L 7=true)/\(L 9=true->L 8=true)/\(L 11=true->L 9=true))/\(if L 11=true then(∃(kd:Int) (fa fb:Nat),fa<4294967296/\fb<4294967296/\DR 38 RA w x n cap S O #[aM (aR ⟨qd,0,aS⟩) nD cD,aM aU nU cU,aO aZ k,aM aT nT cT] #[aO ai 5,aO aZ kd,aO ai fa,aO ai fb] w'/\DY (w.heap.size+2) (aR ⟨qd,0,aS⟩) nD cD aU nU cU k aT nT cT w') else(DR 38 RA w x n cap S O #[aM (aR ⟨qd,0,aS⟩) nD cD,aM aU nU cU,aO aZ k,aM aT nT cT] #[aO ai 5,aO aZ kd,aO ai fa,aO ai fb] w'/\DY (w.heap.size+2) (aR ⟨qd,0,aS⟩) nD cD aU nU cU k aT nT cT w'))) (Good:=λi L w' v=>if i=0 then v=aY (aR ⟨S,0,aS⟩) else if i=1 then v=aM (aR ⟨qd,0,aS⟩) nD cD else if i=2 then v=aY (aR ⟨w.heap.size+2,0,aS⟩) else if i=3 then v=aY (aR ⟨S,0,aS⟩) else if i=4 then v=aM (aR ⟨qd,0,aS⟩) nD cD else if i=5 then v=aO aZ nD else if i=6 then ∃ j:Nat,v=aO aZ j/\j<nD else if i=7 then ∃ j:Nat,v=aY (aR ⟨qd,j,aS⟩)/\j<nD else if i=8 then ∃ z:Int,v=aO aZ z else if i=9 then ∃ z:Nat,v=aO ai z/\z<4294967296 else if i=10 then v=aY (aR ⟨O,2,aS⟩) else if i=11 then L 11=true else True) ?hstab AM ?hop ?hdone _ _ ((λ(x0 x1 x2 x3 x4 x5 x6 x7 x8 x9 x10:aX)=>λ(i:Nat)=>if i=0 then x0 else if i=1 then x1 else if i=2 then x2 else if i=3 then x3 else if i=4 then x4 else if i=5 then x5 else if i=6 then x6 else if i=7 then x7 else if i=8 then x8 else if i=9 then x9 else if i=10 then x10 else undef) _ _ _ _ _ _ _ _ _ _ _) _ AL ?ext ?start AL
     case start=>intro i hi h;exact absurd h Ef
     case ext=>exact⟨⟨AL,AL,AL,AL⟩,by simp;exact⟨HD'.o.to (Eo.of_below (Cf.drew)).wrT (HD'.o.cb.bel (Cf.drew)).1,HX'.o.wrG (Eo.of_below (Cf.drew))⟩⟩
     case hstab=>
      intro j L w9 w' i v hM hij hLi h;by_cases h11:j=11
      ·subst h11;simp at h |-;unfold CZ;split<;>simp[h]
      simp only[if_neg h11] at h |-;exact h
     case hop=>
      intro i o L t w' ho hLi hx hdep K hK;have hi:i<12:=(AR.1 ho).1;have hD:∃ co,DR 38 RA w x n cap S O #[aM (aR ⟨qd,0,aS⟩) nD cD,aM aU nU cU,aO aZ k,aM aT nT cT] co w'/\DY (w.heap.size+2) (aR ⟨qd,0,aS⟩) nD cD aU nU cU k aT nT cT w':=by
       have h:=hx.2;by_cases h11:L 11=true
       {rw[AP h11] at h;obtain⟨_,_,_,_,_,h⟩:=h;exact⟨_,h⟩};{rw[AQ h11] at h;exact⟨_,h⟩}
      obtain⟨co,hD,hY⟩:=hD;have s0:w'.cell? ⟨S,0,aS⟩=aR (aM (aR ⟨qd,0,aS⟩) nD cD):=AA hD.s _;obtain rfl|rfl|rfl|rfl|rfl|rfl|rfl|rfl|rfl|rfl|rfl|rfl:i=0\/i=1\/i=2\/i=3\/i=4\/i=5\/i=6\/i=7\/i=8\/i=9\/i=10\/i=11:=AJ
      all_goals(simp at ho;subst ho)
      all_goals try(have hK':=hK w' _ rfl ⟨by simpa[CZ] using hx.1,by simpa[CZ] using hx.2⟩ trivial;simp[Region.binds] at hdep;rw[AP AN];go_simp;simpa[Ca,hdep,s0] using hK';done)
      ·have d2:t 2=aY (aR ⟨w.heap.size+2,0,aS⟩):=by simpa using(hdep ⟨2,ag⟩ AL rfl).2
       have d5:t 5=aO aZ nD:=by simpa using(hdep ⟨5,ag⟩ AL rfl).2
       have h7:¬ L 7=true:=λh=>by rw[hx.1.1 h] at hLi;cases hLi
       have h8:¬ L 8=true:=λh=>h7 (hx.1.2.1 h)
       have h9:¬ L 9=true:=λh=>h8 (hx.1.2.2.1 h)
       have h11:¬ L 11=true:=λh=>h9 (hx.1.2.2.2 h)
       have hf:=hx.2;rw[AQ h11] at hf;have A:=Cl (w.heap.size+2) x n cap nD w' hf.1.cb hf.1.ct AJ (AG HBN.o);have hK':∀ ww (y:Nat),y<nD->Dc ww (w.heap.size+2) x n cap->Wr (w.heap.size+2) w' ww->K _ ww:=λww y hy hc hw=>hK ww (aO aZ y) (by simp;exact⟨y,rfl,hy⟩) ⟨by simp[CZ,h7,h8,h9,h11],by simp only[CZ];simp[h11];exact⟨hf.1.cur hc hw,hf.2.wrG hw.wrG⟩⟩ trivial
       rw[AP AN];go_simp;try simp only[d2,d5]
       refine A.mono ?_;rintro e w9 ⟨y,rfl,hy0,hy1,hc,hw⟩;obtain⟨y,rfl⟩:=Ab hy0;have hK2:=hK' w9 y AJ hc hw;go_simp;simpa[Ca,d2,d5] using hK2
      ·have d1:t 1=aM (aR ⟨qd,0,aS⟩) nD cD:=by simpa using(hdep ⟨1,ag⟩ AL rfl).2
       have l6:=(hdep ⟨6,ag⟩ AL rfl).1;obtain⟨j,d6,hj⟩:∃ j:Nat,t 6=aO aZ j/\j<nD:=by simpa using(hdep ⟨6,ag⟩ AL rfl).2
       have hj':(j:Int)<nD:=AJ
       have hK':=hK w' (aY (aR ⟨qd,j,aS⟩)) (by simp;exact hj) ⟨⟨by simp[CZ,l6],by simp[CZ],by simpa[CZ] using hx.1.2.2.1,by simpa[CZ] using hx.1.2.2.2⟩,by simpa[CZ] using hx.2⟩ trivial;rw[AP AN];go_simp;simpa[Ca,d1,d6,hj] using hK'
      ·have l7:=(hdep ⟨7,ag⟩ AL rfl).1;obtain⟨j,d7,hj⟩:∃ j:Nat,t 7=aY (aR ⟨qd,j,aS⟩)/\j<nD:=by simpa using(hdep ⟨7,ag⟩ AL rfl).2
       obtain⟨z,cz⟩:∃ z:Int,w'.cell? ⟨qd,j,aS⟩=aR (aO aZ z):=by
        obtain⟨⟨D',U',T',hl⟩,_⟩:=hY;exact hl.d.at_j hj
       have hK':=hK w' (aO aZ z) AL ⟨⟨by simpa[CZ] using hx.1.1,by simp[CZ,l7],by simp[CZ],by simpa[CZ] using hx.1.2.2.2⟩,by simpa[CZ] using hx.2⟩ trivial;rw[AP AN];go_simp;simpa[Ca,d7,cz] using hK'
      ·have l8:=(hdep ⟨8,ag⟩ AL rfl).1;obtain⟨z,d8⟩:∃ z:Int,t 8=aO aZ z:=by simpa using(hdep ⟨8,ag⟩ AL rfl).2
       obtain⟨z',ez,hz⟩:=Yq z;have hK':=hK w' (aO ai z') (by simp;exact⟨z',rfl,hz⟩) ⟨⟨by simpa[CZ] using hx.1.1,by simpa[CZ] using hx.1.2.1,by simp[CZ,l8],by simp[CZ]⟩,by simpa[CZ] using hx.2⟩ trivial;rw[AP AN];go_simp;simpa[Ca,d8,ez] using hK'
      ·have d10:t 10=aY (aR ⟨O,2,aS⟩):=by simpa using(hdep ⟨10,ag⟩ AL rfl).2
       have l9:=(hdep ⟨9,ag⟩ AL rfl).1;obtain⟨z,d9,hz⟩:∃ z:Nat,t 9=aO ai z/\z<4294967296:=by simpa using(hdep ⟨9,ag⟩ AL rfl).2
       have hf:=hx.2;rw[hLi,AQ AK] at hf;have o2:w'.cell? ⟨O,2,aS⟩=aR (aO ai fa):=AA hf.1.o _;have f2:w'.frozen? ⟨O,2,aS⟩=false:=An _ _ _ _ _ hf.1.o;have hwO:Wr O w' (w'.setCell ⟨O,2,aS⟩ (aO ai z)):=(Wr.refl _ _).setCell _ _;have hK':=hK (w'.setCell ⟨O,2,aS⟩ (aO ai z)) undef (by simp[CZ]) ⟨⟨by simpa[CZ] using hx.1.1,by simpa[CZ] using hx.1.2.1,by simpa[CZ] using hx.1.2.2.1,by simp[CZ,l9]⟩,by
        have e:CZ L 11 11=true:=by simp[CZ]
        rw[AP e];exact⟨_,z,_,hz,HFB.o.2,hf.1.putO HSO.o hwO (Ao _ _ _ _ _ _ hf.1.o),hf.2.typ hf.1.o AK AK hwO⟩⟩ trivial
       rw[AP AN];go_simp;simpa[Ca,d9,d10,Act.put] using hK'
     case hdone=>
      intro L t w' hx hg;have h11:L 11=true:=by simpa using hg 11 AK
      have hf:=hx.2;rw[AP h11] at hf;have HF:=CY hf;go_wp2
      go_meet
      case rel=>exact HF.o
   case rest=>
    obtain⟨kd,fa,fb,ha,hb,hd,hx⟩:=hcut;have HD:=CY hd;have HX:=CY hx;have HFB:=CY (Al ha hb);have HBW:=CY (Cl (w.heap.size+2) x n cap 12 _ HD.o.cb HD.o.ct AK AK);go_wp2_with fail;refine HBW.o.mono ?_;rintro e wk ⟨kz,rfl,kz0,kz1,hc,hw⟩;have HD':=CY (HD.o.cur hc hw);have HX':=CY (HX.o.wrG hw.wrG);have HD:=HD';have HX:=HX'
    go_upto_if 67 with fail
    try dsimp only[Act.put]
    go_cut [] from 10 (λww=>∃(kd:Int) (fa fb:Nat),fa<4294967296/\fb<4294967296/\DR 38 RA w x n cap S O #[aM aD nD cD,aM aU nU cU,aO aZ k,aM aT nT cT] #[aO ai 5,aO aZ kd,aO ai fa,aO ai fb] ww/\DY (w.heap.size+2) aD nD cD aU nU cU k aT nT cT ww)
    case first=>
     by_cases hk:kz=0
     ·have hk':(kz == 0)=true:=by simp[hk]
      have o2:_=aR (aO ai fa):=AA HD.o.o 2;have f2:=An _ _ 2 _ _ HD.o.o;have HF:=CY (HD.o.putO HSO.o ((Wr.refl _ _).setCell 2 (aO ai ((256+ga:Nat):Int))) (Ao _ _ _ _ _ _ HD.o.o));have HXF:=CY (HX.o.typ HD.o.o AK AK ((Wr.refl _ _).setCell 2 (aO ai ((256+ga:Nat):Int))));go_wp2
      go_meet
      case rel=>exact⟨_,256+ga,_,AJ,HFB.o.2,HF.o,HXF.o⟩
     ·have hk':(kz == 0)=false:=by simp[hk]
      go_wp2
      go_meet
      case rel=>exact⟨_,_,_,HFB.o.1,HFB.o.2,HD.o,HX.o⟩
    case rest=>
     obtain⟨kd,fa,fb,ha,hb,hd,hx⟩:=hcut;have HD:=CY hd;have HX:=CY hx;have HFB:=CY (Al ha hb)
     go_upto_if 73 with fail
     try dsimp only[Act.put]
     go_cut [] from 10 (λww=>∃(kd:Int) (fa fb:Nat),fa<4294967296/\fb<4294967296/\DR 38 RA w x n cap S O #[aM aD nD cD,aM aU nU cU,aO aZ k,aM aT nT cT] #[aO ai 5,aO aZ kd,aO ai fa,aO ai fb] ww/\DY (w.heap.size+2) aD nD cD aU nU cU k aT nT cT ww)
     case first=>
      by_cases hk:kz=1
      ·have hk':(kz == 1)=true:=by simp[hk]
       have o3:_=aR (aO ai fb):=AA HD.o.o 3;have f3:=An _ _ 3 _ _ HD.o.o;have HF:=CY (HD.o.putO HSO.o ((Wr.refl _ _).setCell 3 (aO ai 2)) (Ao _ _ _ _ _ _ HD.o.o));have HXF:=CY (HX.o.typ HD.o.o AK AK ((Wr.refl _ _).setCell 3 (aO ai 2)));go_wp2
       go_meet
       case rel=>exact⟨_,_,2,HFB.o.1,AK,HF.o,HXF.o⟩
      ·have hk':(kz == 1)=false:=by simp[hk]
       go_wp2
       go_meet
       case rel=>exact⟨_,_,_,HFB.o.1,HFB.o.2,HD.o,HX.o⟩
     case rest=>
      obtain⟨kd,fa,fb,ha,hb,hd,hx⟩:=hcut;have HD:=CY hd;have HX:=CY hx;have HFB:=CY (Al ha hb)
      go_upto_if 76 with fail
      try dsimp only[Act.put]
      go_cut [] from 10 (λww=>∃(kd:Int) (fa fb:Nat),fa<4294967296/\fb<4294967296/\DR 38 RA w x n cap S O #[aM aD nD cD,aM aU nU cU,aO aZ k,aM aT nT cT] #[aO ai 5,aO aZ kd,aO ai fa,aO ai fb] ww/\DY (w.heap.size+2) aD nD cD aU nU cU k aT nT cT ww)
      case first=>
       by_cases hk:kz=2
       ·have hk':(kz == 2)=true:=by simp[hk]
        have o1:_=aR (aO aZ kd):=AA HD.o.o 1;have f1:=An _ _ 1 _ _ HD.o.o;have HF:=CY (HD.o.putO HSO.o ((Wr.refl _ _).setCell 1 (aO aZ (4*gb))) (Ao _ _ _ _ _ _ HD.o.o));have HXF:=CY (HX.o.typ HD.o.o AK AK ((Wr.refl _ _).setCell 1 (aO aZ (4*gb))));go_wp2
        go_meet
        case rel=>exact⟨_,_,_,HFB.o.1,HFB.o.2,HF.o,HXF.o⟩
       ·have hk':(kz == 2)=false:=by simp[hk]
        go_wp2
        go_meet
        case rel=>exact⟨_,_,_,HFB.o.1,HFB.o.2,HD.o,HX.o⟩
      case rest=>
       obtain⟨kd,fa,fb,ha,hb,hd,hx⟩:=hcut;have HD:=CY hd;have HX:=CY hx;have HFB:=CY (Al ha hb)
       go_upto_if 81 with fail
       try dsimp only[Act.put]
       go_cut [] from 10 (λww=>∃ aD nD cD aU nU cU k aT nT cT,DR 38 RA w x n cap S O #[aM aD nD cD,aM aU nU cU,aO aZ k,aM aT nT cT] #[aO ai 5,aO aZ kd,aO ai fa,aO ai fb] ww/\DY (w.heap.size+2) aD nD cD aU nU cU k aT nT cT ww)
       case first=>
        by_cases hk:kz=3
        ·have hk':(kz == 3)=true:=by simp[hk]
         clear hk;obtain⟨⟨D',U',T',hl⟩,hk9⟩:=HX.o;have hlD:=hl.d.sat.2.1;have hlU:=hl.u.sat.2.1;have hbd:=HAP.o.2;have HBW:=CY (JW (w.heap.size+2) x n cap aD aU aT nD cD nU cU nT cT D' U' T' k _ HD.o.cb HD.o.ct hl AJ HAP.o.1 hk9);clear hl hlD hlU hbd hk9;go_wp2_with (first
          |(refine AZ rfl 26 (ah 5) rfl S rfl 26 _ (0,0) _ HD.o.s underlying26 rfl Tryz.sizeSt ?_)
          |fail)
         refine HBW.o.mono ?_;rintro e wq ⟨v,rfl,⟨bD,mD,dD,bU,mU,dU,kk,bT,mT,dT,D9,U9,T9,rfl,hl9,hk9⟩,hc,hw⟩;have HDq:=CY (HD.o.to hw hc);have HXq:=CY (show DY (w.heap.size+2) bD mD dD bU mU dU kk bT mT dT wq from⟨⟨_,_,_,hl9⟩,hk9⟩);have hwS:=Wr.setRow S wq #[aM bD mD dD,aM bU mU dU,aO aZ kk,aM bT mT dT];have HF:=CY (HDq.o.putS AJ hwS (AB HDq.o.s));have HXF:=CY (HXq.o.typ HDq.o.s AK AK hwS);clear HBW hl9 hk9 hc hw hwS HXq HD HX;go_wp2_with (first
          |(refine AE 26 (ah 5) (ah 84) S #[aM bD mD dD,aM bU mU dU,aO aZ kk,aM bT mT dT] 26 HDq.o.s Tryz.sizeSt rfl (by simp[Value.oneCell']) ?_)
          |fail)
         go_meet
         case rel=>exact⟨_,_,_,_,_,_,_,_,_,_,HF.o,HXF.o⟩
        ·have hk':(kz == 3)=false:=by simp[hk]
         go_wp2
         go_meet
         case rel=>exact⟨_,_,_,_,_,_,_,_,_,_,HD.o,HX.o⟩
       case rest=>
        obtain⟨aD,nD,cD,aU,nU,cU,k,aT,nT,cT,hd,hx⟩:=hcut;have HD:=CY hd;have HX:=CY hx
        go_upto_region 22 with fail
        refine Ag AM ?_;refine Ej (λ_ _ _=>True) (frame:=(λ(a b c d e f g h i j k l m n o p q r s u v w x y z A B C D E F G H I J K L M N O P Q R S T U V W X Y Z a0 a1 a2 a3 a4 a5 a6 a7 a8 a9 b0 b1 b2 b3 b4 b5 b6 b7 b8 b9 c0 c1 c2 c3 c4 c5 c6 c7 c8 c9 d0 d1 d2 d3:aX)=>λ(t:Nat->aX)=>({ tmps:=List.toArray [a,b,c,d,e,f,g,h,i,j,k,l,m,n,o,p,q,r,s,u,v,w,x,y,z,A,B,C,D,E,F,G,H,I,J,K,L,M,N,O,P,Q,R,S,T,U,V,W,X,Y,Z,a0,a1,a2,a3,a4,a5,a6,a7,a8,a9,b0,b1,b2,b3,b4,b5,b6,b7,b8,b9,c0,c1,c2,c3,c4,c5,c6,c7,c8,c9,d0,d1,d2,d3,t 0,t 1],defers:=[] }:Act)) _ _ _ _ _ _ _ _ _ _ _ _ _ _ _ _ _ _ _ _ _ _ _ _ _ _ _ _ _ _ _ _ _ _ _ _ _ _ _ _ _ _ _ _ _ _ _ _ _ _ _ _ _ _ _ _ _ _ _ _ _ _ _ _ _ _ _ _ _ _ _ _ _ _ _ _ _ _ _ _ _ _ _ _ _)
         (Ext:=λL u w'=>ZR 38 RA w S O #[aM aD nD cD,aM aU nU cU,aO aZ k,aM aT nT cT] #[aO ai 5,aO aZ kd,aO ai fa,aO ai fb] (L 2) (L 3) w'/\DY (w.heap.size+2) aD nD cD aU nU cU k aT nT cT w') (Good:=λi L w' v=>if i=0 then v=af #[aM aD nD cD,aM aU nU cU,aO aZ k,aM aT nT cT] else if i=1 then v=af #[aO ai 5,aO aZ kd,aO ai fa,aO ai fb] else if i=2 then L 2=true else if i=3 then L 3=true else True) ?hstab AM ?hop ?hdone _ _ ((λ(x0 x1:aX)=>λ(i:Nat)=>if i=0 then x0 else if i=1 then x1 else undef) _ _) _ AL ?ext ?start AL
        case start=>intro i hi h;exact absurd h Ef
        case ext=>exact⟨⟨HD.o.bel.trans ((Cf.drew).mono HD.o.bel.size),HD.o.s,HD.o.o,HD.o.r1,HD.o.r3⟩,HX.o.wrG (Eo.of_below (Cf.drew))⟩
        case hstab=>
         intro j L w9 w' i v hM hij hLi h;by_cases h3:j=2
         ·subst h3;simp at h |-;unfold CZ;split<;>simp[h]
         by_cases h5:j=3
         ·subst h5;simp at h |-;unfold CZ;split<;>simp[h]
         simp only[if_neg h3,if_neg h5] at h |-;exact h
        case hop=>
         intro i o L t w' ho hLi hx hdep K hK;have hi:i<4:=(AR.1 ho).1;obtain rfl|rfl|rfl|rfl:i=0\/i=1\/i=2\/i=3:=AJ
         all_goals(simp at ho;subst ho)
         all_goals try(have hK':=hK w' _ rfl (by simpa[CZ] using hx) trivial;simp[Region.binds] at hdep;rw[AP AN];go_simp;simpa[Ca,hdep] using hK';done)
         {clear hdep;have hK':=hK w' (af #[aM aD nD cD,aM aU nU cU,aO aZ k,aM aT nT cT]) AL (by simpa[CZ] using hx) trivial;rw[AP AN];refine Bp 26 (ah 5) rfl S rfl 26 _ (0,0) _ hx.1.s underlying26 rfl Tryz.sizeSt ?_;simpa[Ca,Act.put] using hK'};{clear hdep;have hK':=hK w' (af #[aO ai 5,aO aZ kd,aO ai fa,aO ai fb]) AL (by simpa[CZ] using hx) trivial;rw[AP AN];refine Bp 38 (ah 6) rfl O rfl 38 _ (0,0) _ hx.1.o underlying38 rfl Tryz.sizeFr ?_;simpa[Ca,Act.put] using hK'}
         ·have d0:t 0=af #[aM aD nD cD,aM aU nU cU,aO aZ k,aM aT nT cT]:=by simpa using(hdep ⟨0,ag⟩ AL rfl).2
          obtain⟨hz,hX⟩:=hx;rw[hLi] at hz;have hK':=hK (w'.setRow w.heap.size #[aM aD nD cD,aM aU nU cU,aO aZ k,aM aT nT cT]) undef (by simp[CZ]) (by
           simp only[CZ];simp;exact⟨hz.one HSO2.o,hX.typ hz.r1 AK AK (Wr.setRow _ _ _)⟩) trivial
          rw[AP AN];refine Be 26 (ah 2) (ah 85) rfl w.heap.size #[aM aD nD cD,aM aU nU cU,aO aZ k,aM aT nT cT] rfl d0 26 _ hz.r1 Tryz.sizeSt rfl (by simp[Value.oneCell']) ?_;simpa[Ca,Act.put] using hK'
         ·have d1:t 1=af #[aO ai 5,aO aZ kd,aO ai fa,aO ai fb]:=by simpa using(hdep ⟨1,ag⟩ AL rfl).2
          obtain⟨hz,hX⟩:=hx;rw[hLi] at hz;have hK':=hK (w'.setRow (w.heap.size+1) #[aO ai 5,aO aZ kd,aO ai fa,aO ai fb]) undef (by simp[CZ]) (by
           simp only[CZ];simp;exact⟨hz.two HSO2.o,hX.typ hz.r3 AK AK (Wr.setRow _ _ _)⟩) trivial
          rw[AP AN];refine Be 38 (ah 3) (ah 86) rfl (w.heap.size+1) #[aO ai 5,aO aZ kd,aO ai fa,aO ai fb] rfl d1 38 _ hz.r3 Tryz.sizeFr rfl (by simp[Value.oneCell']) ?_;simpa[Ca,Act.put] using hK'
        case hdone=>
         intro L t w' hx hg;have h3:L 2=true:=by simpa using hg 2 AK
         have h5:L 3=true:=by simpa using hg 3 AK
         rw[h3,h5] at hx;have HF:=CY hx;go_wp2_with fail
         (try simp only[Exit.inBlock,Exit.then])
         exact AU (Ok rfl _ _ w.heap.size (w.heap.size+1) _ _ _ _ _ _ _ _ rfl rfl HF.o.1.r1 HF.o.1.r3) rfl ⟨_,_,_,_,_,_,_,_,_,_,_,_,_,rfl,HFB.o.1,HFB.o.2,HF.o.2,HF.o.1.bel⟩
theorem Vd {H B g:Nat} {w:aV} {d u:List Int} {v:aX} {D U:List Int} {k:Int} {T:List Int} {n:Nat} (h:NJ H B g w d u v D U k T n) (bp op cp:Nat) (ks:List Int) (ta:Option Addr) (tn tc:Nat) (tk:List Int) (kind now N:Int)
  (hk:ks.length=32) (hp:FK w bp op ks) (zk:Cb ks) (ht:tk.length=tn) (mt:tn<=1048576) (hct:tn<=tc) (hat:At aP w ta tk) (zt:Cb tk) (hT:EF w) (hV:1<w.heap.size) :
  Calls tP 74 #[aY (aR ⟨g,0,aS⟩),aM (aR ⟨bp,op,aS⟩) 32 cp,af #[aO aZ kind,aM ta tn tc,aO aZ now,aO aZ N]] w λe w'=>∃ x y,e=aQ (.tuple #[x,y])/\Below w.heap.size w w'/\((Db D U ks tk now=1/\x=aO aZ (E6 tk)/\y=.nilIface)\/(¬ Db D U ks tk now=1/\y=.iface 128 (aO aZ (Db D U ks tk now)))):=by
 have HKw0:=CX h;have HA:AO (∀ wz,Below w.heap.size w wz->At aP wz ta tk/\FK wz bp op ks/\EF wz):=λwz h=>⟨hat.below h,hp.below h,Fk hT hV h⟩
 have HL:AO (tk.length=tn/\ks.length=32/\Cb ks/\Cb tk):=⟨ht,hk,zk,zt⟩
 have HV1:=CY <| hV
 have HTB:AO (Jp tk=true->tk.length=72):=λh=>by
  unfold Jp at h;simp at h;exact h.1
 have HNN:=CY <| TM zt
 have HSZ:AO ((tP.info? 86).map (·.size)=aR 3):=by show _=_;kernel_rfl
 have HCB:AO (now<0\/4294967295<now->Db D U ks tk now=10):=NB;have HCI:AO (0<=now->now<=4294967295->Db D U ks tk now=if Jp tk=false then 2 else if 256<=E6 tk then 3 else if FN tk<now then 4 else if Df (E6 tk) D=true then 5 else if Df (E6 tk) U=true then 6 else if Hu ks (tk.take 8) (tk.drop 8)=true then 1 else 7):=Pm;have HBA:AO (Below w.heap.size w (w.alloc (aa #[aO aZ kind,aM ta tn tc,aO aZ now,aO aZ N] 28))):=Cf.alloc Ch _;have HR0:AO ((w.alloc (aa #[aO aZ kind,aM ta tn tc,aO aZ now,aO aZ N] 28)).heap[w.heap.size]?=aR (aa #[aO aZ kind,aM ta tn tc,aO aZ now,aO aZ N] 28 (0,0))):=AS w _;go_enter func74,ntmps74
 go_upto_region 1 with fail
 generalize w.alloc (aa #[aO aZ kind,aM ta tn tc,aO aZ now,aO aZ N] 28)=w0 at *;have o1:w0.cell? ⟨w.heap.size,1,aS⟩=aR (aM ta tn tc):=by rw[AA HR0.o 1];rfl
 have o2:w0.cell? ⟨w.heap.size,2,aS⟩=aR (aO aZ now):=by rw[AA HR0.o 2];rfl
 go_wp2_with fail;refine(Kw _ _).mono ?_;rintro e w9 ⟨rfl,e9⟩;obtain rfl:w0=w9:=e9.symm;by_cases hn:0<=now/\now<=4294967295
 case neg=>
  have HNO:AO (JI now=false):=Ac hn;have HF:AO (Db D U ks tk now=10):=HCB.o AJ;rw[HNO.o];go_wp2
  go_ret2
  exact⟨_,_,rfl,HBA.o,.inr ⟨by rw[HF.o];decide,by rw[HF.o];rfl⟩⟩
 have HNO:AO (JI now=true):=Aj hn;rw[HNO.o];have HC:=CX (HCI.o hn.1 hn.2);go_wp2_with fail;refine(VB ta tn tc tk _ HL.o.1 mt hct (HA.o _ HBA.o).1 HL.o.2.2.2).mono ?_;rintro e w1 ⟨rfl,hb1⟩;have HR1:AO (w1.heap[w.heap.size]?=aR (aa #[aO aZ kind,aM ta tn tc,aO aZ now,aO aZ N] 28 (0,0))):=by show _=_;rw[hb1.block _ (AR.1 HR0.o).1];exact HR0.o
 have HB1:=CY <| HBA.o.trans (hb1.mono HBA.o.size)
 generalize hq:Jp tk=q at *;have HQ:=CY <| hq
 obtain⟨s,x,HV⟩:∃ s x,AO (Tx tk=af #[ae q,aO aZ s,aO aZ x]/\(q=true->E6 tk=s/\FN tk=x)):=by
  cases q with
  |false=>exact⟨0,0,Hg HQ.o,λh=>by cases h⟩
  |true=>exact⟨_,_,Iy HQ.o,λ_=>⟨rfl,rfl⟩⟩
 have HN:AO ((w1.alloc (aa CF 86)).heap[w1.heap.size]?=aR (aa CF 86 (0,0))):=AS w1 _;have HBX:AO (Below w1.heap.size w1 ((w1.alloc (aa CF 86)).setRow w1.heap.size #[ae q,aO aZ s,aO aZ x])):=(Cf.alloc Ch _).trans ((Wr.setRow _ _ _).below Ch);have HR2:AO (((w1.alloc (aa CF 86)).setRow w1.heap.size #[ae q,aO aZ s,aO aZ x]).heap[w1.heap.size]?=aR (aa #[ae q,aO aZ s,aO aZ x] 86 (0,0))):=AB HN.o;rw[HV.o.1]
 go_upto_region 4 with (first
  |(refine AE 86 (ah 8) (ah 16) w1.heap.size #[ae q,aO aZ s,aO aZ x] 86 HN.o HSZ.o rfl (by simp[Value.oneCell']) ?_)
  |fail)
 generalize (w1.alloc (aa CF 86)).setRow w1.heap.size #[ae q,aO aZ s,aO aZ x]=w2 at *;have HB2:=CY <| HB1.o.trans (HBX.o.mono HB1.o.size)
 have HKw2:=CY <| HKw0.o.below HB2.o
 have HRO:AO (w2.heap[w.heap.size]?=aR (aa #[aO aZ kind,aM ta tn tc,aO aZ now,aO aZ N] 28 (0,0))):=by show _=_;rw[HBX.o.block _ (AR.1 HR1.o).1];exact HR1.o
 have c0:w2.cell? ⟨w1.heap.size,0,aS⟩=aR (ae q):=by rw[AA HR2.o 0];rfl
 have c1:w2.cell? ⟨w1.heap.size,1,aS⟩=aR (aO aZ s):=by rw[AA HR2.o 1];rfl
 have c2:w2.cell? ⟨w1.heap.size,2,aS⟩=aR (aO aZ x):=by rw[AA HR2.o 2];rfl
 have o1:w2.cell? ⟨w.heap.size,1,aS⟩=aR (aM ta tn tc):=by rw[AA HRO.o 1];rfl
 have o2:w2.cell? ⟨w.heap.size,2,aS⟩=aR (aO aZ now):=by rw[AA HRO.o 2];rfl
 cases q with
 |false=>
  have HF:AO (Db D U ks tk now=2):=by show _=_;rw[HC.o,AP rfl]
  clear HC HV HTB HKw2 c1 c2 o1 o2;go_wp2
  go_ret2
  exact⟨_,_,rfl,HB2.o,.inr ⟨by rw[HF.o];decide,by rw[HF.o];rfl⟩⟩
 |true=>
 have HSV:=CY <| (HV.o.2 rfl).1
 have HCX:=HC.o;rw[AQ (λh=>by cases h),(HV.o.2 rfl).1,(HV.o.2 rfl).2] at HCX;have HC2:=CX HCX;have HT72:=CY <| HTB.o rfl
 have HS1:AO (0<=s):=by show _<=_;rw[<-HSV.o];exact HNN.o
 clear HC HV HTB HQ HCX
 go_upto_region 6 with fail
 clear c0;go_wp2_with fail;refine(Cp _ _).mono ?_;rintro e w9 ⟨rfl,e9⟩;obtain rfl:w2=w9:=e9.symm;by_cases hs:256<=s
 ·have HF:AO (Db D U ks tk now=3):=by show _=_;rw[HC2.o,AP hs]
  have HSO:AO (Fp s=false):=Ac AJ;rw[HSO.o];clear HC2 c1 c2 o1 o2 HKw2;go_wp2
  go_ret2
  exact⟨_,_,rfl,HB2.o,.inr ⟨by rw[HF.o];decide,by rw[HF.o];rfl⟩⟩
 have HSO:AO (Fp s=true):=Aj ⟨HS1.o,AJ⟩;have HS0:AO (0<=s/\s<256):=⟨HS1.o,AJ⟩
 rw[HSO.o];by_cases hx:x<now
 ·have HF:AO (Db D U ks tk now=4):=by show _=_;rw[HC2.o,AQ hs,AP hx]
  clear HC2 HKw2 c1 o1;go_wp2
  go_ret2
  exact⟨_,_,rfl,HB2.o,.inr ⟨by rw[HF.o];decide,by rw[HF.o];rfl⟩⟩
 have HCX:=HC2.o;rw[AQ hs,AQ hx] at HCX;have HC3:=CX HCX;clear HC2 HCX hs HSO HS1
 go_upto_region 10 with fail
 clear hx c2 o2;have HAS:AO (∀ wz,Below w2.heap.size w2 wz->Calls tP 71 #[aY (aR ⟨g,0,aS⟩),aO aZ s] wz λe w'=>e=aQ (ae (Df s D))/\Below wz.heap.size wz w'):=λwz h=>by
  have hk:=HKw2.o.below h;refine(GK g 0 s _ _ (Df s D) wz hk.bk.batd hk.sd ?_).mono ?_
  {have e:=Bo HS0.o.1;rw[e];exact⟨λh=>⟨HS0.o.1,HS0.o.2,Jq h⟩,λh=>EO h.2.2⟩};{rintro e w' ⟨rfl,rfl⟩;exact⟨rfl,A8 _ _⟩}
 have HCS:=CY <| c1
 have HLT1:=CY <| block_lt_of_cell c1
 have HO1:=CY <| o1
 have HLT:=CY <| block_lt_of_cell o1
 obtain⟨m,hm⟩:∃ m,m=Df s D:=⟨_,rfl⟩
 have HM:=CY <| hm.symm
 rw[<-hm] at HAS;clear hm c1 o1;go_wp2_with fail;refine Ag AM ?_;refine Cg (λ_ a b=>Below a.heap.size a b) (frame:=(λ(a b c d e f g h i j k l m n o p q r s u v w x y z A B C D E F G H I J K L M N O P Q R S T U V W X Y Z a0 a1 a2 a3 a4 a5:aX)=>λ(t:Nat->aX)=>({ tmps:=List.toArray [a,b,c,d,e,f,g,h,i,j,k,l,m,n,o,p,q,r,s,u,v,w,x,y,z,A,B,C,D,E,F,G,H,I,J,t 6,t 0,t 1,t 2,t 3,t 4,t 5,K,L,M,N,O,P,Q,R,S,T,U,V,W,X,Y,Z,a0,a1,a2,a3,a4,a5],defers:=[] }:Act)) _ _ _ _ _ _ _ _ _ _ _ _ _ _ _ _ _ _ _ _ _ _ _ _ _ _ _ _ _ _ _ _ _ _ _ _ _ _ _ _ _ _ _ _ _ _ _ _ _ _ _ _ _ _ _ _ _)
  (Ext:=λL u w'=>KX w2 [] L u w') (Good:=λi L w' v=>if i=0 then v=aY (aR ⟨g,0,aS⟩) else if i=1 then v=aY (aR ⟨g,0,aS⟩) else if i=2 then v=aY (aR ⟨g,0,aS⟩) else if i=3 then v=aY (aR ⟨w1.heap.size,1,aS⟩) else if i=4 then v=aO aZ s else if i=5 then v=ae m else if i=6 then v=ae m else True) ?hstab AM ?hop ?hdone _ _ ((λ(x0 x1 x2 x3 x4 x5 x6:aX)=>λ(i:Nat)=>if i=0 then x0 else if i=1 then x1 else if i=2 then x2 else if i=3 then x3 else if i=4 then x4 else if i=5 then x5 else if i=6 then x6 else undef) _ _ _ _ _ _ _) _ AL ?ext ?start AL
 case start=>intro i hi h;exact absurd h Ef
 case ext=>exact(KX.start w2 [] _ _ (λ_=>NR)).drew
 case hstab=>
  intro j L w9 w' i v hM _ _ h;exact h
 case hop=>
  intro i o L t w' ho hLi hx hdep K hK;have hi:i<7:=(AR.1 ho).1;obtain rfl|rfl|rfl|rfl|rfl|rfl|rfl:i=0\/i=1\/i=2\/i=3\/i=4\/i=5\/i=6:=AJ
  all_goals(simp at ho;subst ho)
  all_goals try(have hK':=hK w' _ rfl (hx.step _ _ Cf ES) Cf;clear hK;simp[Region.binds] at hdep;rw[AP AN];go_simp;simpa[Ca,hdep] using hK';done)
  ·have d3:t 3=aY (aR ⟨w1.heap.size,1,aS⟩):=by simpa using(hdep ⟨3,ag⟩ AL rfl).2
   clear hdep;have cc:w'.cell? ⟨w1.heap.size,1,aS⟩=aR (aO aZ s):=by rw[hx.below.cell (p:=⟨w1.heap.size,1,aS⟩) HLT1.o];exact HCS.o
   have hK':=hK w' (aO aZ s) AL (hx.step 4 _ Cf ES) Cf;clear hK;rw[AP AN];go_simp;simpa[Ca,d3] using hK'
  ·have d2:t 2=aY (aR ⟨g,0,aS⟩):=by simpa using(hdep ⟨2,ag⟩ AL rfl).2
   have d4:t 4=aO aZ s:=by simpa using(hdep ⟨4,ag⟩ AL rfl).2
   clear hdep;have A:=HAS.o w' hx.below;have hK':∀ ww,Below w'.heap.size w' ww->K _ ww:=λww hb=>hK ww (ae m) AL (hx.step 5 _ hb ES) hb
   clear hK;rw[AP AN];go_simp;try simp only[d2,d4]
   refine A.mono ?_;rintro e w9 ⟨rfl,hb9⟩;have hK2:=hK' w9 hb9;clear hK' A hb9;go_simp;simpa[Ca,d2,d4] using hK2
 case hdone=>
  intro L t w3 hx hg;have e6:t 6=ae m:=by simpa using hg 6 AK
  have HB3:=CY <| HB2.o.trans (hx.below.mono HB2.o.size)
  have c1':w3.cell? ⟨w1.heap.size,1,aS⟩=aR (aO aZ s):=by rw[hx.below.cell (p:=⟨w1.heap.size,1,aS⟩) HLT1.o];exact HCS.o
  have o1':w3.cell? ⟨w.heap.size,1,aS⟩=aR (aM ta tn tc):=by rw[hx.below.cell (p:=⟨w.heap.size,1,aS⟩) HLT.o];exact HO1.o
  have HKw3:=CY <| HKw2.o.below hx.below
  clear hg hx HAS HCS HO1 HLT HLT1 HKw2;have c1:=c1';have o1:=o1';clear c1' o1';simp only[e6];clear e6;cases m with
  |true=>
   have HF:AO (Db D U ks tk now=5):=by show _=_;rw[HC3.o,AP HM.o]
   clear HC3 HM c1 o1;go_wp2
   go_ret2
   exact⟨_,_,rfl,HB3.o,.inr ⟨by rw[HF.o];decide,by rw[HF.o];rfl⟩⟩
  |false=>
   have HC4:=HC3.o;rw[AQ (by rw[HM.o];decide)] at HC4;have HY:=CX HC4;clear HC4 HC3 HM;have HC4:=HY;clear HY;have HAS:AO (∀ wz,Below w3.heap.size w3 wz->Calls tP 71 #[aY (aR ⟨g,32,aS⟩),aO aZ s] wz λe w'=>e=aQ (ae (Df s U))/\Below wz.heap.size wz w'):=λwz h=>by
    have hk:=HKw3.o.below h;refine(GK g 32 s _ _ (Df s U) wz hk.bk.batu hk.su ?_).mono ?_
    {have e:=Bo HS0.o.1;rw[e];exact⟨λh=>⟨HS0.o.1,HS0.o.2,Jq h⟩,λh=>EO h.2.2⟩};{rintro e w' ⟨rfl,rfl⟩;exact⟨rfl,A8 _ _⟩}
   have HCS:=CY <| c1
   have HLT1:=CY <| block_lt_of_cell c1
   have HO1:=CY <| o1
   have HLT:=CY <| block_lt_of_cell o1
   obtain⟨m,hm⟩:∃ m,m=Df s U:=⟨_,rfl⟩
   have HM:=CY <| hm.symm
   rw[<-hm] at HAS;clear hm c1 o1;go_wp2_with fail;refine Ag AM ?_;refine Cg (λ_ a b=>Below a.heap.size a b) (frame:=(λ(a b c d e f g h i j k l m n o p q r s u v w x y z A B C D E F G H I J K L M N O P Q R S T U V W X Y Z a0 a1 a2 a3 a4 a5:aX)=>λ(t:Nat->aX)=>({ tmps:=List.toArray [a,b,c,d,e,f,g,h,i,j,k,l,m,n,o,p,q,r,s,u,v,w,x,y,z,A,B,C,D,E,F,G,H,I,J,K,L,M,N,O,P,Q,R,t 6,t 0,t 1,t 2,t 3,t 4,t 5,S,T,U,V,W,X,Y,Z,a0,a1,a2,a3,a4,a5],defers:=[] }:Act)) _ _ _ _ _ _ _ _ _ _ _ _ _ _ _ _ _ _ _ _ _ _ _ _ _ _ _ _ _ _ _ _ _ _ _ _ _ _ _ _ _ _ _ _ _ _ _ _ _ _ _ _ _ _ _ _ _)
    (Ext:=λL u w'=>KX w3 [] L u w') (Good:=λi L w' v=>if i=0 then v=aY (aR ⟨g,0,aS⟩) else if i=1 then v=aY (aR ⟨g,0,aS⟩) else if i=2 then v=aY (aR ⟨g,32,aS⟩) else if i=3 then v=aY (aR ⟨w1.heap.size,1,aS⟩) else if i=4 then v=aO aZ s else if i=5 then v=ae m else if i=6 then v=ae m else True) ?hstab AM ?hop ?hdone _ _ ((λ(x0 x1 x2 x3 x4 x5 x6:aX)=>λ(i:Nat)=>if i=0 then x0 else if i=1 then x1 else if i=2 then x2 else if i=3 then x3 else if i=4 then x4 else if i=5 then x5 else if i=6 then x6 else undef) _ _ _ _ _ _ _) _ AL ?ext ?start AL
   case start=>intro i hi h;exact absurd h Ef
   case ext=>exact(KX.start w3 [] _ _ (λ_=>NR)).drew
   case hstab=>
    intro j L w9 w' i v hM _ _ h;exact h
   case hop=>
    intro i o L t w' ho hLi hx hdep K hK;have hi:i<7:=(AR.1 ho).1;obtain rfl|rfl|rfl|rfl|rfl|rfl|rfl:i=0\/i=1\/i=2\/i=3\/i=4\/i=5\/i=6:=AJ
    all_goals(simp at ho;subst ho)
    all_goals try(have hK':=hK w' _ rfl (hx.step _ _ Cf ES) Cf;clear hK;simp[Region.binds] at hdep;rw[AP AN];go_simp;simpa[Ca,hdep] using hK';done)
    ·have d3:t 3=aY (aR ⟨w1.heap.size,1,aS⟩):=by simpa using(hdep ⟨3,ag⟩ AL rfl).2
     clear hdep;have cc:w'.cell? ⟨w1.heap.size,1,aS⟩=aR (aO aZ s):=by rw[hx.below.cell (p:=⟨w1.heap.size,1,aS⟩) HLT1.o];exact HCS.o
     have hK':=hK w' (aO aZ s) AL (hx.step 4 _ Cf ES) Cf;clear hK;rw[AP AN];go_simp;simpa[Ca,d3] using hK'
    ·have d2:t 2=aY (aR ⟨g,32,aS⟩):=by simpa using(hdep ⟨2,ag⟩ AL rfl).2
     have d4:t 4=aO aZ s:=by simpa using(hdep ⟨4,ag⟩ AL rfl).2
     clear hdep;have A:=HAS.o w' hx.below;have hK':∀ ww,Below w'.heap.size w' ww->K _ ww:=λww hb=>hK ww (ae m) AL (hx.step 5 _ hb ES) hb
     clear hK;rw[AP AN];go_simp;try simp only[d2,d4]
     refine A.mono ?_;rintro e w9 ⟨rfl,hb9⟩;have hK2:=hK' w9 hb9;clear hK' A hb9;go_simp;simpa[Ca,d2,d4] using hK2
   case hdone=>
    intro L t w4 hx hg;have e6:t 6=ae m:=by simpa using hg 6 AK
    have HB4:=CY <| HB3.o.trans (hx.below.mono HB3.o.size)
    have c1':w4.cell? ⟨w1.heap.size,1,aS⟩=aR (aO aZ s):=by rw[hx.below.cell (p:=⟨w1.heap.size,1,aS⟩) HLT1.o];exact HCS.o
    have o1':w4.cell? ⟨w.heap.size,1,aS⟩=aR (aM ta tn tc):=by rw[hx.below.cell (p:=⟨w.heap.size,1,aS⟩) HLT.o];exact HO1.o
    have HKw4:=CY <| HKw3.o.below hx.below
    clear hg hx HAS HCS HO1 HLT HLT1 HKw3;have c1:=c1';have o1:=o1';clear c1' o1';simp only[e6];clear e6;cases m with
    |true=>
     have HF:AO (Db D U ks tk now=6):=by show _=_;rw[HC4.o,AP HM.o]
     clear HC4 HM c1 o1;go_wp2
     go_ret2
     exact⟨_,_,rfl,HB4.o,.inr ⟨by rw[HF.o];decide,by rw[HF.o];rfl⟩⟩
    |false=>
     have HC5:=HC4.o;rw[AQ (by rw[HM.o];decide)] at HC5;have HTV:=CX HC5;clear HC4 HC5 HM;have h72:=HT72.o.symm.trans HL.o.1;subst h72;obtain⟨bt,ot,rfl,-,-⟩:=(HA.o _ HB4.o).1.get (by rw[HT72.o];decide);have HPT:AO (∀ wz,Below w.heap.size w wz->FK wz bt ot tk):=λwz h=>by
      obtain⟨b',o',e',hl',hc'⟩:=(HA.o _ h).1.get (by rw[HT72.o];decide);cases e';exact⟨hl',hc'⟩
     have HT8:AO ((8:Int)<=tc/\(72:Int)<=tc/\¬ (tc=8)):=⟨AJ,AJ,AJ⟩
     have HVS:AO (∀ wz,Below w.heap.size w wz->Calls tP 92 #[aM (aR ⟨bp,op,aS⟩) 32 cp,aM (aR ⟨bt,ot,aS⟩) 8 tc,aM (aR ⟨bt,ot+8,aS⟩) 64 (tc-8:Nat)] wz λe w'=>e=aQ (ae (Hu ks (tk.take 8) (tk.drop 8)))/\Below wz.heap.size wz w'):=λwz h=>
      VW bp op cp bt ot tc bt (ot+8) (tc-8) 32 8 64 ks (tk.take 8) (tk.drop 8) wz HL.o.2.1 (by rw[Aq,HT72.o];rfl) (by rw[BF,HT72.o]) (HA.o wz h).2.1 ((HPT.o wz h).take 8) ((HPT.o wz h).drop 8) HL.o.2.2.1 (λz hz=>HL.o.2.2.2 z (Ax hz)) (λz hz=>HL.o.2.2.2 z (BT hz)) AJ AK AK AK (HA.o wz h).2.2 (Ap HV1.o h.size)
     have HCS:=CY <| c1
     have HLT1:=CY <| block_lt_of_cell c1
     have HC1:=CY <| o1
     have HLT:=CY <| block_lt_of_cell o1
     generalize Hu ks (tk.take 8) (tk.drop 8)=V at *;clear HPT HT72 HA HL c1 o1 mt hct;go_wp2_with fail;refine Ag AM ?_;refine Cg (λ_ a b=>Below a.heap.size a b) (frame:=(λ(a b c d e f g h i j k l m n o p q r s u v w x y z A B C D E F G H I J K L M N O P Q R S T U V W X Y Z a0 a1 a2:aX)=>λ(t:Nat->aX)=>({ tmps:=List.toArray [a,b,c,d,e,f,g,h,i,j,k,l,m,n,o,p,q,r,s,u,v,w,x,y,z,A,B,C,D,E,F,G,H,I,J,K,L,M,N,O,P,Q,R,S,T,U,V,W,X,Y,Z,t 9,t 0,t 1,t 2,t 3,t 4,t 5,t 6,t 7,t 8,a0,a1,a2],defers:=[] }:Act)) _ _ _ _ _ _ _ _ _ _ _ _ _ _ _ _ _ _ _ _ _ _ _ _ _ _ _ _ _ _ _ _ _ _ _ _ _ _ _ _ _ _ _ _ _ _ _ _ _ _ _ _ _ _)
      (Ext:=λL u w'=>KX w4 [] L u w') (Good:=λi L w' v=>if i=0 then v=aM (aR ⟨bp,op,aS⟩) 32 cp else if i=1 then v=aY (aR ⟨w.heap.size,1,aS⟩) else if i=2 then v=aM (aR ⟨bt,ot,aS⟩) 72 tc else if i=3 then v=aM (aR ⟨bt,ot,aS⟩) 8 tc else if i=4 then v=aY (aR ⟨w.heap.size,1,aS⟩) else if i=5 then v=aM (aR ⟨bt,ot,aS⟩) 72 tc else if i=6 then v=aM (aR ⟨bt,ot+8,aS⟩) 64 (tc-8:Nat) else if i=7 then v=ae V else if i=8 then v=ae (!V) else if i=9 then v=ae (!V) else True) ?hstab AM ?hop ?hdone _ _ ((λ(x0 x1 x2 x3 x4 x5 x6 x7 x8 x9:aX)=>λ(i:Nat)=>if i=0 then x0 else if i=1 then x1 else if i=2 then x2 else if i=3 then x3 else if i=4 then x4 else if i=5 then x5 else if i=6 then x6 else if i=7 then x7 else if i=8 then x8 else if i=9 then x9 else undef) _ _ _ _ _ _ _ _ _ _) _ AL ?ext ?start AL
     case start=>intro i hi h;exact absurd h Ef
     case ext=>exact(KX.start w4 [] _ _ (λ_=>NR)).drew
     case hstab=>
      intro j L w9 w' i v hM _ _ h;exact h
     case hop=>
      intro i o L t w' ho hLi hx hdep K hK;have hi:i<10:=(AR.1 ho).1;obtain rfl|rfl|rfl|rfl|rfl|rfl|rfl|rfl|rfl|rfl:i=0\/i=1\/i=2\/i=3\/i=4\/i=5\/i=6\/i=7\/i=8\/i=9:=AJ
      all_goals(simp at ho;subst ho)
      all_goals try(have hK':=hK w' _ rfl (hx.step _ _ Cf ES) Cf;clear hK;simp[Region.binds] at hdep;rw[AP AN];go_simp;simpa[Ca,hdep] using hK';done)
      ·have d1:t 1=aY (aR ⟨w.heap.size,1,aS⟩):=by simpa using(hdep ⟨1,ag⟩ AL rfl).2
       clear hdep;have cc:w'.cell? ⟨w.heap.size,1,aS⟩=aR (aM (aR ⟨bt,ot,aS⟩) 72 tc):=by rw[hx.below.cell (p:=⟨w.heap.size,1,aS⟩) HLT.o];exact HC1.o
       have hK':=hK w' (aM (aR ⟨bt,ot,aS⟩) 72 tc) AL (hx.step 2 _ Cf ES) Cf;clear hK;rw[AP AN];go_simp;simpa[Ca,d1] using hK'
      ·have d2:t 2=aM (aR ⟨bt,ot,aS⟩) 72 tc:=by simpa using(hdep ⟨2,ag⟩ AL rfl).2
       clear hdep;have h8:(8:Int)<=tc:=HT8.o.1;have hK':=hK w' (aM (aR ⟨bt,ot,aS⟩) 8 tc) AL (hx.step 3 _ Cf ES) Cf;clear hK;rw[AP AN];go_simp;simpa[Ca,d2] using hK'
      ·have d4:t 4=aY (aR ⟨w.heap.size,1,aS⟩):=by simpa using(hdep ⟨4,ag⟩ AL rfl).2
       clear hdep;have cc:w'.cell? ⟨w.heap.size,1,aS⟩=aR (aM (aR ⟨bt,ot,aS⟩) 72 tc):=by rw[hx.below.cell (p:=⟨w.heap.size,1,aS⟩) HLT.o];exact HC1.o
       have hK':=hK w' (aM (aR ⟨bt,ot,aS⟩) 72 tc) AL (hx.step 5 _ Cf ES) Cf;clear hK;rw[AP AN];go_simp;simpa[Ca,d4] using hK'
      ·have d5:t 5=aM (aR ⟨bt,ot,aS⟩) 72 tc:=by simpa using(hdep ⟨5,ag⟩ AL rfl).2
       clear hdep;have h8:(8:Int)<=tc:=HT8.o.1;have h72:(72:Int)<=tc:=HT8.o.2.1;have hne:¬ (tc=8):=HT8.o.2.2;have hK':=hK w' (aM (aR ⟨bt,ot+8,aS⟩) 64 (tc-8:Nat)) AL (hx.step 6 _ Cf ES) Cf;clear hK;rw[AP AN];go_simp;simpa[Ca,d5] using hK'
      ·have d0:t 0=aM (aR ⟨bp,op,aS⟩) 32 cp:=by simpa using(hdep ⟨0,ag⟩ AL rfl).2
       have d3:t 3=aM (aR ⟨bt,ot,aS⟩) 8 tc:=by simpa using(hdep ⟨3,ag⟩ AL rfl).2
       have d6:t 6=aM (aR ⟨bt,ot+8,aS⟩) 64 (tc-8:Nat):=by simpa using(hdep ⟨6,ag⟩ AL rfl).2
       clear hdep;have A:=HVS.o w' (HB4.o.trans (hx.below.mono HB4.o.size));have hK':∀ ww,Below w'.heap.size w' ww->K _ ww:=λww hb=>hK ww (ae V) AL (hx.step 7 _ hb ES) hb
       clear hK;rw[AP AN];go_simp;try simp only[d0,d3,d6]
       refine A.mono ?_;rintro e w9 ⟨rfl,hb9⟩;have hK2:=hK' w9 hb9;clear hK' A hb9;go_simp;simpa[Ca,d0,d3,d6] using hK2
     case hdone=>
      intro L t w5 hx hg;have e9:t 9=ae (!V):=by simpa using hg 9 AK
      have HB5:AO (Below w.heap.size w w5):=HB4.o.trans (hx.below.mono HB4.o.size);have cs5:w5.cell? ⟨w1.heap.size,1,aS⟩=aR (aO aZ s):=by rw[hx.below.cell (p:=⟨w1.heap.size,1,aS⟩) HLT1.o];exact HCS.o
      clear hg hx;simp only[e9];clear e9;cases V with
      |true=>
       have HF:AO (Db D U ks tk now=1):=HTV.o;clear HTV;go_wp2
       go_ret2
       exact⟨_,_,rfl,HB5.o,.inl ⟨HF.o,by rw[HSV.o];rfl,rfl⟩⟩
      |false=>
       have HF:AO (Db D U ks tk now=7):=HTV.o;go_wp2
       go_ret2
       exact⟨_,_,rfl,HB5.o,.inr ⟨by rw[HF.o];decide,by rw[HF.o];rfl⟩⟩
variable {w w':aV} {g:Nat} {d u:List Int} {k:Int} {v:aX} {D U:Nat->Prop} {T:List Int} {n H B:Nat}
theorem NN (s:Nat) (hs:s<256) (hnot:¬ D s) (hfull:¬ GB d 32=16) (hb:Bk w g d u k v) (hd:DM d D) (hu:DM u U) (hv:Dg B w v T n) (hH:H<=g) (hgB:Jn g v) :
  Calls tP 53 #[aY (aR ⟨g,0,aS⟩),aO aZ s,aO ai 1] w (M0 H B g w true (λx=>D x\/x=s) U k T n):=by
 have HQ:AO (¬ (s<256/\D s)):=λh=>hnot h.2
 have HP:=CY <| Ac hfull
 have HSO:=CY <| Ht hs
 have HB:=CY <| hb
 have HSD:AO (DM d D):=hd;have HF:∀ q,AO (M0 H B g w true (λx=>D x\/x=s) U k T n (aQ (ae true)) ((w.setCell ⟨g,0+s/8,aS⟩ (aO aP ((Do d s).getD (s/8) 0))).drewN q)):=λq=>by
  have hw:Wr g w ((w.setCell ⟨g,0+s/8,aS⟩ (aO aP ((Do d s).getD (s/8) 0))).drewN q):=((Wr.refl _ _).setCell _ _).drewN _;exact⟨rfl,hw.below hH,λ_=>⟨_,_,_,(hb.addD s hs).drew q,hd.add s hs,hu,hv.wr hw hgB,hgB⟩⟩
 go_enter func53,ntmps53;go_wp2_with fail;refine(Cp _ _).mono ?_;rintro e w1 ⟨rfl,rfl⟩;rw[HSO.o];go_wp2_with fail;refine(Ed s HB.o.batd HSD.o HQ.o).mono ?_;rintro e w2 ⟨rfl,rfl⟩;go_wp2_with fail;refine(Iq HB.o).mono ?_;rintro e w3 ⟨rfl,rfl⟩;rw[HP.o];go_wp2_with fail;refine(Ia g 0 s d _ hs HB.o.batd).mono ?_;rintro e w4 ⟨rfl,q,rfl⟩;have H2:=HF q;generalize (w3.setCell ⟨g,0+s/8,aS⟩ (aO aP ((Do d s).getD (s/8) 0))).drewN q=w4 at *;go_wp2
 go_ret
 exact H2.o
theorem NP (s:Nat) (hs:s<256) (hin:D s) (hb:Bk w g d u k v) (hd:DM d D) (hu:DM u U) (hv:Dg B w v T n) (hH:H<=g) (hgB:Jn g v) :
  Calls tP 53 #[aY (aR ⟨g,0,aS⟩),aO aZ s,aO ai 0] w (M0 H B g w true (λx=>D x/\x≠s) U k T n):=by
 have HQ:AO (s<256/\D s):=⟨hs,hin⟩
 have HB:=CY <| hb
 have HSD:AO (DM d D):=hd;have HF:∀ q,AO (M0 H B g w true (λx=>D x/\x≠s) U k T n (aQ (ae true)) ((w.setCell ⟨g,0+s/8,aS⟩ (aO aP ((Eq d s).getD (s/8) 0))).drewN q)):=λq=>by
  have hw:Wr g w ((w.setCell ⟨g,0+s/8,aS⟩ (aO aP ((Eq d s).getD (s/8) 0))).drewN q):=((Wr.refl _ _).setCell _ _).drewN _;exact⟨rfl,hw.below hH,λ_=>⟨_,_,_,(hb.remD s hs).drew q,hd.rem s hs,hu,hv.wr hw hgB,hgB⟩⟩
 go_enter func53,ntmps53;go_wp2_with fail;refine(Fv s HB.o.batd HSD.o HQ.o).mono ?_;rintro e w2 ⟨rfl,rfl⟩;go_wp2_with fail;refine(Jz g 0 s d _ hs HB.o.batd).mono ?_;rintro e w4 ⟨rfl,q,rfl⟩;have H2:=HF q;generalize (w2.setCell ⟨g,0+s/8,aS⟩ (aO aP ((Eq d s).getD (s/8) 0))).drewN q=w4 at *;go_wp2
 go_ret
 exact H2.o
theorem Om (s b:Nat) (hno1:¬ (b=1/\s<256/\¬ D s/\¬ GB d 32=16)) (hno0:¬ (b=0/\s<256/\D s)) (hbb:b<4294967296) (hb:Bk w g d u k v) (hd:DM d D) :
  Calls tP 53 #[aY (aR ⟨g,0,aS⟩),aO aZ s,aO ai b] w λe w'=>e=aQ (ae false)/\w'=w:=by
 have HB:=CY <| hb
 have HSD:=CY <| hd
 by_cases h1:b=1
 ·subst h1;by_cases hs:s<256
  ·have HSO:=CY <| Ht hs
   by_cases hin:D s
   ·have HQ:AO (s<256/\D s):=⟨hs,hin⟩
    go_enter func53,ntmps53;go_wp2_with fail;refine(Cp _ _).mono ?_;rintro e w1 ⟨rfl,rfl⟩;rw[HSO.o];go_wp2_with fail;refine(Fv s HB.o.batd HSD.o HQ.o).mono ?_;rintro e w2 ⟨rfl,rfl⟩;go_wp2
    go_ret
    exact⟨rfl,rfl⟩
   ·have HP:=CY <| Aj (Br λh=>hno1 ⟨rfl,hs,hin,h⟩)
    have HQ:AO (¬ (s<256/\D s)):=λh=>hin h.2
    go_enter func53,ntmps53;go_wp2_with fail;refine(Cp _ _).mono ?_;rintro e w1 ⟨rfl,rfl⟩;rw[HSO.o];go_wp2_with fail;refine(Ed s HB.o.batd HSD.o HQ.o).mono ?_;rintro e w2 ⟨rfl,rfl⟩;go_wp2_with fail;refine(Iq HB.o).mono ?_;rintro e w3 ⟨rfl,rfl⟩;rw[HP.o];go_wp2
    go_ret
    exact⟨rfl,rfl⟩
  ·have HSO:=CY <| Su hs
   go_enter func53,ntmps53;go_wp2_with fail;refine(Cp _ _).mono ?_;rintro e w1 ⟨rfl,rfl⟩;rw[HSO.o];go_wp2
   go_ret
   exact⟨rfl,rfl⟩
 ·by_cases h0:b=0
  ·subst h0;have HQ:AO (¬ (s<256/\D s)):=λh=>hno0 ⟨rfl,h⟩
   go_enter func53,ntmps53;go_wp2_with fail;refine(Ed s HB.o.batd HSD.o HQ.o).mono ?_;rintro e w2 ⟨rfl,rfl⟩;go_wp2
   go_ret
   exact⟨rfl,rfl⟩
  ·have h1':¬ ((b:Int)=1):=AJ
   have h0':¬ ((b:Int)=0):=AJ
   go_enter func53,ntmps53;go_wp2
   go_ret
   exact⟨rfl,rfl⟩
variable {w w':aV} {g:Nat} {d u:List Int} {k:Int} {v:aX} {D U:Nat->Prop} {T:List Int} {n H B:Nat}
theorem On (s:Nat) (nw:Int) (hs:s<256) (hnu:¬ U s) (hnd:¬ D s) (hb:Bk w g d u k v) (hd:DM d D) (hu:DM u U) (hv:Dg B w v T n) (hn:n<=1048576) (hH:H<=g) (hHB:H<=B) (hgB:Jn g v) (hBw:B<=w.heap.size) :
  Calls tP 52 #[aY (aR ⟨g,0,aS⟩),aO aZ s,aO aZ nw] w (M0 H B g w true D (λx=>U x\/x=s) k (T++[(s:Int),nw]) (n+1)):=by
 have HSO:=CY <| Ht hs
 have HB:=CY <| hb
 have HSD:=CY <| hd
 have HSU:=CY <| hu
 have HNU:AO (¬ (s<256/\U s)):=λh=>hnu h.2
 have HND:AO (¬ (s<256/\D s)):=λh=>hnd h.2
 have CA:=LD s nw hs hb hd hu hv hn hH hHB hgB hBw;go_enter func52,ntmps52;go_wp2_with fail;refine(Cp _ _).mono ?_;rintro e w1 ⟨rfl,rfl⟩;rw[HSO.o];go_wp2_with fail;refine(Ed s HB.o.batu HSU.o HNU.o).mono ?_;rintro e w2 ⟨rfl,rfl⟩;go_wp2_with fail;refine(Ed s HB.o.batd HSD.o HND.o).mono ?_;rintro e w3 ⟨rfl,rfl⟩;go_wp2_with fail;refine CA.mono ?_;rintro e w4 ⟨rfl,hb4,u',v',r1,r2,r3,r4⟩;have HF:AO (M0 H B g w3 true D (λx=>U x\/x=s) k (T++[(s:Int),nw]) (n+1) (aQ (ae true)) w4):=⟨rfl,hb4,λ_=>⟨_,_,_,r1,HSD.o,r2,r3,r4⟩⟩
 go_wp2
 go_ret
 exact HF.o
theorem Qx (s:Nat) (nw:Int) (hno:¬ (s<256/\¬ U s/\¬ D s)) (hb:Bk w g d u k v) (hd:DM d D) (hu:DM u U) :
  Calls tP 52 #[aY (aR ⟨g,0,aS⟩),aO aZ s,aO aZ nw] w λe w'=>e=aQ (ae false)/\w'=w:=by
 have HB:=CY <| hb
 have HSD:=CY <| hd
 have HSU:=CY <| hu
 by_cases hs:s<256
 ·have HSO:=CY <| Ht hs
  by_cases hin:U s
  ·have HQ:AO (s<256/\U s):=⟨hs,hin⟩
   go_enter func52,ntmps52;go_wp2_with fail;refine(Cp _ _).mono ?_;rintro e w1 ⟨rfl,rfl⟩;rw[HSO.o];go_wp2_with fail;refine(Fv s HB.o.batu HSU.o HQ.o).mono ?_;rintro e w2 ⟨rfl,rfl⟩;go_wp2
   go_ret
   exact⟨rfl,rfl⟩
  ·have HQ:AO (¬ (s<256/\U s)):=λh=>hin h.2
   have HY:AO (s<256/\D s):=⟨hs,Br λh=>hno ⟨hs,hin,h⟩⟩
   go_enter func52,ntmps52;go_wp2_with fail;refine(Cp _ _).mono ?_;rintro e w1 ⟨rfl,rfl⟩;rw[HSO.o];go_wp2_with fail;refine(Ed s HB.o.batu HSU.o HQ.o).mono ?_;rintro e w2 ⟨rfl,rfl⟩;go_wp2_with fail;refine(Fv s HB.o.batd HSD.o HY.o).mono ?_;rintro e w3 ⟨rfl,rfl⟩;go_wp2
   go_ret
   exact⟨rfl,rfl⟩
 ·have HSO:=CY <| Su hs
  go_enter func52,ntmps52;go_wp2_with fail;refine(Cp _ _).mono ?_;rintro e w1 ⟨rfl,rfl⟩;rw[HSO.o];go_wp2
  go_ret
  exact⟨rfl,rfl⟩
theorem Qy (seq kind:Int) (a b:Nat) (ha:a<4294967296) (hbb:b<4294967296) {w:aV} {g H B n:Nat} {d u D U:List Int} {k:Int} {v:aX} {T:List Int} (hb:Bk w g d u k v) (hd:DM d (λx=>(x:Int)∈D)) (hu:DM u (λx=>(x:Int)∈U)) (hv:Dg B w v T n)
  (hSD:DO D) (h0:0<=k) (h1:k<=1048576) (hn:n<=1048576) (hH:H<=g) (hHB:H<=B) (hgB:Jn g v) (hBw:B<=w.heap.size) :
  Calls tP 31 #[aY (aR ⟨g,0,aS⟩),af #[aO ai seq,aO aZ kind,aO ai a,aO ai b]] w (Dr H B g w (Dy D U k T n kind a b)):=by
 have hgl:=hb.lt;have bw:Below w.heap.size w (w.alloc (aa #[aO ai seq,aO aZ kind,aO ai a,aO ai b] 38)):=Cf.alloc Ch _;have HB:AO (Bk (w.alloc (aa #[aO ai seq,aO aZ kind,aO ai a,aO ai b] 38)) g d u k v):=hb.below bw hgl;have HV:AO (Dg B (w.alloc (aa #[aO ai seq,aO aZ kind,aO ai a,aO ai b] 38)) v T n):=hv.alloc _;have HW:AO (Below H w (w.alloc (aa #[aO ai seq,aO aZ kind,aO ai a,aO ai b] 38))):=bw.mono AJ;have HZ:AO (B<=(w.alloc (aa #[aO ai seq,aO aZ kind,aO ai a,aO ai b] 38)).heap.size):=by
  show _<=_
  simp;omega
 have HSD:AO (DM d (λx=>(x:Int)∈D)):=hd;have HSU:AO (DM u (λx=>(x:Int)∈U)):=hu;have HPL:AO (GB d 32=D.length):=Lz hd hSD;have HSER:AO (DO D):=hSD;by_cases k1:kind=1
 ·subst k1;by_cases hc:a<256/\¬ (a:Int)∈U/\¬ (a:Int)∈D
  ·have HR:AO (Dy D U k T n 1 a b=⟨true,D,DF U a,k,T++[(a:Int),(b:Int)],n+1⟩):=by show _=_;unfold Dy;rw[AP rfl,AP hc]
   go_enter func31,ntmps31;go_wp2_with fail;refine(On (H:=H) (B:=B) (T:=T) (n:=n) a b hc.1 hc.2.1 hc.2.2 HB.o HSD.o HSU.o HV.o hn hH hHB hgB HZ.o).mono ?_;intro e w2 h;have HF:AO (Dr H B g w (Dy D U k T n 1 a b) e w2):=by
    show Dr _ _ _ _ _ _ _
    rw[HR.o];exact M0.to h HW.o (λv _=>Iff.rfl) (λv hv=>Fh hv)
   obtain⟨rfl,h⟩:=h;go_wp2
   go_ret
   exact HF.o
  ·have HR:AO (Dy D U k T n 1 a b=EE):=by show _=_;unfold Dy;rw[AP rfl,AQ hc]
   go_enter func31,ntmps31;go_wp2_with fail;refine(Qx a b hc HB.o HSD.o HSU.o).mono ?_;intro e w2 h;have HF:AO (Dr H B g w (Dy D U k T n 1 a b) e w2):=by
    show Dr _ _ _ _ _ _ _
    rw[HR.o];exact⟨h.1,(show w2=_ from h.2) ▸ HW.o,λh'=>by cases h'⟩
   obtain⟨rfl,h⟩:=h;clear h HB HV HW HZ HSD HSU HPL HSER HR;go_wp2
   go_ret
   exact HF.o
 by_cases k2:kind=2
 ·subst k2;by_cases hc:b=1/\a<256/\¬ (a:Int)∈D/\¬ D.length=16
  ·have HR:AO (Dy D U k T n 2 a b=⟨true,DF D a,U,k,T,n⟩):=by show _=_;unfold Dy;rw[AQ AK,AP rfl,AP hc]
   have HC:AO (a<256/\¬ (a:Int)∈D/\¬ GB d 32=16):=⟨hc.2.1,hc.2.2.1,by rw[HPL.o];exact hc.2.2.2⟩
   obtain⟨rfl,_⟩:=hc;go_enter func31,ntmps31;go_wp2_with fail;refine(NN (H:=H) (B:=B) (T:=T) (n:=n) a HC.o.1 HC.o.2.1 HC.o.2.2 HB.o HSD.o HSU.o HV.o hH hgB).mono ?_;intro e w2 h;have HF:AO (Dr H B g w (Dy D U k T n 2 a 1) e w2):=by
    show Dr _ _ _ _ _ _ _
    rw[HR.o];exact M0.to h HW.o (λv hv=>Fh hv) (λv _=>Iff.rfl)
   obtain⟨rfl,h⟩:=h;go_wp2
   go_ret
   exact HF.o
  by_cases hc0:b=0/\a<256/\(a:Int)∈D
  ·have HR:AO (Dy D U k T n 2 a b=⟨true,Dq D a,U,k,T,n⟩):=by show _=_;unfold Dy;rw[AQ AK,AP rfl,AQ hc,AP hc0]
   have HC:AO (a<256/\(a:Int)∈D):=hc0.2;obtain⟨rfl,_⟩:=hc0;go_enter func31,ntmps31;go_wp2_with fail;refine(NP (H:=H) (B:=B) (T:=T) (n:=n) a HC.o.1 HC.o.2 HB.o HSD.o HSU.o HV.o hH hgB).mono ?_;intro e w2 h;have HF:AO (Dr H B g w (Dy D U k T n 2 a 0) e w2):=by
    show Dr _ _ _ _ _ _ _
    rw[HR.o];exact M0.to h HW.o (λv hv=>LE) (λv _=>Iff.rfl)
   obtain⟨rfl,h⟩:=h;go_wp2
   go_ret
   exact HF.o
  ·have HR:AO (Dy D U k T n 2 a b=EE):=by show _=_;unfold Dy;rw[AQ AK,AP rfl,AQ hc,AQ hc0]
   rw[<-HPL.o] at hc;have HC:AO (¬ (b=1/\a<256/\¬ (a:Int)∈D/\¬ GB d 32=16)):=hc;have HC0:AO (¬ (b=0/\a<256/\(a:Int)∈D)):=hc0;go_enter func31,ntmps31;go_wp2_with fail;refine(Om a b HC.o HC0.o hbb HB.o HSD.o).mono ?_;intro e w2 h;have HF:AO (Dr H B g w (Dy D U k T n 2 a b) e w2):=by
    show Dr _ _ _ _ _ _ _
    rw[HR.o];exact⟨h.1,(show w2=_ from h.2) ▸ HW.o,λh'=>by cases h'⟩
   obtain⟨rfl,h⟩:=h;clear h HB HV HW HZ HSD HSU HPL HSER HR;go_wp2
   go_ret
   exact HF.o
 by_cases k3:kind=3
 ·subst k3;clear k1 k2;by_cases hb0:b=0
  ·subst hb0;by_cases hc:(a:Int)<=k+n
   ·have HR:AO (Dy D U k T n 3 a 0=⟨true,D,U,max a k,T.drop (DW k a*2),n-DW k a⟩):=by show _=_;unfold Dy;rw[AQ AK,AQ AK,AP rfl,AP ⟨rfl,hc⟩]
    have HD:AO (decide ((a:Int)<=k+n)=true):=Aj hc;clear hc;go_enter func31,ntmps31;go_wp2_with fail;refine(I0 (H:=H) (B:=B) (T:=T) (n:=n) a AJ AJ HB.o HSD.o HSU.o HV.o h0 h1 hn hH hgB).mono ?_;intro e w2 h;have HF:AO (Dr H B g w (Dy D U k T n 3 a 0) e w2):=by
     show Dr _ _ _ _ _ _ _
     rw[HR.o];exact M0.to (by rw[HD.o] at h;exact h) HW.o (λv _=>Iff.rfl) (λv _=>Iff.rfl)
    rw[HD.o] at h;obtain⟨rfl,h⟩:=h;clear h HB HV HW HZ HSD HSU HPL HSER HR;go_wp2
    go_ret
    exact HF.o
   ·have HR:AO (Dy D U k T n 3 a 0=EE):=by show _=_;unfold Dy;rw[AQ AK,AQ AK,AP rfl,AQ (λh=>hc h.2)]
    have HD:AO (decide ((a:Int)<=k+n)=false):=Ac hc;clear hc;go_enter func31,ntmps31;go_wp2_with fail;refine(I0 (H:=H) (B:=B) (T:=T) (n:=n) a AJ AJ HB.o HSD.o HSU.o HV.o h0 h1 hn hH hgB).mono ?_;intro e w2 h;have HF:AO (Dr H B g w (Dy D U k T n 3 a 0) e w2):=by
     show Dr _ _ _ _ _ _ _
     rw[HR.o];exact(by rw[HD.o] at h;exact⟨h.1,HW.o.trans h.2.1,λh'=>by cases h'⟩)
    rw[HD.o] at h;obtain⟨rfl,h⟩:=h;clear h HB HV HW HZ HSD HSU HPL HSER HR;go_wp2
    go_ret
    exact HF.o
  ·have hb0':¬ ((b:Int)=0):=AJ
   have HF:AO (Dr H B g w (Dy D U k T n 3 a b) (aQ (ae false)) (w.alloc (aa #[aO ai seq,aO aZ 3,aO ai a,aO ai b] 38))):=by
    show Dr _ _ _ _ _ _ _
    have:Dy D U k T n 3 a b=EE:=by unfold Dy;rw[AQ AK,AQ AK,AP rfl,AQ (λh=>hb0 h.1)]
    rw[this];exact⟨rfl,HW.o,λh'=>by cases h'⟩
   clear HB HV HW HZ HSD HSU HPL HSER;go_enter func31,ntmps31;go_wp2
   go_ret
   exact HF.o
 ·have HF:AO (Dr H B g w (Dy D U k T n kind a b) (aQ (ae false)) (w.alloc (aa #[aO ai seq,aO aZ kind,aO ai a,aO ai b] 38))):=by
   show Dr _ _ _ _ _ _ _
   have:Dy D U k T n kind a b=EE:=by unfold Dy;rw[AQ k1,AQ k2,AQ k3]
   rw[this];exact⟨rfl,HW.o,λh'=>by cases h'⟩
  clear HB HV HW HZ HSD HSU HPL HSER;go_enter func31,ntmps31;go_wp2
  go_ret
  exact HF.o
theorem Ve (aD aU aT:Option Addr) (nD cD nU cU nT cT:Nat) (D U:List Int) (k:Int) (T:List Int) (seq kind:Int) (a b:Nat) (w:aV) (hD:D.length=nD) (hU:U.length=nU) (hT:T.length=nT*2) (mD:nD<=1048576) (mU:nU<=1048576) (mT:nT<=1048576)
  (haD:At aZ w aD D) (haU:At aZ w aU U) (haT:At aZ w aT T) (hnil:aT=aS->nT=0/\cT=0) (hk0:-9223372036854775808<=k) (hk1:k<9223372036854775808) (ha:a<4294967296) (hbb:b<4294967296) :
  Calls tP 10 #[af #[aM aD nD cD,aM aU nU cU,aO aZ k,aM aT nT cT],af #[aO ai seq,aO aZ kind,aO ai a,aO ai b]] w λe w'=>∃ v,e=aQ v/\V4 w.heap.size w' v (EY D U k T nT kind a b)/\Below w.heap.size w w':=by
 have HX0:AO (IX w #[aO ai seq,aO aZ kind,aO ai a,aO ai b] (((w.alloc (aa #[aM aD nD cD,aM aU nU cU,aO aZ k,aM aT nT cT] 26)).alloc (aa #[aO ai seq,aO aZ kind,aO ai a,aO ai b] 38)).alloc (aa CE 42))):=IX.start _ _ _;have HZ0:AO ((((w.alloc (aa #[aM aD nD cD,aM aU nU cU,aO aZ k,aM aT nT cT] 26)).alloc (aa #[aO ai seq,aO aZ kind,aO ai a,aO ai b] 38)).alloc (aa CE 42)).heap.size=w.heap.size+3):=by show _=_;simp
 have HC:=Gg aD aU aT nD cD nU cU nT cT D U k T _ hD hU hT mD mU mT (haD.below HX0.o.below) (haU.below HX0.o.below) (haT.below HX0.o.below) hnil hk0 hk1;have HLU:=CY <| hU
 have HRZ:AO ((tP.info? 42).map (·.size)=aR 5):=by show _=_;kernel_rfl
 go_enter func10,ntmps10;go_wp2_with fail;generalize (((w.alloc (aa #[aM aD nD cD,aM aU nU cU,aO aZ k,aM aT nT cT] 26)).alloc (aa #[aO ai seq,aO aZ kind,aO ai a,aO ai b] 38)).alloc (aa CE 42))=w0 at *;refine HC.mono ?_;rintro e w1 ⟨bk,rfl,hs,ho,hb,hbk⟩;have HX1:=CY <| HX0.o.call hb (by rw[HZ0.o];omega)
 have HB1:AO (w.heap.size+3<=w1.heap.size):=by show _<=_;have:=hb.size;rw[HZ0.o] at this;exact this
 have HN:AO ((w1.alloc (aa Tryz.zeroCells61 61)).heap[w1.heap.size]?=aR (aa Tryz.zeroCells61 61 (0,0))):=AS w1 _;have HSZ:AO ((tP.info? 61).map (·.size)=aR bk.size):=by show _=_;rw[hs];exact Tryz.sizeBook
 have HEQ:AO ((Tryz.zeroCells61).size=bk.size):=by show _=_;rw[hs];exact FA
 have HOK:=CY <| ho
 have b2:∀ cs,Below w1.heap.size w1 ((w1.alloc (aa Tryz.zeroCells61 61)).setRow w1.heap.size cs):=λcs=>(Cf.alloc Ch _).trans ((Wr.setRow _ _ _).below Ch)
 have HB2:=CY <| b2 bk
 have HR2:AO (((w1.alloc (aa Tryz.zeroCells61 61)).setRow w1.heap.size bk).heap[w1.heap.size]?=aR (aa bk 61 (0,0))):=AB HN.o;have HBK:AO (Ep D U k T nT=true->∃ db ub v,bk=F9 db ub k v/\DM db (λv=>(v:Int)∈D)/\DM ub (λv=>(v:Int)∈U)/\Cj (w.heap.size+3) w1 v T nT):=by
  intro h;obtain⟨db,ub,v,h1,h2,h3,h4⟩:=hbk h;rw[HZ0.o] at h4;exact⟨db,ub,v,h1,h2,h3,h4⟩
 have HX2:=CY <| HX1.o.call (b2 bk) HB1.o
 have HAF:AO (EY D U k T nT kind a b=if Ep D U k T nT=true then Dy D U k T nT kind a b else EE):=rfl;have HST:AO (Ep D U k T nT=true->Tt D U k T nT):=GD;generalize hq:Ep D U k T nT=q at *;have HQ:=CY <| hq
 go_upto_region 2 with (first
  |(refine AE 61 (ah 5) (ah 10) w1.heap.size bk 61 HN.o HSZ.o HEQ.o HOK.o ?_)
  |fail)
 generalize (w1.alloc (aa Tryz.zeroCells61 61)).setRow w1.heap.size bk=w2 at *;cases q with
 |false=>
  have HF2:AO (EY D U k T nT kind a b=EE):=by show _=_;rw[HAF.o];rfl
  go_upto_region 3 with fail
  have HRB:=CY <| HX2.o.rb
  have HF:AO (V4 w.heap.size (w2.setRow (w.heap.size+2) CE) (af CE) (EY D U k T nT kind a b)/\Below w.heap.size w (w2.setRow (w.heap.size+2) CE)):=
   ⟨by rw[HF2.o];exact V4.no _ _,HX2.o.below.trans ((Wr.setRow _ _ _).below AJ)⟩
  go_wp2_with (first
   |(refine AE 42 (ah 4) (ah 19) (w.heap.size+2) CE 42 HRB.o HRZ.o rfl (by simp[Value.oneCell']) ?_)
   |fail)
  exact AU (v:=af CE) (AY rfl _ _ (w.heap.size+2) 42 _ (0,0) _ rfl (AB HRB.o) underlying42 rfl HRZ.o) rfl ⟨_,rfl,HF.o.1,HF.o.2⟩
 |true=>
  have HF2:AO (EY D U k T nT kind a b=Dy D U k T nT kind a b):=by show _=_;rw[HAF.o];rfl
  obtain⟨db,ub,v9,rfl,hsd,hsu,hto⟩:=HBK.o rfl;have hst:=HST.o rfl;have hbk:Bk w2 w1.heap.size db ub k v9:=⟨HR2.o,hsd.1,hsu.1,hsd.2.1,hsu.2.1⟩
  have hne:Jn w1.heap.size v9:=λt ht e=>by
   rcases hto.2 with⟨h',_⟩|⟨g,c,cur,h',hb,hh,_⟩
   {rw[h'] at ht;simp[Value.ownBlock] at ht};{rw[h'] at ht;simp[Value.ownBlock] at ht;have:=(AR.1 hh).1;omega}
  have hto2:Cj (w.heap.size+3) w2 v9 T nT:=by
   refine⟨hto.1,?_⟩;rcases hto.2 with h'|⟨g,c,cur,h1,h2,h3,h4⟩
   {exact .inl h'};{exact .inr ⟨g,c,cur,h1,h2,by rw[HB2.o.block g (AR.1 h3).1];exact h3,h4⟩}
  have hkn:k+nT=(nU:Int):=by have:=hst.2.2.2.2.1;rw[HLU.o] at this;exact this
  have HC:=Qy seq kind a b ha hbb (H:=w.heap.size+3) (B:=w.heap.size+3) hbk hsd hsu hto2.tapV hst.1 hst.2.2.2.1 AJ mT HB1.o Ch hne (AH HB2.o.size HB1.o);have HSR:=L3 (k:=k) (T:=T) (n:=nT) (kind:=kind) (a:=a) (b:=b) hst.1 hst.2.2.1;have HNO:AO ((Dy D U k T nT kind a b).ok=false->Dy D U k T nT kind a b=EE):=XB;have HSER:=CY <| HSR
  have HG:=CY <| hbk.lt
  have f0:w2.cell? ⟨w.heap.size+1,0,aS⟩=aR (aO ai seq):=by rw[AA HX2.o.fb 0];rfl
  have f1:w2.cell? ⟨w.heap.size+1,1,aS⟩=aR (aO aZ kind):=by rw[AA HX2.o.fb 1];rfl
  have f2:w2.cell? ⟨w.heap.size+1,2,aS⟩=aR (aO ai a):=by rw[AA HX2.o.fb 2];rfl
  have f3:w2.cell? ⟨w.heap.size+1,3,aS⟩=aR (aO ai b):=by rw[AA HX2.o.fb 3];rfl
  generalize Dy D U k T nT kind a b=r at *;go_wp2_with fail;refine HC.mono ?_;rintro e w3 ⟨rfl,hb3,hp⟩;have HX3:=CY <| HX2.o.call hb3 Ch
  have HRB:=CY <| HX3.o.rb
  cases hr:r.ok with
  |false=>
   have HF3:AO (EY D U k T nT kind a b=EE):=by show _=_;rw[HF2.o,HNO.o hr]
   have HF:AO (V4 w.heap.size (w3.setRow (w.heap.size+2) CE) (af CE) (EY D U k T nT kind a b)/\Below w.heap.size w (w3.setRow (w.heap.size+2) CE)):=
    ⟨by rw[HF3.o];exact V4.no _ _,HX3.o.below.trans ((Wr.setRow _ _ _).below AJ)⟩
   go_upto_region 3 with fail
   go_wp2_with (first
    |(refine AE 42 (ah 4) (ah 19) (w.heap.size+2) CE 42 HRB.o HRZ.o rfl (by simp[Value.oneCell']) ?_)
    |fail)
   exact AU (v:=af CE) (AY rfl _ _ (w.heap.size+2) 42 _ (0,0) _ rfl (AB HRB.o) underlying42 rfl HRZ.o) rfl ⟨_,rfl,HF.o.1,HF.o.2⟩
  |true=>
   obtain⟨d',u',v',r1,r2,r3,r4,r5⟩:=hp hr;obtain⟨aT',cT',rfl⟩:=r4.slice;have HS:=LG aT' r.n cT' (λv=>decide ((v:Int)∈r.D)) (λv=>decide ((v:Int)∈r.U)) r1 (r2.congr (λv _=>AL)) (r3.congr (λv _=>AL));rw[HSER.o.1.eq_upTo _ (λv _=>AL),HSER.o.2.eq_upTo _ (λv _=>AL)] at HS;have HTV:=CY <| r4
   have HRK:=CY <| hr
   go_wp2_with fail;refine HS.mono ?_;rintro e w4 ⟨aD',nD',cD',aU',nU',cU',rfl,g1,g2,g3,hb4⟩;have HRB4:AO (w4.heap[w.heap.size+2]?=aR (aa CE 42 (0,0))):=by show _=_;rw[hb4.block _ (AR.1 HRB.o).1];exact HRB.o
   have hw5:Wr (w.heap.size+2) w4 (w4.setRow (w.heap.size+2) #[ae true,aM aD' nD' cD',aM aU' nU' cU',aO aZ r.k,aM aT' r.n cT']):=Wr.setRow _ _ _;have HF:AO (V4 w.heap.size (w4.setRow (w.heap.size+2) #[ae true,aM aD' nD' cD',aM aU' nU' cU',aO aZ r.k,aM aT' r.n cT']) (af #[ae true,aM aD' nD' cD',aM aU' nU' cU',aO aZ r.k,aM aT' r.n cT']) (EY D U k T nT kind a b)/\Below w.heap.size w (w4.setRow (w.heap.size+2) #[ae true,aM aD' nD' cD',aM aU' nU' cU',aO aZ r.k,aM aT' r.n cT'])):=by
    have hlt:=(AR.1 HRB.o).1;obtain⟨s1,s2,s3⟩:=g1.sat;obtain⟨t1,t2,t3⟩:=g2.sat;obtain⟨q1,q2,q3⟩:=HTV.o.sat;have q4:OJ w4 aT' r.T:=q1.below hb4;have q5:GC (w.heap.size+3) w4 aT':=q3.mono Ch hb4.size;refine⟨⟨aD',nD',cD',aU',nU',cU',aT',r.n,cT',by rw[HF2.o,HRK.o],?_⟩,(HX3.o.below.trans (hb4.mono HX3.o.below.size)).trans (hw5.below AJ)⟩;rw[HF2.o];have z:(w4.setRow (w.heap.size+2) #[ae true,aM aD' nD' cD',aM aU' nU' cU',aO aZ r.k,aM aT' r.n cT']).heap.size=w4.heap.size:=hw5.size;refine⟨s1.keep (by rw[z];exact Aa _) (λad e _=>hw5.block _ (AG (s3 ad e).1)),t1.keep (by rw[z];exact Aa _) (λad e _=>hw5.block _ (AG (t3 ad e).1)),q4.keep (by rw[z];exact Aa _) (λad e _=>hw5.block _ (AG (q5 ad e).1)),s2,t2,q2,?_,?_,?_,?_,?_,?_⟩
    {exact s3.mono AJ (by rw[z];exact Aa _)};{exact t3.mono AJ (by rw[z];exact Aa _)};{exact q5.mono AJ (by rw[z];exact Aa _)};{exact λx y hx hy e=>g3 x.block (by rw[hx];rfl) (by rw[hy,e];rfl)};{exact λx y hx hy e=>AH (s3 x hx).1 (q3 y hy).2};{exact λx y hx hy e=>AH (t3 x hx).1 (q3 y hy).2}
   go_wp2_with (first
    |(refine AE 42 (ah 4) (ah 21) (w.heap.size+2) #[ae true,aM aD' nD' cD',aM aU' nU' cU',aO aZ r.k,aM aT' r.n cT'] 42 HRB4.o HRZ.o rfl (by simp[Value.oneCell']) ?_)
    |fail)
   exact AU (v:=af #[ae true,aM aD' nD' cD',aM aU' nU' cU',aO aZ r.k,aM aT' r.n cT']) (AY rfl _ _ (w.heap.size+2) 42 _ (0,0) _ rfl (AB HRB4.o) underlying42 rfl HRZ.o) rfl ⟨_,rfl,HF.o.1,HF.o.2⟩
end Go.Proofs.YtncomnkdlpoelaaGreatDoor
