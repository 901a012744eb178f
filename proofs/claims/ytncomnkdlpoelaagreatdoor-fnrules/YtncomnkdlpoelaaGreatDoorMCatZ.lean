import Derived.Test.YtncomnkdlpoelaaGreatDoorMReg
open Go.Proofs.Tryz renaming prog->tP
open Go.Proofs.Tryz
open Go.Value renaming slice->aM,int->aO,pointer->aY,bool->ae,agg->af
open Go.IntKind renaming i64->aZ,u8->aP
open Go.Obj renaming cells->aa
open Go.Ending renaming returned->aQ
open Go.Ground renaming data->ag
open Option renaming some->aR,none->aS
open Go renaming World->aV,Value->aX
set_option maxHeartbeats 4000000
set_option maxRecDepth 100000
namespace Go.Proofs.YtncomnkdlpoelaaGreatDoor
open Go.ChangeShapes Go.WideShapes Go.ChangeAt Go.RowKit
set_option linter.unusedVariables false
theorem QA (n:Int) (w:aV) (h0:0<=n) (h1:n<=1048576) :
  Calls tP 65 #[aO aZ n] w λe w'=>∃ v,e=aQ v/\DB w' w.heap.size v (List.replicate n.toNat 0)/\Below w.heap.size w w':=by
 obtain⟨n,rfl⟩:=Ab h0;go_enter func65,ntmps65;go_wp2
 go_loopw [3,4] (λv i wr=>∃ k:Nat,k<=n/\i=aO aZ k/\DB wr w.heap.size v (List.replicate k 0)/\Below w.heap.size w wr) (λ_ i _=>n-(intOf i).toNat)
 case atStart=>exact⟨0,Aw _,rfl,DB.empty _ _ Ch,Cf.alloc Ch _⟩
 case round=>
  obtain⟨k,hk,rfl,hown,hbel⟩:=hrel;by_cases hlt:k<n
  ·have hsz:=hbel.size;go_wp2_with (at_builtin;refine Cv _ rfl _ _ rfl w.heap.size _ _ rfl (hown.alloc _) ⟨wr.heap.size,0,aS⟩ 1 1 [0] rfl rfl ?c1 ?c2 ?c3 ?_)
   case c1=>intro j hj;obtain rfl:j=0:=AJ
            simp[Addr.add]
   case c2=>simp;omega
   case c3=>simp;omega
   intro v' w1 hown' hbel' _;have HO:AO (DB w1 w.heap.size v' (List.replicate (k+1) 0)):=by rw[List.replicate_succ'];exact hown'
   have HB:AO (Below w.heap.size w w1):=(hbel.alloc AJ _).trans hbel';clear hown hown' hbel hbel';go_wp2;go_roundw
   case rel=>exact⟨k+1,AJ,by go_num,HO.o,HB.o⟩
   case measure=>simp[intOf];omega
  ·have hkn:k=n:=AJ
   subst hkn;have HO:AO _:=hown;clear hown;go_wp2
   go_ret
   exact⟨_,rfl,HO.o,hbel⟩
def lB:List Int:=[0xed,0xd3,0xf5,0x5c,0x1a,0x63,0x12,0x58,0xd6,0x9c,0xf7,0xa2,0xde,0xf9,0xde,0x14,0,0,0,0,0,0,0,0,0,0,0,0,0,0,0,0x10]
def DZ:Int:=7237005577332262213973186563042994240857116359379907606001950938285454250989
theorem Rj:val 256 lB=DZ:=AK
theorem Oz:Cb lB:=by unfold Cb lB;decide
theorem DB.lit (w:aV) (B:Nat) (zs:List Int) (hB:B<=w.heap.size) (hl:zs.length<=1024):DB (w.alloc (aa (zs.map (Value.int aP)).toArray 5)) B (aM (aR ⟨w.heap.size,0,aS⟩) zs.length zs.length) zs:=
 ⟨by
  have:=World.ownsRow_lit w (e:=5) (size:=1) (base:=B) (zs.map (Value.int aP)).toArray zs.length hB (by unfold maxLen;omega) AL;exact this,_,_,rfl⟩
theorem O0 (w:aV) :
  Calls tP 96 #[] w λe w'=>∃ v,e=aQ v/\DB w' w.heap.size v lB/\Below w.heap.size w w':=by
 have HO:=DB.lit w w.heap.size lB Ch AK;go_enter func96,ntmps96;go_wp2
 go_ret
 exact⟨_,rfl,HO,Cf.alloc Ch _⟩
def Rk (w:aV) (xs ys:List Int) (e:Ending) (w':aV):Prop:=
 ∃ v zs,e=aQ (.tuple #[v,ae (decide (val 256 ys<=val 256 xs))])/\DB w' w.heap.size v zs/\Cb zs/\zs.length=xs.length/\(val 256 ys<=val 256 xs->val 256 zs=val 256 xs-val 256 ys)/\Below w.heap.size w w'
theorem QB (p q z P x y b x' b':Int) (h:p-q=z-b*P) (hx:x'-b'*256=x-y-b):(p+x*P)-(q+y*P)=(z+x'*P)-b'*(P*256):=by
 have:(x'-b'*256)*P=(x-y-b)*P:=by rw[hx]
 grind
theorem Rl (p q z P b:Int) (h:p-q=z-b*P) (hz:0<=z) (hz':z<P) (hb:b=0\/b=1):(b == 0)=decide (q<=p)/\(q<=p->z=p-q):=by
 rcases hb with rfl|rfl
 ·have:q<=p:=AJ
  simp[this];omega
 ·have:¬ q<=p:=AJ
  simp[this]
theorem Ku (a a':Option Addr) (n cap cap':Nat) (xs ys:List Int) (w:aV) (hn:xs.length=n) (hn':ys.length=n) (hm:n<=1048576) (ha:At aP w a xs) (ha':At aP w a' ys) (hx:Cb xs) (hy:Cb ys) :
  Calls tP 95 #[aM a n cap,aM a' n cap'] w (Rk w xs ys):=by
 go_enter func95,ntmps95;go_wp2
 go_loopw [6,7,8] (λv c i wr=>∃(k:Nat) (zs:List Int) (b:Int),k<=n/\i=aO aZ k/\c=aO aZ b/\(b=0\/b=1)/\zs.length=k/\Cb zs/\val 256 (xs.take k)-val 256 (ys.take k)=val 256 zs-b*256^k/\DB wr w.heap.size v zs/\Below w.heap.size w wr) (λ_ _ i _=>n-(intOf i).toNat)
 case atStart=>exact⟨0,[],0,Aw _,rfl,rfl,.inl rfl,rfl,by simp[Cb],by simp[val],DB.empty _ _ Ch,Cf.alloc Ch _⟩
 case round=>
  obtain⟨k,zs,b,hk,rfl,rfl,hb,hzl,hzb,hv,hown,hbel⟩:=hrel;by_cases hlt:k<n
  ·have hsz:=hbel.size;have vx:=DN 256 xs k AJ;have vy:=DN 256 ys k AJ;obtain⟨b0,off,rfl,hb0,hc⟩:=(ha.below hbel).get AJ;obtain⟨b1,off',rfl,hb1,hc'⟩:=(ha'.below hbel).get AJ;have c0:=hc k AJ;have c1:=hc' k AJ;have hx0:=hx.get k;have hy0:=hy.get k;obtain⟨x',b',hb',hx0',hx1',hx2⟩:∃ x' b':Int,(b'=0\/b'=1)/\0<=x'/\x'<256/\x'-b'*256=xs.getD k 0-ys.getD k 0-b:=by
    by_cases h:xs.getD k 0-ys.getD k 0-b<0
    {exact⟨xs.getD k 0-ys.getD k 0-b+256,1,.inr rfl,AJ,AJ,AJ⟩};{exact⟨xs.getD k 0-ys.getD k 0-b,0,.inl rfl,AJ,AJ,AJ⟩}
   have hstep:=QB _ _ _ _ _ _ _ _ _ hv hx2;rw[<-vx,<-vy,show(256:Int)^k*256=256^(k+1) from(Int.pow_succ _ _).symm,<-hzl,<-GF,hzl] at hstep;have HS:AO _:=hstep;have HBy:=CY <| KW.snoc (B:=256) hzb hx0' hx1'
   have HZL:=CY <| hzl
   clear hstep hv vx vy hc hc' ha ha' hx hy hzb hzl;generalize xs.getD k 0=x at *;generalize ys.getD k 0=y at *;obtain⟨hx0,hx1⟩:=hx0;obtain⟨hy0,hy1⟩:=hy0;have hlt':(k:Int)<(n:Int):=AJ
   go_wp2
   go_quiet (fail)
   have O2:DB (wr.drewN nq) w.heap.size u6 zs:=hown;have B2:Below w.heap.size w (wr.drewN nq):=⟨hbel.os,hbel.tape,hbel.output,hbel.size,hbel.block⟩
   have Z2:w.heap.size<=(wr.drewN nq).heap.size:=hsz;clear hown hbel hsz c0 c1 hb0 hb1;generalize wr.drewN nq=w2 at *;have ht0:-257<x-y-b:=AJ
   have ht1:x-y-b<256:=AJ
   generalize x-y-b=t at *;by_cases hneg:t<0
   ·obtain rfl:b'=1:=AJ
    obtain rfl:x'=t+256:=AJ
    clear hx2 hb hb';go_wp2_with (at_builtin;refine Cv _ rfl _ _ rfl w.heap.size _ _ rfl (O2.alloc _) ⟨w2.heap.size,0,aS⟩ 1 1 [t+256] rfl rfl ?c1 ?c2 ?c3 ?_);all_goals first|(intro j hj;obtain rfl:j=0:=AJ
                                                                                                                                                                               simp[Addr.add];done)|skip
    case c2=>rw[HZL.o];omega
    case c3=>first|omega|(rw[Ay];omega)
    intro v' w3 hown' hbel' _;have HO:AO (DB w3 w.heap.size v' (zs++[t+256])):=hown';have HB:AO (Below w.heap.size w w3):=(B2.alloc AJ _).trans hbel';clear O2 hown' B2 hbel';go_wp2;go_roundw
    case rel=>exact⟨k+1,zs++[t+256],1,AJ,by go_num,rfl,.inr rfl,by rw[Ae,HZL.o];rfl,HBy.o,HS.o,HO.o,HB.o⟩
    case measure=>simp[intOf];omega
   ·obtain rfl:b'=0:=AJ
    obtain rfl:x'=t:=AJ
    have hneg':decide (x'<0)=false:=by simpa using hneg
    clear hx2 hb hb' hneg';go_wp2_with (at_builtin;(refine Cv _ rfl _ _ rfl w.heap.size _ _ rfl (O2.alloc _) ⟨w2.heap.size,0,aS⟩ 1 1 [x'] rfl rfl ?d1 ?d2 ?d3 ?_));all_goals first|(intro j hj;obtain rfl:j=0:=AJ
                                                                                                                                                                                    simp[Addr.add];done)|skip
    case d2=>rw[HZL.o];omega
    case d3=>first|omega|(rw[Ay];omega)
    intro v' w3 hown' hbel' _;have HO:=CY <| hown'
    have HB:=CY <| (B2.alloc AJ _).trans hbel'
    clear O2 hown' B2 hbel';go_wp2;go_roundw
    case rel=>exact⟨k+1,zs++[x'],0,AJ,by go_num,rfl,.inl rfl,by rw[Ae,HZL.o];rfl,HBy.o,HS.o,HO.o,HB.o⟩
    case measure=>simp[intOf];omega
  ·rw[Ad AJ,Ad AJ] at hv;have z0:=C0 AK hzb;have z1:val 256 zs<256^k:=by rw[<-hzl];exact Eg AK hzb
   obtain⟨e1,e2⟩:=Rl _ _ _ _ _ hv z0 z1 hb;have H1:=CY <| e1
   have H2:=CY <| e2
   have H3:=CY <| hown
   have HZL:AO (zs.length=xs.length):=by rw[hzl];show k=xs.length;omega
   clear e1 e2 z0 z1 hv hown hzl;go_wp2;refine AU (v:=.tuple #[u6,ae (b == 0)]) (by simp[results,Tryz.results95,go_sem]) rfl ⟨u6,zs,by rw[H1.o],H3.o,hzb,HZL.o,H2.o,hbel⟩
def Y8 (e f q:Int):Int:=bits .xor .u64 (bits .and .u64 e f) (bits .and .u64 (bits .xor .u64 IntKind.u64.max e) q)
def Zt (a b c:Int):Int:=bits .xor .u64 (bits .xor .u64 (bits .and .u64 a b) (bits .and .u64 a c)) (bits .and .u64 b c)
def UT (a b c d e f q z x:Int):Int:=IntKind.u64.wrap (IntKind.u64.wrap (IntKind.u64.wrap (z+Yv e)+Y8 e f q)+x)
def Xf (a b c:Int):Int:=IntKind.u64.wrap (Xu a+Zt a b c)
theorem Tryz.sizeU64:(tP.info? 135).map (·.size)=aR 1:=AM
theorem Rm {w:aV} {o:Oper} {ac:Act} {K:Act->aV->Prop} {Q:Exit->Act->aV->Prop} (dd ss:Operand)
  (ho:o.op=.call { callee:=.builtin .copy,args:=#[dd,ss],argTypes:=#[134,134] }) (g:Nat) (ty:TypeId) (a b c d e f q z:Int)
  (hd:ac.eval dd=aM (aR ⟨g,1,aS⟩) 7 7) (hs:ac.eval ss=aM (aR ⟨g,0,aS⟩) 7 8) (hg:w.heap[g]?=aR (aa #[aO .u64 a,aO .u64 b,aO .u64 c,aO .u64 d,aO .u64 e,aO .u64 f,aO .u64 q,aO .u64 z] ty (0,0)))
  (h:∀ w',w'.heap[g]?=aR (aa #[aO .u64 a,aO .u64 a,aO .u64 b,aO .u64 c,aO .u64 d,aO .u64 e,aO .u64 f,aO .u64 q] ty (0,0))->Wr g w w'->K (ac.put o.dst (goInt 7)) w'):o.wp tP ac w K Q:=by
 have hrun:=run_copy_row (P:=tP) w 134 134 o.type 135 g 1 7 7 ⟨g,0,aS⟩ 7 8 #[aO .u64 a,aO .u64 b,aO .u64 c,aO .u64 d,aO .u64 e,aO .u64 f,aO .u64 q,aO .u64 z] ty [aO .u64 a,aO .u64 b,aO .u64 c,aO .u64 d,aO .u64 e,aO .u64 f,aO .u64 q] underlying134 Tryz.sizeU64 hg rfl (λj v hv=>by
  have hj:j<7:=by have:=(Am.1 hv).1;simpa using this
  rw[A0,AA hg _,Ar];have:j=0\/j=1\/j=2\/j=3\/j=4\/j=5\/j=6:=AJ
  rcases this with rfl|rfl|rfl|rfl|rfl|rfl|rfl<;>simpa using hv) AL (by simp[Value.oneCell'])
 unfold Oper.wp;simp[execOp,ho,resolve,invoke,builtin,hd,hs,hrun,Result.andThen];exact h _ (by rw[AB hg]) (Wr.setRow _ _ _)
theorem QC (g:Nat) (ty:TypeId) (a b c d e f q z x:Int) (w:aV) (hr:w.heap[g]?=aR (aa #[aO .u64 a,aO .u64 b,aO .u64 c,aO .u64 d,aO .u64 e,aO .u64 f,aO .u64 q,aO .u64 z] ty (0,0)))
  (ha:EQ a) (hb:EQ b) (hc:EQ c) (hd:EQ d) (he:EQ e) (hf:EQ f) (hq:EQ q) (hz:EQ z) (hx:EQ x) :
  Calls tP 157 #[aY (aR ⟨g,0,aS⟩),aO .u64 x] w λen w'=>en=aQ (.tuple #[])/\w'.heap[g]?=aR (aa #[aO .u64 (IntKind.u64.wrap (UT a b c d e f q z x+Xf a b c)),aO .u64 a,aO .u64 b,aO .u64 c,aO .u64 (IntKind.u64.wrap (d+UT a b c d e f q z x)),aO .u64 e,aO .u64 f,aO .u64 q] ty (0,0))/\Wr g w w':=by
 have HE:=CX he;have HA:=CX ha;have HR:=CX hr;have c0:w.cell? ⟨g,0,aS⟩=aR (aO .u64 a):=AA hr _;have c1:w.cell? ⟨g,1,aS⟩=aR (aO .u64 b):=AA hr _;have c2:w.cell? ⟨g,2,aS⟩=aR (aO .u64 c):=AA hr _;have c3:w.cell? ⟨g,3,aS⟩=aR (aO .u64 d):=AA hr _;have c4:w.cell? ⟨g,4,aS⟩=aR (aO .u64 e):=AA hr _;have c5:w.cell? ⟨g,5,aS⟩=aR (aO .u64 f):=AA hr _;have c6:w.cell? ⟨g,6,aS⟩=aR (aO .u64 q):=AA hr _;have c7:w.cell? ⟨g,7,aS⟩=aR (aO .u64 z):=AA hr _;obtain⟨a0,a1⟩:=ha;obtain⟨b0,b1⟩:=hb;obtain⟨c0,c1⟩:=hc;obtain⟨d0,d1⟩:=hd;obtain⟨e0,e1⟩:=he;obtain⟨f0,f1⟩:=hf;obtain⟨q0,q1⟩:=hq;obtain⟨z0,z1⟩:=hz;obtain⟨x0,x1⟩:=hx;clear hr;go_enter func157,ntmps157;go_wp2
 go_quiet (fail)
 go_wp2
 go_quiet (fail)
 go_wp2
 go_quiet (first|(refine(WY e _ HE.o).mono ?_;rintro _ _ ⟨h1,h2⟩;exact⟨h1,_,h2⟩))
 go_wp2_with fail;refine(WX a _ HA.o).mono ?_;rintro _ w9 ⟨rfl,hw9⟩;subst w9;obtain⟨t1,ht1⟩:∃ t1,UT a b c d e f q z x=t1:=⟨_,rfl⟩
 have u1:EQ t1:=by rw[<-ht1];exact D0 _
 have ht1':=ht1;unfold UT Y8 at ht1';rw[ht1'];obtain⟨u10,u11⟩:=u1;have u2:=US a;obtain⟨s0,hs0⟩:∃ s0,Xu a=s0:=⟨_,rfl⟩
 rw[hs0] at u2 |-;obtain⟨u20,u21⟩:=u2;obtain⟨t2,ht2⟩:∃ t2,Xf a b c=t2:=⟨_,rfl⟩
 have u3:EQ t2:=by rw[<-ht2];exact D0 _
 have ht2':=ht2;unfold Xf Zt at ht2';rw[hs0] at ht2';obtain⟨u30,u31⟩:=u3;have HT1:=CX ht1;have HT2:=CX ht2;clear ht1 ht1' hs0 ht2
 go_upto_region 4 with fail
 try rw[ht2']
 clear ht2';have HWN:∀ k,AO (Wr g w (w.drewN k)):=λk=>(Wr.refl g w).drewN k
 refine Ag AM ?_;refine Cg (λ_ _ _=>True) (frame:=(λ(a b c d e f g h i j k l m n o p q r s u v w x y z A B C D E F G H I J K L M N O P Q R S T U V W X Y Z a0 a1 a2 a3 a4 a5 a6 a7 a8 a9 b0 b1 b2 b3 b4 b5 b6 b7 b8 b9 c0 c1 c2 c3 c4 c5 c6 c7 c8 c9 d0:aX)=>λ(t:Nat->aX)=>({ tmps:=List.toArray [a,b,c,d,e,f,g,h,i,j,k,l,m,n,o,p,q,r,s,u,v,w,x,y,z,A,B,C,D,E,F,G,H,I,J,K,L,M,N,O,P,Q,R,S,T,U,V,W,X,Y,Z,a0,a1,a2,a3,a4,a5,a6,a7,a8,a9,b0,b1,b2,b3,b4,b5,b6,t 0,t 1,t 2,t 3,t 4,t 5,t 6,b7,b8,b9,c0,c1,c2,c3,c4,c5,c6,c7,c8,c9,d0],defers:=[] }:Act)) _ _ _ _ _ _ _ _ _ _ _ _ _ _ _ _ _ _ _ _ _ _ _ _ _ _ _ _ _ _ _ _ _ _ _ _ _ _ _ _ _ _ _ _ _ _ _ _ _ _ _ _ _ _ _ _ _ _ _ _ _ _ _ _ _ _ _ _ _ _ _ _ _ _ _ _ _ _ _ _ _ _)
  (Ext:=λL u w'=>if L 6=true then w'.heap[g]?=aR (aa #[aO .u64 a,aO .u64 a,aO .u64 b,aO .u64 c,aO .u64 d,aO .u64 e,aO .u64 f,aO .u64 q] ty (0,0))/\Wr g w w' else w'.heap[g]?=aR (aa #[aO .u64 a,aO .u64 b,aO .u64 c,aO .u64 d,aO .u64 e,aO .u64 f,aO .u64 q,aO .u64 z] ty (0,0))/\Wr g w w') (Good:=λi L w' v=>if i=0 then v=aY (aR ⟨g,0,aS⟩) else if i=1 then v=aY (aR ⟨g,0,aS⟩) else if i=2 then v=aM (aR ⟨g,1,aS⟩) 7 7 else if i=3 then v=aY (aR ⟨g,0,aS⟩) else if i=4 then v=aY (aR ⟨g,0,aS⟩) else if i=5 then v=aM (aR ⟨g,0,aS⟩) 7 8 else if i=6 then L 6=true else True) ?hstab AM ?hop ?hdone _ _ ((λ(x0 x1 x2 x3 x4 x5 x6:aX)=>λ(i:Nat)=>if i=0 then x0 else if i=1 then x1 else if i=2 then x2 else if i=3 then x3 else if i=4 then x4 else if i=5 then x5 else if i=6 then x6 else undef) _ _ _ _ _ _ _) _ AL ?ext ?start AL
 case start=>intro i hi h;exact absurd h Ef
 case ext=>
  rw[AQ (by show ¬ (Array.getD _ _ _=true);rw[BX,Bw];split<;>simp)];exact⟨HR.o,((HWN _).o).drew⟩
 case hstab=>
  intro j L w9 w' i v hM hij hLi h;by_cases hl:j=6
  {subst hl;simp at h |-;unfold CZ;simp[h]};{simp only[if_neg hl] at h |-;exact h}
 case hop=>
  intro i o L t w' ho hLi hx hdep K hK;have hi:i<7:=(AR.1 ho).1;obtain rfl|rfl|rfl|rfl|rfl|rfl|rfl:i=0\/i=1\/i=2\/i=3\/i=4\/i=5\/i=6:=AJ
  all_goals(simp at ho;subst ho)
  all_goals try(have hK':=hK w' _ rfl (by simpa[CZ] using hx) trivial;clear hK;simp[Region.binds] at hdep;rw[AP AN];go_simp;simpa[Ca,hdep] using hK';done)
  ·have d2:t 2=aM (aR ⟨g,1,aS⟩) 7 7:=by simpa using(hdep ⟨2,ag⟩ AL rfl).2
   have d5:t 5=aM (aR ⟨g,0,aS⟩) 7 8:=by simpa using(hdep ⟨5,ag⟩ AL rfl).2
   clear hdep;rw[hLi,AQ AK] at hx;rw[AP AN];refine Rm (.tmp 70) (.tmp 73) rfl g ty a b c d e f q z d2 d5 hx.1 ?_;intro w2 h2 hw2;exact hK w2 _ (by simp[CZ]) (by rw[AP (by simp[CZ])];exact⟨h2,hx.2.trans hw2⟩) trivial
 case hdone=>
  intro L t w4 hx hg;have hlast:L 6=true:=by simpa using hg 6 AK
  rw[AP hlast] at hx;clear hg hlast;have c4':w4.cell? ⟨g,4,aS⟩=aR (aO .u64 d):=AA hx.1 _;have f4':w4.frozen? ⟨g,4,aS⟩=false:=An _ _ _ _ _ hx.1;have c0':w4.cell? ⟨g,0,aS⟩=aR (aO .u64 a):=AA hx.1 _;have f0':w4.frozen? ⟨g,0,aS⟩=false:=An _ _ _ _ _ hx.1;have HX:=CX hx;clear hx;go_wp2
  go_region
  go_wp2
  go_end0
  obtain⟨hx1,hx2⟩:=HX.o;rw[HT1.o,HT2.o];refine⟨rfl,?_,((hx2.setCell 4 _).setCell 0 _).drew⟩;have h5:=Ao w4 g 4 _ _ (aO .u64 (IntKind.u64.wrap (d+t1))) hx1;have h6:=Ao _ g 0 _ _ (aO .u64 (IntKind.u64.wrap (t1+t2))) h5;exact h6
/-! Rows read whole and stored whole. -/
theorem FX {w:aV} {ops:Array Oper} {rest:List Oper} {o:Oper} {a:Act} {Q:Exit->Act->aV->Prop} {T e t':TypeId} {n:Nat} (hgd:o.guard=aS) (x:Operand) (ho:o.op=.load T x)
  (hu:tP.underlying T=aR (.array n e)) (hz:(tP.info? T).map (·.size)=aR n) (g:Nat) (es:List Int) (hx:a.eval x=aY (aR ⟨g,0,aS⟩)) (hl:es.length=n) (hr:Cd w g t' es)
  (hK:wpList tP ops Q rest (a.put o.dst (af (es.map (Value.int .u64)).toArray)) w):wpList tP ops Q (o::rest) a w:=
 AZ hgd T x ho g hx t' _ (0,0) _ hr hu rfl (by rw[hz];simp[hl]) hK
theorem E8 {w:aV} {ops:Array Oper} {rest:List Oper} {o:Oper} {a:Act} {Q:Exit->Act->aV->Prop} {T t':TypeId} {n:Nat} (hgd:o.guard=aS) (x y:Operand) (ho:o.op=.store T x y)
  (hz:(tP.info? T).map (·.size)=aR n) (g:Nat) (es zs:List Int) (hx:a.eval x=aY (aR ⟨g,0,aS⟩)) (hy:a.eval y=af (es.map (Value.int .u64)).toArray) (hl:es.length=n) (hl':zs.length=n) (hr:Cd w g t' zs)
  (hK:∀ w',Cd w' g t' es->Wr g w w'->wpList tP ops Q rest (a.put o.dst undef) w'):wpList tP ops Q (o::rest) a w:=
 Bx hgd T x y ho g ((es.map (Value.int .u64)).toArray) hx hy t' _ hr (by rw[hz];simp[hl]) (by simp[hl,hl']) (all_oneCell_toArray (Az _ _)) (hK _ (hr.setRow es) (Wr.setRow _ _ _))
theorem LV {w:aV} {ops:Array Oper} {rest:List Oper} {o:Oper} {a:Act} {Q:Exit->Act->aV->Prop} {T e t':TypeId} {n:Nat} (hgd:o.guard=aS) (x:Operand) (ho:o.op=.load T x)
  (hu:tP.underlying T=aR (.array n e)) (hz:(tP.info? T).map (·.size)=aR n) (g:Nat) (es:List Int) (hx:a.eval x=aY (aR ⟨g,0,aS⟩)) (hl:es.length=n) (hr:Er w g t' es)
  (hK:wpList tP ops Q rest (a.put o.dst (af (es.map (Value.int aP)).toArray)) w):wpList tP ops Q (o::rest) a w:=
 AZ hgd T x ho g hx t' _ (0,0) _ hr hu rfl (by rw[hz];simp[hl]) hK
theorem EK {w:aV} {ops:Array Oper} {rest:List Oper} {o:Oper} {a:Act} {Q:Exit->Act->aV->Prop} {T t':TypeId} {n:Nat} (hgd:o.guard=aS) (x y:Operand) (ho:o.op=.store T x y)
  (hz:(tP.info? T).map (·.size)=aR n) (g:Nat) (es zs:List Int) (hx:a.eval x=aY (aR ⟨g,0,aS⟩)) (hy:a.eval y=af (es.map (Value.int aP)).toArray) (hl:es.length=n) (hl':zs.length=n) (hr:Er w g t' zs)
  (hK:∀ w',Er w' g t' es->Wr g w w'->wpList tP ops Q rest (a.put o.dst undef) w'):wpList tP ops Q (o::rest) a w:=
 Bx hgd T x y ho g ((es.map (Value.int aP)).toArray) hx hy t' _ hr (by rw[hz];simp[hl]) (by simp[hl,hl']) (all_oneCell_toArray (Az _ _)) (hK _ (by unfold Er;rw[AB hr]) (Wr.setRow _ _ _))
theorem Cd.drew {w:aV} {g:Nat} {e:TypeId} {zs:List Int} (h:Cd w g e zs):Cd w.drew g e zs:=h
theorem Er.below {w w':aV} {g:Nat} {e:TypeId} {zs:List Int} {B:Nat} (h:Er w g e zs) (hb:Below B w w') (hg:g<B):Er w' g e zs:=by
 unfold Er;rw[hb.block g hg];exact h
theorem Tryz.sizeSch:(tP.info? 213).map (·.size)=aR 80:=AM
theorem Tryz.sizeWds:(tP.info? 175).map (·.size)=aR 8:=AM
theorem Tryz.sizeBlk:(tP.info? 178).map (·.size)=aR 128:=AM
def Nk:Array aX:=((List.replicate 80 (0:Int)).map (Value.int .u64)).toArray
theorem Vn:Nk=((List.replicate 80 (0:Int)).map (Value.int .u64)).toArray:=rfl
theorem Xv:∀ w,(zeroValue 213).run tP w=.ok (af Nk) w:=(zero_of_info (n:=80) AM).1
theorem Vo:Nk.size=80:=by unfold Nk;simp
theorem Xw:¬ Nk=#[]:=by intro h;have:=Vo;rw[h] at this;simp at this
def I4:Array aX:=((List.replicate 128 (0:Int)).map (Value.int aP)).toArray
theorem MN:I4=((List.replicate 128 (0:Int)).map (Value.int aP)).toArray:=rfl
theorem Rn:∀ w,(zeroValue 178).run tP w=.ok (af I4) w:=(zero_of_info (n:=128) AM).1
theorem O8:I4.size=128:=by unfold I4;simp
theorem Ro:¬ I4=#[]:=by intro h;have:=O8;rw[h] at this;simp at this
/-! The schedule. -/
def Xx (bs l:List Int) (t:Nat):Int:=
 if t<16 then LU ((bs.drop (8*t)).take 8)
 else IntKind.u64.wrap (IntKind.u64.wrap (IntKind.u64.wrap (Ox (l.getD (t-2) 0)+l.getD (t-7) 0)+P0 (l.getD (t-15) 0))+l.getD (t-16) 0)
def Fn (bs:List Int):Nat->List Int
 |0=>[]
 |n+1=>Fn bs n++[Xx bs (Fn bs n) n]
def wd (bs:List Int) (t:Nat):Int:=Xx bs (Fn bs t) t
theorem Fo (bs:List Int) (n:Nat):(Fn bs n).length=n:=by
 induction n with
 |zero=>rfl
 |succ n ih=>simp[Fn,ih]
theorem GH (bs:List Int) (n t:Nat) (h:t<n):(Fn bs n).getD t 0=wd bs t:=by
 induction n with
 |zero=>omega
 |succ n ih=>
  have hl:=Fo bs n;unfold Fn;rcases Nat.lt_or_ge t n with h'|h'
  ·rw[AX,BJ AJ,<-AX];exact ih h'
  ·obtain rfl:t=n:=AJ
   rw[AX,BA AJ,hl];simp[wd]
theorem Rp (bs:List Int) (t:Nat) (h:t<16):wd bs t=LU ((bs.drop (8*t)).take 8):=by unfold wd Xx;rw[AP h]
theorem Vp (bs:List Int) (j:Nat):wd bs (j+16)=IntKind.u64.wrap (IntKind.u64.wrap (IntKind.u64.wrap (Ox (wd bs (j+14))+wd bs (j+9))+P0 (wd bs (j+1)))+wd bs j):=by
 have e:wd bs (j+16)=Xx bs (Fn bs (j+16)) (j+16):=rfl;rw[e,Xx,AQ AJ,GH _ _ _ AJ,GH _ _ _ AJ,GH _ _ _ AJ,GH _ _ _ AJ];rfl
theorem Rq (bs:List Int) (k:Nat) (h:16<=k):wd bs k=IntKind.u64.wrap (IntKind.u64.wrap (IntKind.u64.wrap (Ox (wd bs (k-2))+wd bs (k-7))+P0 (wd bs (k-15)))+wd bs (k-16)):=by
 obtain⟨j,rfl⟩:∃ j,k=j+16:=⟨k-16,AJ⟩
 exact Vp bs j
theorem Nl {bs:List Int} (hz:Cb bs) (hl:bs.length=128) (t:Nat):EQ (wd bs t):=by
 rcases Nat.lt_or_ge t 16 with h|h
 ·rw[Rp bs t h];have hz':Cb ((bs.drop (8*t)).take 8):=λz h=>hz z (BT (Ax h))
  have hl':((bs.drop (8*t)).take 8).length=8:=by simp;omega
  have hb:=Rg hz' 8 AJ;rw[Ad AJ] at hb;exact⟨hb.1,by have:=hb.2;simpa using this⟩
 ·obtain⟨j,rfl⟩:∃ j,t=j+16:=⟨t-16,AJ⟩
  rw[Vp];exact D0 _
def Hw (bs:List Int) (m:Nat):List Int:=(List.range 80).map λj=>if j<m then wd bs j else 0
theorem GI (bs:List Int) (m:Nat):(Hw bs m).length=80:=by simp[Hw]
theorem Jx (bs:List Int) (m j:Nat) (h:j<80):(Hw bs m).getD j 0=if j<m then wd bs j else 0:=by unfold Hw;simp[List.getD,h]
theorem QD (bs:List Int):Hw bs 0=List.replicate 80 0:=by
 unfold Hw;simp only[Nat.not_lt_zero,if_false];rw[List.map_const'];simp
theorem Rr (bs:List Int) (m:Nat) (h:m<80):(Hw bs m).set m (wd bs m)=Hw bs (m+1):=by
 apply List.ext_getElem?;intro i;rw[List.getElem?_set];unfold Hw;by_cases h1:m=i
 ·subst h1;simp[h]
 ·rw[AQ h1];by_cases h2:i<80
  ·have e:(i<m+1)=(i<m):=by apply propext;omega
   simp[h2,e]
  ·simp[h2]
structure SC (w:aV) (bs:List Int) (m:Nat) (y:aV):Prop where
 res:Cd y w.heap.size 213 (List.replicate 80 0)
 row:Cd y (w.heap.size+1) 213 (Hw bs m)
 below:Below w.heap.size w y
theorem SC.drew {w:aV} {bs:List Int} {m:Nat} {y:aV} (h:SC w bs m y):SC w bs m y.drew:=⟨h.res.drew,h.row.drew,h.below.drew⟩
theorem SC.cellAt {w:aV} {bs:List Int} {m:Nat} {y:aV} (h:SC w bs m y) (j:Nat) (hj:j<m) (h8:j<80):y.cell? ⟨w.heap.size+1,j,aS⟩=aR (aO .u64 (wd bs j)):=by
 rw[h.row.cell j (by rw[GI];exact h8),Jx _ _ _ h8,AP hj]
theorem SC.cell0 {w:aV} {bs:List Int} {m:Nat} {y:aV} (h:SC w bs m y) (j:Nat) (hj:m<=j) (h8:j<80):y.cell? ⟨w.heap.size+1,j,aS⟩=aR (aO .u64 0):=by
 rw[h.row.cell j (by rw[GI];exact h8),Jx _ _ _ h8,AQ AJ]
theorem SC.set {w:aV} {bs:List Int} {m:Nat} {y:aV} (h:SC w bs m y) (hm:m<80):SC w bs (m+1) (y.setCell ⟨w.heap.size+1,m,aS⟩ (aO .u64 (wd bs m))):=
 ⟨((Wr.refl _ _).setCell m _).rowW h.res AJ,by rw[<-Rr bs m hm];exact h.row.set m _,h.below.setCell AL _⟩
theorem WZ {w:aV} {bs:List Int} {m:Nat} {y:aV} {b:Bool} (h:if b=true then SC w bs (m+1) y else SC w bs m y) (j:Nat) (hj:j<m) (h8:j<80):y.cell? ⟨w.heap.size+1,j,aS⟩=aR (aO .u64 (wd bs j)):=by
 cases b
 ·exact SC.cellAt (by simpa using h) j hj h8
 ·exact SC.cellAt (m:=m+1) (by simpa using h) j AJ h8
theorem MO (g:Nat) (n:Int) (bs:List Int) (w:aV) (hr:Er w g 178 bs) (hl:bs.length=128) (hn:EQ n) :
  Calls tP 158 #[aY (aR ⟨g,0,aS⟩),aO .u64 n] w λe w'=>e=aQ (.tuple #[])/\Er w' g 178 (P9 (P9 bs 112 (n/2^61) 8) 120 (IntKind.u64.wrap (n*8)) 8)/\Wr g w w':=by
 obtain⟨n0,n1⟩:=hn;have A:=CX (MM g 112 (n/2305843009213693952) bs w hr hl AJ ⟨AJ,AJ⟩);have B:=CX (λw1 (h:Er w1 g 178 (P9 bs 112 (n/2305843009213693952) 8))=>MM g 120 (IntKind.u64.wrap (n*8)) _ w1 h (by rw[Hl];exact hl) AJ (D0 _));have HD:=CX (show n/2^61=n/2305843009213693952 from rfl);clear hr;go_enter func158,ntmps158;go_wp2_with fail;refine A.o.mono ?_;rintro e w1 ⟨rfl,r1,b1⟩;have B':=B.o w1 r1;clear A B r1;have HB1:=CX b1;clear b1;have HB:=CX B';clear B';go_wp2_with fail;refine HB.o.mono ?_;rintro e w2 ⟨rfl,r2,b2⟩;have H2:=CX r2;have HB2:=CX b2;clear r2 b2 HB;go_wp2
 go_end0
 rw[HD.o];exact⟨rfl,H2.o,HB1.o.trans HB2.o⟩
theorem QE (g:Nat) (bs:List Int) (w:aV) (hr:Er w g 178 bs) (hl:bs.length=128) (hz:Cb bs) :
  Calls tP 156 #[aY (aR ⟨g,0,aS⟩)] w λe w'=>e=aQ (af ((Hw bs 80).map (Value.int .u64)).toArray)/\Below w.heap.size w w':=by
 have HR:=CX hr;have HL:=CX hl;have HZ:=CX hz;have HU:=CX (λt=>Nl hz hl t);have hlt:=hr.lt;clear hr hl hz;have HS:AO (SC w bs 0 ((w.alloc (aa Nk 213)).alloc (aa Nk 213))):=by
  refine⟨?_,?_,(Cf.alloc Ch _).alloc AL _⟩
  {unfold Cd;rw[heap_alloc2_old,Vn]};{unfold Cd;rw[heap_alloc2_new,Vn,QD]}
 have z1:=Xv;have z2:=Vo;have z3:=Xw;go_enter func156,ntmps156;go_wp2
 go_loopw [5] (λi wr=>∃ k:Nat,k<=80/\i=aO aZ k/\SC w bs k wr) (λi _=>80-(intOf i).toNat)
 case atStart=>exact⟨0,AJ,rfl,HS.o⟩
 case round=>
  clear HS;obtain⟨k,hk,rfl,hst⟩:=hrel;by_cases h80:k<80
  ·have h80':(k:Int)<80:=AJ
   by_cases h16:k<16
   ·have h16':(k:Int)<16:=AJ
    have A:=CX (P8 g (8*k) bs wr (HR.o.below hst.below hlt) HL.o HZ.o AJ);have hc:=hst.cell0 k Ch h80;have hf:=hst.row.frozen k;have e8:=CX (show((8*k:Nat):Int)=8*(k:Int) by omega);have HN:=hst.set h80;rw[Rp _ _ h16] at HN;have HX:=CX HN;clear HN hst;go_wp2_with fail;rw[<-e8.o];refine A.o.mono ?_;rintro e w9 ⟨rfl,h9⟩;subst h9;clear A;generalize LU ((bs.drop (8*k)).take 8)=v at *;go_wp2;go_roundw
    case rel=>exact⟨k+1,AJ,by go_num,HX.o⟩
    case measure=>simp[intOf];omega
   ·have h16':¬ ((k:Int)<16):=AJ
    have HS0:=CX hst;have HWD:=Rq bs k AJ;have HST:AO (∀ y,SC w bs k y->SC w bs (k+1) (y.setCell ⟨w.heap.size+1,k,aS⟩ (aO .u64 (wd bs k)))):=λy h=>h.set h80
    have HCE:AO (∀ y (L:Nat->Bool),(if L 23=true then SC w bs (k+1) y else SC w bs k y)->∀ i,i<k->y.cell? ⟨w.heap.size+1,i,aS⟩=aR (aO .u64 (wd bs i))):=λy L h i hi=>WZ h i hi AJ
    obtain⟨j0,hj0⟩:∃ i,i=k-16:=⟨_,rfl⟩
    obtain⟨j1,hj1⟩:∃ i,i=k-15:=⟨_,rfl⟩
    obtain⟨j9,hj9⟩:∃ i,i=k-7:=⟨_,rfl⟩
    obtain⟨j14,hj14⟩:∃ i,i=k-2:=⟨_,rfl⟩
    rw[<-hj0,<-hj1,<-hj9,<-hj14] at HWD;have hJ0:AO ((k:Int)-16=(j0:Int)/\j0<k):=⟨AJ,AJ⟩
    have hJ1:AO ((k:Int)-15=(j1:Int)/\j1<k):=⟨AJ,AJ⟩
    have hJ9:AO ((k:Int)-7=(j9:Int)/\j9<k):=⟨AJ,AJ⟩
    have hJ14:AO ((k:Int)-2=(j14:Int)/\j14<k):=⟨AJ,AJ⟩
    clear hj0 hj1 hj9 hj14;obtain⟨x0,hx0⟩:∃ x,x=wd bs j0:=⟨_,rfl⟩
    obtain⟨x1,hx1⟩:∃ x,x=wd bs j1:=⟨_,rfl⟩
    obtain⟨x9,hx9⟩:∃ x,x=wd bs j9:=⟨_,rfl⟩
    obtain⟨x14,hx14⟩:∃ x,x=wd bs j14:=⟨_,rfl⟩
    have U1:=CX (HU.o j1);rw[<-hx1] at U1;have U14:=CX (HU.o j14);rw[<-hx14] at U14;rw[<-hx0,<-hx1,<-hx9,<-hx14] at HWD;have hWD:=CX HWD;have hX0:=CX hx0;have hX1:=CX hx1;have hX9:=CX hx9;have hX14:=CX hx14;clear HWD hx0 hx1 hx9 hx14 hst
    go_upto_region 7 with fail
    refine Ag AM ?_;refine Cg (λ_ _ _=>True) (frame:=(λ(a b c d e f g h i j k l m n o p q r:aX)=>λ(t:Nat->aX)=>({ tmps:=List.toArray [a,b,c,d,e,f,g,h,i,j,k,l,m,n,o,p,t 0,t 1,t 2,t 3,t 4,t 5,t 6,t 7,t 8,t 9,t 10,t 11,t 12,t 13,t 14,t 15,t 16,t 17,t 18,t 19,t 20,t 21,t 22,q,r],defers:=[] }:Act)) _ _ _ _ _ _ _ _ _ _ _ _ _ _ _ _ _ _)
     (Ext:=λL u w'=>if L 23=true then SC w bs (k+1) w' else SC w bs k w') (Good:=λi L w' v=>if i=0 then v=aO aZ (k:Int) else if i=1 then v=aO aZ (k:Int) else if i=2 then v=aO aZ (j14:Int) else if i=3 then v=aY (aR ⟨w.heap.size+1,j14,aS⟩) else if i=4 then v=aO .u64 (x14) else if i=5 then v=aO .u64 (Ox x14) else if i=6 then v=aO aZ (k:Int) else if i=7 then v=aO aZ (j9:Int) else if i=8 then v=aY (aR ⟨w.heap.size+1,j9,aS⟩) else if i=9 then v=aO .u64 (x9) else if i=10 then v=aO .u64 (IntKind.u64.wrap (Ox x14+x9)) else if i=11 then v=aO aZ (k:Int) else if i=12 then v=aO aZ (j1:Int) else if i=13 then v=aY (aR ⟨w.heap.size+1,j1,aS⟩) else if i=14 then v=aO .u64 (x1) else if i=15 then v=aO .u64 (P0 x1) else if i=16 then v=aO .u64 (IntKind.u64.wrap (IntKind.u64.wrap (Ox x14+x9)+P0 x1)) else if i=17 then v=aO aZ (k:Int) else if i=18 then v=aO aZ (j0:Int) else if i=19 then v=aY (aR ⟨w.heap.size+1,j0,aS⟩) else if i=20 then v=aO .u64 (x0) else if i=21 then v=aO .u64 (IntKind.u64.wrap (IntKind.u64.wrap (IntKind.u64.wrap (Ox x14+x9)+P0 x1)+x0)) else if i=22 then v=aY (aR ⟨w.heap.size+1,k,aS⟩) else if i=23 then L 23=true else True) ?hstab AM ?hop ?hdone _ _ ((λ(x0 x1 x2 x3 x4 x5 x6 x7 x8 x9 x10 x11 x12 x13 x14 x15 x16 x17 x18 x19 x20 x21 x22:aX)=>λ(i:Nat)=>if i=0 then x0 else if i=1 then x1 else if i=2 then x2 else if i=3 then x3 else if i=4 then x4 else if i=5 then x5 else if i=6 then x6 else if i=7 then x7 else if i=8 then x8 else if i=9 then x9 else if i=10 then x10 else if i=11 then x11 else if i=12 then x12 else if i=13 then x13 else if i=14 then x14 else if i=15 then x15 else if i=16 then x16 else if i=17 then x17 else if i=18 then x18 else if i=19 then x19 else if i=20 then x20 else if i=21 then x21 else if i=22 then x22 else undef) _ _ _ _ _ _ _ _ _ _ _ _ _ _ _ _ _ _ _ _ _ _ _) _ AL ?ext ?start AL
    case start=>intro i hi h;exact absurd h Ef
    case ext=>
     rw[AQ (by show ¬ (Array.getD _ _ _=true);rw[BX,Bw];split<;>simp)];exact HS0.o.drew
    case hstab=>
     intro j L w9 w' i v hM hij hLi h;by_cases hl:j=23
     {subst hl;simp at h |-;unfold CZ;simp[h]};{simp only[if_neg hl] at h |-;exact h}
    case hop=>
     intro i o L t w' ho hLi hx hdep K hK;have hi:i<24:=(AR.1 ho).1;obtain rfl|rfl|rfl|rfl|rfl|rfl|rfl|rfl|rfl|rfl|rfl|rfl|rfl|rfl|rfl|rfl|rfl|rfl|rfl|rfl|rfl|rfl|rfl|rfl:i=0\/i=1\/i=2\/i=3\/i=4\/i=5\/i=6\/i=7\/i=8\/i=9\/i=10\/i=11\/i=12\/i=13\/i=14\/i=15\/i=16\/i=17\/i=18\/i=19\/i=20\/i=21\/i=22\/i=23:=AJ
     all_goals(simp at ho;subst ho)
     all_goals try(have hK':=hK w' _ rfl (by simpa[CZ] using hx) trivial;clear hK;simp[Region.binds] at hdep;rw[AP AN];go_simp;simpa[Ca,hdep] using hK';done)
     ·have d1:t 1=aO aZ (k:Int):=by simpa using(hdep ⟨1,ag⟩ AL rfl).2
      clear hdep;have e1:=hJ14.o.1;have e4:IntKind.i64.wrap (j14:Int)=(j14:Int):=by have:=hJ14.o.2;rw[Ak];omega
      have hK':=hK w' (aO aZ (j14:Int)) AL (by simpa[CZ] using hx) trivial;clear hK;rw[AP AN];go_simp;simpa[Ca,d1,e1,e4] using hK'
     ·have d2:t 2=aO aZ (j14:Int):=by simpa using(hdep ⟨2,ag⟩ AL rfl).2
      clear hdep;have e2:(j14:Int)<80:=AG hJ14.o.2
      have hK':=hK w' (aY (aR ⟨w.heap.size+1,j14,aS⟩)) AL (by simpa[CZ] using hx) trivial;clear hK;rw[AP AN];go_simp;simpa[Ca,d2] using hK'
     ·have d3:t 3=aY (aR ⟨w.heap.size+1,j14,aS⟩):=by simpa using(hdep ⟨3,ag⟩ AL rfl).2
      clear hdep;have hc:w'.cell? ⟨w.heap.size+1,j14,aS⟩=aR (aO .u64 (x14)):=by rw[hX14.o];exact HCE.o w' L hx j14 (hJ14.o.2)
      have hK':=hK w' (aO .u64 (x14)) AL (by simpa[CZ] using hx) trivial;clear hK;rw[AP AN];go_simp;simpa[Ca,d3] using hK'
     ·have d4:t 4=aO .u64 (x14):=by simpa using(hdep ⟨4,ag⟩ AL rfl).2
      clear hdep;have A:=WW x14 w' U14.o;have hK':=hK w' (aO .u64 (Ox x14)) AL (by simpa[CZ] using hx) trivial;clear hK hx;rw[AP AN];go_simp;try simp only[d4]
      refine A.mono ?_;rintro e w9 ⟨rfl,h9⟩;subst h9;clear A;go_simp;simpa[Ca,d4] using hK'
     ·have d6:t 6=aO aZ (k:Int):=by simpa using(hdep ⟨6,ag⟩ AL rfl).2
      clear hdep;have e1:=hJ9.o.1;have e4:IntKind.i64.wrap (j9:Int)=(j9:Int):=by have:=hJ9.o.2;rw[Ak];omega
      have hK':=hK w' (aO aZ (j9:Int)) AL (by simpa[CZ] using hx) trivial;clear hK;rw[AP AN];go_simp;simpa[Ca,d6,e1,e4] using hK'
     ·have d7:t 7=aO aZ (j9:Int):=by simpa using(hdep ⟨7,ag⟩ AL rfl).2
      clear hdep;have e2:(j9:Int)<80:=AG hJ9.o.2
      have hK':=hK w' (aY (aR ⟨w.heap.size+1,j9,aS⟩)) AL (by simpa[CZ] using hx) trivial;clear hK;rw[AP AN];go_simp;simpa[Ca,d7] using hK'
     ·have d8:t 8=aY (aR ⟨w.heap.size+1,j9,aS⟩):=by simpa using(hdep ⟨8,ag⟩ AL rfl).2
      clear hdep;have hc:w'.cell? ⟨w.heap.size+1,j9,aS⟩=aR (aO .u64 (x9)):=by rw[hX9.o];exact HCE.o w' L hx j9 (hJ9.o.2)
      have hK':=hK w' (aO .u64 (x9)) AL (by simpa[CZ] using hx) trivial;clear hK;rw[AP AN];go_simp;simpa[Ca,d8] using hK'
     ·have d11:t 11=aO aZ (k:Int):=by simpa using(hdep ⟨11,ag⟩ AL rfl).2
      clear hdep;have e1:=hJ1.o.1;have e4:IntKind.i64.wrap (j1:Int)=(j1:Int):=by have:=hJ1.o.2;rw[Ak];omega
      have hK':=hK w' (aO aZ (j1:Int)) AL (by simpa[CZ] using hx) trivial;clear hK;rw[AP AN];go_simp;simpa[Ca,d11,e1,e4] using hK'
     ·have d12:t 12=aO aZ (j1:Int):=by simpa using(hdep ⟨12,ag⟩ AL rfl).2
      clear hdep;have e2:(j1:Int)<80:=AG hJ1.o.2
      have hK':=hK w' (aY (aR ⟨w.heap.size+1,j1,aS⟩)) AL (by simpa[CZ] using hx) trivial;clear hK;rw[AP AN];go_simp;simpa[Ca,d12] using hK'
     ·have d13:t 13=aY (aR ⟨w.heap.size+1,j1,aS⟩):=by simpa using(hdep ⟨13,ag⟩ AL rfl).2
      clear hdep;have hc:w'.cell? ⟨w.heap.size+1,j1,aS⟩=aR (aO .u64 (x1)):=by rw[hX1.o];exact HCE.o w' L hx j1 (hJ1.o.2)
      have hK':=hK w' (aO .u64 (x1)) AL (by simpa[CZ] using hx) trivial;clear hK;rw[AP AN];go_simp;simpa[Ca,d13] using hK'
     ·have d14:t 14=aO .u64 (x1):=by simpa using(hdep ⟨14,ag⟩ AL rfl).2
      clear hdep;have A:=WV x1 w' U1.o;have hK':=hK w' (aO .u64 (P0 x1)) AL (by simpa[CZ] using hx) trivial;clear hK hx;rw[AP AN];go_simp;try simp only[d14]
      refine A.mono ?_;rintro e w9 ⟨rfl,h9⟩;subst h9;clear A;go_simp;simpa[Ca,d14] using hK'
     ·have d17:t 17=aO aZ (k:Int):=by simpa using(hdep ⟨17,ag⟩ AL rfl).2
      clear hdep;have e1:=hJ0.o.1;have e4:IntKind.i64.wrap (j0:Int)=(j0:Int):=by have:=hJ0.o.2;rw[Ak];omega
      have hK':=hK w' (aO aZ (j0:Int)) AL (by simpa[CZ] using hx) trivial;clear hK;rw[AP AN];go_simp;simpa[Ca,d17,e1,e4] using hK'
     ·have d18:t 18=aO aZ (j0:Int):=by simpa using(hdep ⟨18,ag⟩ AL rfl).2
      clear hdep;have e2:(j0:Int)<80:=AG hJ0.o.2
      have hK':=hK w' (aY (aR ⟨w.heap.size+1,j0,aS⟩)) AL (by simpa[CZ] using hx) trivial;clear hK;rw[AP AN];go_simp;simpa[Ca,d18] using hK'
     ·have d19:t 19=aY (aR ⟨w.heap.size+1,j0,aS⟩):=by simpa using(hdep ⟨19,ag⟩ AL rfl).2
      clear hdep;have hc:w'.cell? ⟨w.heap.size+1,j0,aS⟩=aR (aO .u64 (x0)):=by rw[hX0.o];exact HCE.o w' L hx j0 (hJ0.o.2)
      have hK':=hK w' (aO .u64 (x0)) AL (by simpa[CZ] using hx) trivial;clear hK;rw[AP AN];go_simp;simpa[Ca,d19] using hK'
     ·have d21:t 21=aO .u64 (IntKind.u64.wrap (IntKind.u64.wrap (IntKind.u64.wrap (Ox x14+x9)+P0 x1)+x0)):=by simpa using(hdep ⟨21,ag⟩ AL rfl).2
      have d22:t 22=aY (aR ⟨w.heap.size+1,k,aS⟩):=by simpa using(hdep ⟨22,ag⟩ AL rfl).2
      clear hdep;rw[hLi,AQ AK] at hx;have hc:=hx.cell0 k Ch AJ;have hf:w'.frozen? ⟨w.heap.size+1,k,aS⟩=false:=hx.row.frozen _;have hn:=HST.o w' hx;rw[hWD.o] at hn;have hK':=hK _ undef (by simp[CZ]) (by rw[AP (by simp[CZ])];exact hn) trivial;clear hK hx hn;rw[AP AN];go_simp;simpa[Ca,d21,d22] using hK'
    case hdone=>
     intro L t w4 hx hg;have hlast:L 23=true:=by simpa using hg 23 AK
     rw[AP hlast] at hx;clear hg hlast;have HX:=CX hx;clear hx;go_wp2;go_roundw
     case rel=>exact⟨k+1,AJ,by go_num,HX.o⟩
     case measure=>simp[intOf];omega
  ·obtain rfl:k=80:=AJ
   have H1:=CX hst.row;have H2:=CX hst.res;have H3:=CX hst.below;clear hst;go_wp2_with (first
    |(refine FX rfl (.tmp 3) rfl underlying213 Tryz.sizeSch (w.heap.size+1) (Hw bs 80) rfl (GI _ _) H1.o ?_)
    |(refine E8 rfl (.tmp 2) (.tmp 40) rfl Tryz.sizeSch w.heap.size (Hw bs 80) (List.replicate 80 0) rfl rfl (GI _ _) AL H2.o ?_)
    |fail)
   intro w3 hr3 hw3;have HB3:=CY <| H3.o.trans (hw3.below Ch)
   have HR3:=CX hr3;clear hr3 hw3 H1 H2 H3;go_wp2;exact AU (v:=af ((Hw bs 80).map (Value.int .u64)).toArray) (AY rfl _ _ w.heap.size 213 _ (0,0) _ rfl HR3.o underlying213 rfl (by rw[Tryz.sizeSch];simp[GI])) rfl ⟨rfl,HB3.o⟩
def Rs (tb:List (Nat×Nat)) (L:Nat->Bool):Prop:=∀ p,p∈tb->L p.1=true->L p.2=true
theorem Da (L:Nat->Bool) {i j:Nat} (h:j≠i):CZ L i j=L j:=by unfold CZ;rw[AQ h]
theorem GJ (L:Nat->Bool) (i:Nat):CZ L i i=true:=by unfold CZ;rw[AP rfl]
theorem FP (u:Nat->aX) {i j:Nat} (v:aX) (h:j≠i):Ca u i v j=u j:=by unfold Ca;rw[AQ h]
theorem MP (u:Nat->aX) (i:Nat) (v:aX):Ca u i v i=v:=by unfold Ca;rw[AP rfl]
theorem Rs.step {tb:List (Nat×Nat)} {L:Nat->Bool} (h:Rs tb L) (i:Nat) (hd:∀ p,p∈tb->p.1=i->L p.2=true):Rs tb (CZ L i):=by
 intro p hp h1;have hu:∀ k,L k=true->CZ L i k=true:=λk hk=>by unfold CZ;split<;>simp[hk]
 by_cases e:p.1=i
 ·exact hu _ (hd p hp e)
 ·rw[Da L e] at h1;exact hu _ (h p hp h1)
theorem Rs.back {tb:List (Nat×Nat)} {L:Nat->Bool} (h:Rs tb L) {a b:Nat} (hp:(a,b)∈tb) (hb:L b=false):L a=false:=by
 cases ha:L a with
 |false=>rfl
 |true=>have:=h _ hp ha;rw[hb] at this;cases this
theorem Rs.none {tb:List (Nat×Nat)} {L:Nat->Bool} (h:∀ i,L i=false):Rs tb L:=λp _ h1=>by rw[h] at h1;cases h1
structure AC (tb:List (Nat×Nat)) (b a s:Nat) (V0:aX) (W0 W1:aV) (Fin:aV->aX->Prop) (L:Nat->Bool) (u:Nat->aX) (w':aV):Prop where
 cl:Rs tb L
 old:L s=false->u s=V0
 new:L s=true->u s=u a
 ph:(L a=true/\Fin w' (u a))\/(L a=false/\L b=true/\w'=W1)\/(L a=false/\L b=false/\w'=W0)
section
variable {tb:List (Nat×Nat)} {b a s:Nat} {V0:aX} {W0 W1:aV} {Fin:aV->aX->Prop} {L:Nat->Bool} {u:Nat->aX} {w':aV}
theorem AC.start (h:∀ i,L i=false) (hu:u s=V0):AC tb b a s V0 W0 W1 Fin L u W0:=
 ⟨Rs.none h,λ_=>hu,λh'=>(by rw[h] at h';cases h'),.inr (.inr ⟨h _,h _,rfl⟩)⟩
theorem AC.pure (h:AC tb b a s V0 W0 W1 Fin L u w') (i:Nat) (v:aX) (hb:b≠i) (ha:a≠i) (hs:s≠i) (hd:∀ p,p∈tb->p.1=i->L p.2=true):AC tb b a s V0 W0 W1 Fin (CZ L i) (Ca u i v) w':=
 ⟨h.cl.step i hd,by rw[Da L hs,FP u v hs];exact h.old,by rw[Da L hs,FP u v hs,FP u v ha];exact h.new,by rw[Da L ha,Da L hb,FP u v ha];exact h.ph⟩
theorem AC.world (h:AC tb b a s V0 W0 W1 Fin L u w') (hb:L b=false) (hp:(a,b)∈tb):w'=W0:=by
 have ha:=h.cl.back hp hb;rcases h.ph with⟨h1,_⟩|⟨_,h1,_⟩|⟨_,_,h1⟩
 ·rw[ha] at h1;cases h1
 ·rw[hb] at h1;cases h1
 ·exact h1
theorem AC.build (h:AC tb b a s V0 W0 W1 Fin L u w') (v:aX) (hLb:L b=false) (hp:(a,b)∈tb) (ha:a≠b) (hs:s≠b) (hd:∀ p,p∈tb->p.1=b->L p.2=true):AC tb b a s V0 W0 W1 Fin (CZ L b) (Ca u b v) W1:=
 ⟨h.cl.step b hd,by rw[Da L hs,FP u v hs];exact h.old,by rw[Da L hs,FP u v hs,FP u v ha];exact h.new,.inr (.inl ⟨by rw[Da L ha];exact h.cl.back hp hLb,GJ L b,rfl⟩)⟩
theorem AC.mid (h:AC tb b a s V0 W0 W1 Fin L u w') (hb:L b=true) (ha:L a=false):w'=W1:=by
 rcases h.ph with⟨h1,_⟩|⟨_,_,h1⟩|⟨_,h1,_⟩
 ·rw[ha] at h1;cases h1
 ·exact h1
 ·rw[hb] at h1;cases h1
theorem AC.app (h:AC tb b a s V0 W0 W1 Fin L u w') {v:aX} {w9:aV} (hF:Fin w9 v) (hLa:L a=false) (hp:(s,a)∈tb) (hs:s≠a) (hd:∀ p,p∈tb->p.1=a->L p.2=true):AC tb b a s V0 W0 W1 Fin (CZ L a) (Ca u a v) w9:=
 have hls:=h.cl.back hp hLa
 ⟨h.cl.step a hd,by rw[Da L hs,FP u v hs];exact h.old,λh'=>(by rw[Da L hs,hls] at h';cases h'),.inl ⟨GJ L a,by rw[MP];exact hF⟩⟩
theorem AC.asg (h:AC tb b a s V0 W0 W1 Fin L u w') (ha:a≠s) (hb:b≠s) (hd:∀ p,p∈tb->p.1=s->L p.2=true):AC tb b a s V0 W0 W1 Fin (CZ L s) (Ca u s (u a)) w':=
 ⟨h.cl.step s hd,λh'=>(by rw[GJ] at h';cases h'),λ_=>(by rw[MP,FP u _ ha]),by rw[Da L ha,Da L hb,FP u _ ha];exact h.ph⟩
theorem AC.fin (h:AC tb b a s V0 W0 W1 Fin L u w') (ha:L a=true) (hs:L s=true):u s=u a/\Fin w' (u a):=by
 refine⟨h.new hs,?_⟩;rcases h.ph with⟨_,h1⟩|⟨h1,_⟩|⟨h1,_⟩
 ·exact h1
 ·rw[ha] at h1;cases h1
 ·rw[ha] at h1;cases h1
end
structure AD (tb:List (Nat×Nat)) (b s:Nat) (V0:aX) (W0 W1:aV) (L:Nat->Bool) (u:Nat->aX) (w':aV):Prop where
 cl:Rs tb L
 old:L s=false->u s=V0
 ph:(L b=true/\w'=W1)\/(L b=false/\w'=W0)
section
variable {tb:List (Nat×Nat)} {b s:Nat} {V0:aX} {W0 W1:aV} {L:Nat->Bool} {u:Nat->aX} {w':aV}
theorem AD.start (h:∀ i,L i=false) (hu:u s=V0):AD tb b s V0 W0 W1 L u W0:=⟨Rs.none h,λ_=>hu,.inr ⟨h _,rfl⟩⟩
theorem AD.pure (h:AD tb b s V0 W0 W1 L u w') (i:Nat) (v:aX) (hb:b≠i) (hs:s≠i) (hd:∀ p,p∈tb->p.1=i->L p.2=true):AD tb b s V0 W0 W1 (CZ L i) (Ca u i v) w':=
 ⟨h.cl.step i hd,by rw[Da L hs,FP u v hs];exact h.old,by rw[Da L hb];exact h.ph⟩
theorem AD.world (h:AD tb b s V0 W0 W1 L u w') (hb:L b=false):w'=W0:=by
 rcases h.ph with⟨h1,_⟩|⟨_,h1⟩
 ·rw[hb] at h1;cases h1
 ·exact h1
theorem AD.build (h:AD tb b s V0 W0 W1 L u w') (v:aX) (hs:s≠b) (hd:∀ p,p∈tb->p.1=b->L p.2=true):AD tb b s V0 W0 W1 (CZ L b) (Ca u b v) W1:=
 ⟨h.cl.step b hd,by rw[Da L hs,FP u v hs];exact h.old,.inl ⟨GJ L b,rfl⟩⟩
theorem AD.asg (h:AD tb b s V0 W0 W1 L u w') (v:aX) (hb:b≠s) (hd:∀ p,p∈tb->p.1=s->L p.2=true):AD tb b s V0 W0 W1 (CZ L s) (Ca u s v) w':=
 ⟨h.cl.step s hd,λh'=>(by rw[GJ] at h';cases h'),by rw[Da L hb];exact h.ph⟩
theorem AD.fin (h:AD tb b s V0 W0 W1 L u w') (hb:L b=true):w'=W1:=by
 rcases h.ph with⟨_,h1⟩|⟨h1,_⟩
 ·exact h1
 ·rw[hb] at h1;cases h1
end
theorem PA (w:aV) {o:Oper} {a:Act} {K:Act->aV->Prop} {Q:Exit->Act->aV->Prop} (sx x:Operand)
  (hop:o.op=Op.call { callee:=Callee.builtin Builtin.append,args:=#[sx,x],argTypes:=#[134,134] }) (B:Nat) (v:aX) (xs:List Int) (hs:a.eval sx=v) (hown:FC w B v xs)
  (b off m c:Nat) (zs:List Int) (hx:a.eval x=aM (aR ⟨b,off,aS⟩) m c) (hl:zs.length=m) (hc:∀ i,i<zs.length->w.cell? ⟨b,off+i,aS⟩=aR (aO .u64 (zs.getD i 0))) (hm:xs.length+m<=1048576) (hB:B<=w.heap.size)
  (hK:∀ v' w',FC w' B v' (xs++zs)->Below B w w'->K (a.put o.dst v') w'):o.wp tP a w K Q:=by
 obtain⟨i0,hi,hz0,hz1,hz2⟩:=BZ Xe.info;have hbase:=hown.base;obtain⟨v',w',hr,h2,h3,h4,h5⟩:=run_append_own_at (P:=tP) w B 134 o.type 135 i0 (aO .u64 0) 1 8 underlying134 hi hz0 hz1 hz2 rfl AK v xs.length _ hown.1 ⟨b,off,aS⟩ m c (zs.map (Value.int .u64)) (by simp[hl]) (by
  intro j u hu;have hj:j<zs.length:=by have:=(Am.1 hu).1;simpa using this
  rw[A0,hc j hj];simp[hj] at hu;simp[hj,hu]) (Az _ _) (by unfold maxLen;omega) AJ hB
 obtain⟨g,c0,hv,hBg,_,_⟩:=hbase;have hbel:=Cf.grown h3 hB (λk hk=>by rw[hv] at hk;simp[Value.ownBlock] at hk;omega);have hk:=hK v' w' ⟨by rw[BI,Ae,hl];exact h2,by
  rcases h2.2 with⟨h',h''⟩|⟨g',c',cur,h',_⟩
  ·exact absurd (h4.1 h').1 (by rw[hv];simp)
  ·exact⟨g',c',by rw[h',Ae,hl]⟩⟩ hbel
 unfold Oper.wp execOp;simp only[hop,resolve,invoke,builtin,Sem.run_bind,Sem.run_pure,Result.andThen_ok,List.map_toArray,List.map_cons,List.map_nil,hs,hx,hr];exact hk
def Q2 (w:aV) (g o:Nat) (bs:List Int):Prop:=bs.length=32/\Cb bs/\∀ i,i<32->w.cell? ⟨g,o+i,aS⟩=aR (aO aP (bs.getD i 0))/\w.frozen? ⟨g,o+i,aS⟩=false
def DM (bs:List Int) (P:Nat->Prop):Prop:=bs.length=32/\Cb bs/\∀ v,v<256->(bs.getD (v/8) 0/2^(v%8)%2=1↔P v)
theorem PB (x j:Nat):x/2^j%2=1↔x.testBit j=true:=by rw[Nat.testBit_eq_decide_div_mod_eq];simp
theorem Kv (x:Int) (k:Nat) (hx:0<=x) (hx':x<256) (hk:k<8):0<=bits .or aP x (2^k)/\bits .or aP x (2^k)<256/\∀ j,j<8->(bits .or aP x (2^k)/2^j%2=1↔(x/2^j%2=1\/j=k)):=by
 obtain⟨x,rfl⟩:=Ab hx;have h2:(2:Nat)^k<256:=by
  have:2^k<=2^7:=Nat.pow_le_pow_right AK AJ;omega
 have e:bits .or aP (x:Int) (2^k)=((x ||| 2^k:Nat):Int):=by
  rw[show((2:Int)^k)=((2^k:Nat):Int) by simp];exact u8_or_nat x (2^k) AJ h2
 rw[e];have hlt:x ||| 2^k<2^8:=Nat.or_lt_two_pow AJ AJ;refine⟨AJ,AJ,λj hj=>?_⟩;have q:∀ y:Nat,((y:Int)/2^j%2=1↔y.testBit j=true):=λy=>by
  rw[<-PB];rw[show((2:Int)^j)=((2^j:Nat):Int) by simp,<-Int.natCast_ediv];omega
 rw[q,q,Nat.testBit_or,Nat.testBit_two_pow];simp only[Bool.or_eq_true,decide_eq_true_eq];constructor
 ·rintro (h|h)
  {exact .inl h};{exact .inr h.symm}
 ·rintro (h|h)
  {exact .inl h};{exact .inr h.symm}
theorem UU:∀ k,k<8->∀ j,j<8->(255-2^k).testBit j=decide (j≠k):=AK
theorem Jy (x:Int) (k:Nat) (hx:0<=x) (hx':x<256) (hk:k<8):0<=bits .andNot aP x (2^k)/\bits .andNot aP x (2^k)<256/\∀ j,j<8->(bits .andNot aP x (2^k)/2^j%2=1↔(x/2^j%2=1/\j≠k)):=by
 obtain⟨x,rfl⟩:=Ab hx;have h2:(2:Nat)^k<256:=by
  have:2^k<=2^7:=Nat.pow_le_pow_right AK AJ;omega
 have e:bits .andNot aP (x:Int) (2^k)=((x &&& (255-2^k):Nat):Int):=by
  rw[show((2:Int)^k)=((2^k:Nat):Int) by simp];exact u8_andNot_nat x (2^k) AJ h2
 rw[e];have hlt:x &&& (255-2^k)<2^8:=Nat.and_lt_two_pow _ (Nat.lt_of_le_of_lt (Nat.sub_le _ _) AK);refine⟨AJ,AJ,λj hj=>?_⟩;have q:∀ y:Nat,((y:Int)/2^j%2=1↔y.testBit j=true):=λy=>by
  rw[<-PB];rw[show((2:Int)^j)=((2^j:Nat):Int) by simp,<-Int.natCast_ediv];omega
 rw[q,q,Nat.testBit_and,UU k hk j hj];simp
theorem EZ (bs:List Int) (q i:Nat) (x:Int) (hq:q<bs.length):(bs.set q x).getD i 0=if i=q then x else bs.getD i 0:=by
 rw[AX,List.getElem?_set];by_cases h:q=i
 ·subst h;simp[hq]
 ·rw[AQ h,AQ (A9 h),AX]
def Do (bs:List Int) (v:Nat):List Int:=bs.set (v/8) (bits .or aP (bs.getD (v/8) 0) (2^(v%8)))
def Eq (bs:List Int) (v:Nat):List Int:=bs.set (v/8) (bits .andNot aP (bs.getD (v/8) 0) (2^(v%8)))
theorem IZ {bs:List Int} (h:Cb bs) (q:Nat) (x:Int) (h0:0<=x) (h1:x<256):Cb (bs.set q x):=λz hz=>by
 rcases List.mem_or_eq_of_mem_set hz with h'|h'
 ·exact h z h'
 ·rw[h'];exact⟨h0,h1⟩
theorem DM.add {bs:List Int} {P:Nat->Prop} (h:DM bs P) (v:Nat) (hv:v<256):DM (Do bs v) (λu=>P u\/u=v):=by
 obtain⟨h1,h2,h3⟩:=h;have hx:=h2.get (v/8);obtain⟨a,b,c⟩:=Kv _ (v%8) hx.1 hx.2 AJ;refine⟨by unfold Do;rw[List.length_set];exact h1,IZ h2 _ _ a b,λu hu=>?_⟩;unfold Do;rw[EZ _ _ _ _ AJ];by_cases hq:u/8=v/8
 ·rw[AP hq,c (u%8) AJ,<-hq,h3 u hu];constructor
  ·rintro (h|h)
   {exact .inl h};{exact .inr AJ}
  ·rintro (h|h)
   {exact .inl h};{exact .inr AJ}
 ·rw[AQ hq,h3 u hu];constructor
  ·exact .inl
  ·rintro (h|h)
   {exact h};{omega}
theorem DM.rem {bs:List Int} {P:Nat->Prop} (h:DM bs P) (v:Nat) (hv:v<256):DM (Eq bs v) (λu=>P u/\u≠v):=by
 obtain⟨h1,h2,h3⟩:=h;have hx:=h2.get (v/8);obtain⟨a,b,c⟩:=Jy _ (v%8) hx.1 hx.2 AJ;refine⟨by unfold Eq;rw[List.length_set];exact h1,IZ h2 _ _ a b,λu hu=>?_⟩;unfold Eq;rw[EZ _ _ _ _ AJ];by_cases hq:u/8=v/8
 ·rw[AP hq,c (u%8) AJ,<-hq,h3 u hu];constructor
  {rintro⟨h,h'⟩;exact⟨h,AJ⟩};{rintro⟨h,h'⟩;exact⟨h,AJ⟩}
 ·rw[AQ hq,h3 u hu];constructor
  {intro h;exact⟨h,AJ⟩};{exact λh=>h.1}
def Fp (v:Int):Bool:=decide (0<=v/\v<256)
def JI (v:Int):Bool:=decide (0<=v/\v<=4294967295)
theorem Cp (v:Int) (w:aV):Calls tP 69 #[aO aZ v] w λe w'=>e=aQ (ae (Fp v))/\w'=w:=by
 by_cases h0:0<=v
 ·by_cases h1:v<256
  ·have HD:AO (Fp v=true):=Aj ⟨h0,h1⟩;go_enter func69,ntmps69;go_wp2
   go_ret
   exact⟨by rw[HD.o];rfl,rfl⟩
  ·have HD:AO (Fp v=false):=Ac (λh=>h1 h.2);go_enter func69,ntmps69;go_wp2
   go_ret
   exact⟨by rw[HD.o];rfl,rfl⟩
 ·have HD:AO (Fp v=false):=Ac (λh=>h0 h.1);go_enter func69,ntmps69;go_wp2
  go_ret
  exact⟨by rw[HD.o];rfl,rfl⟩
theorem Kw (v:Int) (w:aV):Calls tP 72 #[aO aZ v] w λe w'=>e=aQ (ae (JI v))/\w'=w:=by
 by_cases h0:0<=v
 ·by_cases h1:v<=4294967295
  ·have HD:AO (JI v=true):=Aj ⟨h0,h1⟩;go_enter func72,ntmps72;go_wp2
   go_ret
   exact⟨by rw[HD.o];rfl,rfl⟩
  ·have HD:AO (JI v=false):=Ac (λh=>h1 h.2);go_enter func72,ntmps72;go_wp2
   go_ret
   exact⟨by rw[HD.o];rfl,rfl⟩
 ·have HD:AO (JI v=false):=Ac (λh=>h0 h.1);go_enter func72,ntmps72;go_wp2
  go_ret
  exact⟨by rw[HD.o];rfl,rfl⟩
theorem PC (v:Nat):(2:Int)^(v%8)%256=2^(v%8):=by
 have:v%8=0\/v%8=1\/v%8=2\/v%8=3\/v%8=4\/v%8=5\/v%8=6\/v%8=7:=AJ
 rcases this with h|h|h|h|h|h|h|h<;>rw[h]<;>decide
theorem Ia (g o v:Nat) (bs:List Int) (w:aV) (hv:v<256) (hb:Q2 w g o bs) :
  Calls tP 70 #[aY (aR ⟨g,o,aS⟩),aO aZ v] w λe w'=>e=aQ (.tuple #[])/\∃ q,w'=(w.setCell ⟨g,o+v/8,aS⟩ (aO aP ((Do bs v).getD (v/8) 0))).drewN q:=by
 obtain⟨h1,h2,h3⟩:=hb;obtain⟨c0,f0⟩:=h3 (v/8) AJ;obtain⟨x0,x1⟩:=h2.get (v/8);have HX:AO ((Do bs v).getD (v/8) 0=bits .or aP (bs.getD (v/8) 0) (2^(v%8))):=by
  show _=_
  unfold Do;rw[EZ _ _ _ _ AJ,AP rfl]
 have HM:=CY <| PC v
 have hv':(v:Int)<256:=AJ
 have hv8:(v:Int)/8<32:=AJ
 clear h1 h2 h3;generalize bs.getD (v/8) 0=x at *;go_enter func70,ntmps70
 go_region
 rw[HM.o,<-HX.o]
 go_end0
 exact⟨rfl,1,rfl⟩
theorem Jz (g o v:Nat) (bs:List Int) (w:aV) (hv:v<256) (hb:Q2 w g o bs) :
  Calls tP 73 #[aY (aR ⟨g,o,aS⟩),aO aZ v] w λe w'=>e=aQ (.tuple #[])/\∃ q,w'=(w.setCell ⟨g,o+v/8,aS⟩ (aO aP ((Eq bs v).getD (v/8) 0))).drewN q:=by
 obtain⟨h1,h2,h3⟩:=hb;obtain⟨c0,f0⟩:=h3 (v/8) AJ;obtain⟨x0,x1⟩:=h2.get (v/8);have HX:AO ((Eq bs v).getD (v/8) 0=bits .andNot aP (bs.getD (v/8) 0) (2^(v%8))):=by
  show _=_
  unfold Eq;rw[EZ _ _ _ _ AJ,AP rfl]
 have HM:=CY <| PC v
 have hv':(v:Int)<256:=AJ
 have hv8:(v:Int)/8<32:=AJ
 clear h1 h2 h3;generalize bs.getD (v/8) 0=x at *;go_enter func73,ntmps73
 go_region
 rw[HM.o,<-HX.o]
 go_end0
 exact⟨rfl,1,rfl⟩
theorem GK (g o:Nat) (v:Int) (bs:List Int) (P:Nat->Prop) (q:Bool) (w:aV) (hb:Q2 w g o bs) (hs:DM bs P) (hq:q=true↔(0<=v/\v<256/\P v.toNat)) :
  Calls tP 71 #[aY (aR ⟨g,o,aS⟩),aO aZ v] w λe w'=>e=aQ (ae q)/\w'=w:=by
 by_cases hv:0<=v/\v<256
 ·obtain⟨h0,h1⟩:=hv;obtain⟨v,rfl⟩:=Ab h0;obtain⟨l1,l2,l3⟩:=hb;obtain⟨c0,f0⟩:=l3 (v/8) AJ;obtain⟨x0,x1⟩:=l2.get (v/8);have hbit:=hs.2.2 v AJ;have HSO:AO (Fp (v:Int)=true):=Aj ⟨h0,h1⟩;have hpp:(0:Int)<2^(v%8):=Int.pow_pos AK;have y0:0<=bs.getD (v/8) 0/2^(v%8):=Int.ediv_nonneg x0 AJ;have y1:bs.getD (v/8) 0/2^(v%8)<=bs.getD (v/8) 0:=Int.ediv_le_self _ x0;have HA:AO (bits .and aP (bs.getD (v/8) 0/2^(v%8)) 1=bs.getD (v/8) 0/2^(v%8)%2):=by
   show _=_
   obtain⟨y,hy⟩:=Ab y0;rw[hy];have:=u8_and_nat y 1 AJ AK;rw[show((1:Int))=((1:Nat):Int) from rfl,this,Nat.and_one_is_mod];omega
  have HQ:AO ((bs.getD (v/8) 0/2^(v%8)%2 == 1)=q):=by
   show _=_
   have h2:bs.getD (v/8) 0/2^(v%8)%2=0\/bs.getD (v/8) 0/2^(v%8)%2=1:=AJ
   rcases h2 with h2|h2
   ·rw[h2];cases q with
    |false=>rfl
    |true=>
     have:=hq.1 rfl;have:=hbit.2 (by simpa using this.2.2);omega
   ·rw[h2];cases q with
    |true=>rfl
    |false=>
     have:=hq.2 ⟨h0,h1,by simpa using hbit.1 h2⟩;cases this
  have hv8:(v:Int)/8<32:=AJ
  clear l1 l2 l3 hbit hs hq hpp;generalize bs.getD (v/8) 0=x at *;go_enter func71,ntmps71;go_wp2_with fail;refine(Cp _ _).mono ?_;rintro e w1 ⟨rfl,rfl⟩;rw[HSO.o];go_wp2;rw[HA.o,HQ.o]
  go_ret
  exact⟨rfl,rfl⟩
 ·have HSO:AO (Fp v=false):=Ac hv;have HQ:AO (q=false):=by
   show _=_
   cases q with
   |false=>rfl
   |true=>exact absurd ⟨(hq.1 rfl).1,(hq.1 rfl).2.1⟩ hv
  clear hv hq hb hs;go_enter func71,ntmps71;go_wp2_with fail;refine(Cp _ _).mono ?_;rintro e w1 ⟨rfl,rfl⟩;rw[HSO.o];go_wp2
  go_ret
  exact⟨by rw[HQ.o];rfl,rfl⟩
def Xg (xs:List Int) (i:Nat):Prop:=0<=xs.getD i 0/\xs.getD i 0<256/\(0<i->xs.getD (i-1) 0<xs.getD i 0)
def DO (xs:List Int):Prop:=∀ i,i<xs.length->Xg xs i
open Classical in
noncomputable def IG (xs:List Int):Bool:=decide (DO xs)
theorem Ib (xs:List Int):IG xs=true↔DO xs:=by unfold IG;simp
theorem Ic {xs:List Int} (h:¬ DO xs):IG xs=false:=by unfold IG;simp[h]
theorem GL {xs:List Int} (h:DO xs):IG xs=true:=by unfold IG;simp[h]
theorem II {fn:Func} {p u:Tmp} (h:fn.results=#[.cell p 59,.tmp u]) (tmps:Array aX) (w:aV) (g:Nat) (cs:Array aX) (v:aX) (hv:tmps.getD u undef=v)
  (hp:tmps.getD p undef=aY (aR ⟨g,0,aS⟩)) (hr:w.heap[g]?=aR (aa cs 59 (0,0))) (hs:(tP.info? 59).map (·.size)=aR cs.size) :
  (results fn tmps).run tP w=.ok (.tuple #[af cs,v]) w:=by
 have hp':tmps[p]?.getD undef=aY (aR ⟨g,0,aS⟩):=by simpa using hp
 have hv':tmps[u]?.getD undef=v:=by simpa using hv
 have hl:=run_loadVar_row (P:=tP) w g 59 59 cs (0,0) _ hr underlying59 rfl hs;simp[results,h,hp',hv',asAddr,hl]
def Nm:List Int:=[0,0,0,0,0,0,0,0,0,0,0,0,0,0,0,0,0,0,0,0,0,0,0,0,0,0,0,0,0,0,0,0]
theorem LX:DM Nm (λ_=>False):=by
 refine⟨rfl,by unfold Cb Nm;decide,λv hv=>⟨λh=>?_,λh=>h.elim⟩⟩;have e:Nm.getD (v/8) 0=0:=by
  have:v/8<32:=AJ
  generalize v/8=q at *;have hq:∀ q,q<32->Nm.getD q 0=0:=AK
  exact hq q this
 rw[e] at h;simp at h
theorem DM.congr {bs:List Int} {P Q:Nat->Prop} (h:DM bs P) (hq:∀ v,v<256->(P v↔Q v)):DM bs Q:=⟨h.1,h.2.1,λv hv=>(h.2.2 v hv).trans (hq v hv)⟩
theorem Er.bat {w:aV} {g:Nat} {t:TypeId} {bs:List Int} (h:Er w g t bs) (hl:bs.length=32) (hb:Cb bs):Q2 w g 0 bs:=⟨hl,hb,λi hi=>by rw[Ar];exact⟨h.cell i AJ,h.frozen i⟩⟩
theorem Tryz.sizeSS:(tP.info? 59).map (·.size)=aR 32:=AM
structure Y9 (w:aV) (xs:List Int) (k:Nat) (wr:aV):Prop where
 below:Below w.heap.size w wr
 res:Er wr w.heap.size 59 Nm
 set:∃ bs,Er wr (w.heap.size+1) 59 bs/\DM bs (λv=>(v:Int)∈xs.take k)
 ok:∀ i,i<k->Xg xs i
def F8 (xs:List Int) (k:Nat):Int:=if k=0 then -1 else xs.getD (k-1) 0
def Zx (w:aV) (xs:List Int) (e:Ending) (w':aV):Prop:=
 ∃ bs,e=aQ (.tuple #[af (bs.map (Value.int aP)).toArray,ae (IG xs)])/\bs.length=32/\Cb bs/\(DO xs->DM bs (λv=>(v:Int)∈xs))/\Below w.heap.size w w'
theorem Kx (a:Option Addr) (n cap:Nat) (xs:List Int) (w:aV) (hn:xs.length=n) (hm:n<=1048576) (ha:At aZ w a xs) :
  Calls tP 43 #[aM a n cap] w (Zx w xs):=by
 have HS:AO (Y9 w xs 0 ((w.alloc (aa CU 59)).alloc (aa CU 59))):=by
  have bb:Below w.heap.size w ((w.alloc (aa CU 59)).alloc (aa CU 59)):=(Cf.alloc Ch _).alloc AL _;refine⟨bb,?_,⟨Nm,?_,LX.congr (λv _=>AL)⟩,λi hi=>AJ⟩
  ·show _=_
   rw[BD _ _ w.heap.size AL];exact AS w _
  ·show _=_
   have:=AS (w.alloc (aa CU 59)) (aa CU 59)
   rwa [show(w.alloc (aa CU 59)).heap.size=w.heap.size+1 by simp] at this
 have HA:=CY <| ha
 have HNX:=CY <| hn
 clear ha hn;go_enter func43,ntmps43;go_wp2_with fail;generalize ((w.alloc (aa CU 59)).alloc (aa CU 59))=w0 at *
 go_loopw [5,10] (λl i wr=>∃ k:Nat,k<=n/\i=aO aZ k/\l=aO aZ (F8 xs k)/\Y9 w xs k wr) (λ_ i _=>n-(intOf i).toNat)
 case atStart=>exact⟨0,Aw _,rfl,rfl,HS.o⟩
 case round=>
  clear HS;obtain⟨k,hk,rfl,rfl,hst⟩:=hrel;by_cases hlt:k<n
  ·have hlt':(k:Int)<n:=AJ
   obtain⟨b,off,ea,hb,hc⟩:=(HA.o.below hst.below).get (AG HNX.o);have hck:=hc k (AG HNX.o);have HST:=CY <| hst
   have HEA:=CY <| ea
   subst ea;clear hst hc hb;by_cases hle:xs.getD k 0<=F8 xs k
   ·have HNO:AO (¬ DO xs):=λh=>by
     have q:=h k (AG HNX.o);unfold F8 at hle;by_cases h0:k=0
     {rw[AP h0] at hle;have:=q.1;omega};{rw[AQ h0] at hle;have:=q.2.2 AJ;omega}
    have HR:=CY <| HST.o.res
    generalize xs.getD k 0=v at *;generalize F8 xs k=l at *;go_wp2_with (first
     |(refine AE 59 (.tmp 2) (.tmp 22) w.heap.size ((Nm.map (Value.int aP)).toArray) 59 HR.o Tryz.sizeSS rfl (all_oneCell_toArray (Az _ _)) ?_)
     |fail)
    refine AU (v:=.tuple #[af (Nm.map (Value.int aP)).toArray,ae false]) (II rfl _ _ w.heap.size _ _ rfl rfl (AB HR.o) Tryz.sizeSS) rfl ?_;exact⟨Nm,by rw[Ic HNO.o],rfl,LX.2.1,λh=>absurd h HNO.o,HST.o.below.trans ((Wr.setRow _ _ _).below Ch)⟩
   ·by_cases hso:0<=xs.getD k 0/\xs.getD k 0<256
    ·obtain⟨v,hv⟩:=Ab hso.1;have hv256:v<256:=AJ
     have HSO:AO (Fp (v:Int)=true):=Aj ⟨AJ,AJ⟩;obtain⟨bs,hrow,hset⟩:=HST.o.set;have HBT:AO (Q2 wr (w.heap.size+1) 0 bs):=hrow.bat hset.1 hset.2.1;have HN:∀ q,AO (Y9 w xs (k+1) ((wr.setCell ⟨w.heap.size+1,0+v/8,aS⟩ (aO aP ((Do bs v).getD (v/8) 0))).drewN q)):=λq=>by
      have hr2:=hrow.set (v/8) ((Do bs v).getD (v/8) 0);have e2:bs.set (v/8) ((Do bs v).getD (v/8) 0)=Do bs v:=by
       unfold Do;rw[EZ _ _ _ _ (AG hset.1),AP rfl]
      rw[e2] at hr2;have hw:Wr (w.heap.size+1) wr (wr.setCell ⟨w.heap.size+1,v/8,aS⟩ (aO aP ((Do bs v).getD (v/8) 0))):=(Wr.refl _ _).setCell _ _;rw[Ar];refine⟨?_,?_,⟨Do bs v,hr2,(hset.add v hv256).congr (λu hu=>?_)⟩,λi hi=>?_⟩
      ·have bq:=HST.o.below.trans (hw.below AJ);exact⟨bq.os,bq.tape,bq.output,bq.size,bq.block⟩
      ·have:=HST.o.res;show _=_
       exact(hw.block _ AJ).trans this
      ·rw[I1 xs k (AG HNX.o),Bi,hv];simp only[List.mem_cons,List.not_mem_nil,or_false];constructor
       ·rintro (h|h)
        {exact .inl h};{exact .inr AJ}
       ·rintro (h|h)
        {exact .inl h};{exact .inr AJ}
      ·by_cases hik:i<k
       ·exact HST.o.ok i hik
       ·have:i=k:=AJ
        subst this;refine⟨hso.1,hso.2,λh0=>?_⟩;unfold F8 at hle;rw[AQ AJ] at hle;omega
     have HL:AO (F8 xs (k+1)=(v:Int)):=by show _=_;unfold F8;rw[AQ AJ,Bz];exact hv
     rw[hv] at hck hle;clear hso hrow hset hv;generalize F8 xs k=l at *;go_wp2_with fail;refine(Cp _ _).mono ?_;rintro e w1 ⟨rfl,rfl⟩;rw[HSO.o];go_wp2_with fail;refine(Ia (w.heap.size+1) 0 v bs _ hv256 HBT.o).mono ?_;rintro e w2 ⟨rfl,q,rfl⟩;have H2:=HN q;clear HN HBT HST;generalize (w1.setCell ⟨w.heap.size+1,0+v/8,aS⟩ (aO aP ((Do bs v).getD (v/8) 0))).drewN q=w2 at *;go_wp2;go_roundw
     case rel=>exact⟨k+1,AJ,by go_num,by rw[HL.o],H2.o⟩
     case measure=>simp[intOf];omega
    ·have HSO:AO (Fp (xs.getD k 0)=false):=Ac hso;have HNO:AO (¬ DO xs):=λh=>hso ⟨(h k (AG HNX.o)).1,(h k (AG HNX.o)).2.1⟩
     have HR:AO (wr.heap[w.heap.size]?=aR (aa (Nm.map (Value.int aP)).toArray 59 (0,0))):=HST.o.res;clear hso;generalize xs.getD k 0=v at *;generalize F8 xs k=l at *;go_wp2_with fail;refine(Cp _ _).mono ?_;rintro e w1 ⟨rfl,rfl⟩;rw[HSO.o];go_wp2_with (first
      |(refine AE 59 (.tmp 2) (.tmp 22) w.heap.size ((Nm.map (Value.int aP)).toArray) 59 HR.o Tryz.sizeSS rfl (all_oneCell_toArray (Az _ _)) ?_)
      |fail)
     refine AU (v:=.tuple #[af (Nm.map (Value.int aP)).toArray,ae false]) (II rfl _ _ w.heap.size _ _ rfl rfl (AB HR.o) Tryz.sizeSS) rfl ?_;exact⟨Nm,by rw[Ic HNO.o],rfl,LX.2.1,λh=>absurd h HNO.o,HST.o.below.trans ((Wr.setRow _ _ _).below Ch)⟩
  ·have hkn:k=n:=AJ
   have hlt':¬ ((k:Int)<n):=AJ
   obtain⟨bs,hrow,hset⟩:=hst.set;have HYE:AO (DO xs):=λi hi=>hst.ok i (AG HNX.o)
   have HBS:AO (bs.length=32/\Cb bs/\DM bs (λv=>(v:Int)∈xs)):=⟨hset.1,hset.2.1,hset.congr (λv _=>by rw[Ad (AG HNX.o)])⟩
   have HR:=CY <| hst.res
   have HL:=CY <| hrow
   have HSZ:AO ((tP.info? 59).map (·.size)=aR ((bs.map (Value.int aP)).toArray).size):=by show _=_;rw[Tryz.sizeSS];simp[hset.1]
   have HEQ:AO (((Nm.map (Value.int aP)).toArray).size=((bs.map (Value.int aP)).toArray).size):=by show _=_;simp[hset.1,Nm]
   have HBW:=CY <| hst.below
   clear hst hrow hset;generalize F8 xs k=l at *;go_wp2_with (first
    |(refine AZ rfl 59 (.tmp 4) rfl (w.heap.size+1) rfl 59 _ (0,0) _ HL.o underlying59 rfl HSZ.o ?_)
    |(refine AE 59 (.tmp 2) (.tmp 27) w.heap.size ((bs.map (Value.int aP)).toArray) 59 HR.o HSZ.o HEQ.o (all_oneCell_toArray (Az _ _)) ?_)
    |fail)
   refine AU (v:=.tuple #[af (bs.map (Value.int aP)).toArray,ae true]) (II rfl _ _ w.heap.size _ _ rfl rfl (AB HR.o) HSZ.o) rfl ?_;exact⟨bs,by rw[GL HYE.o],HBS.o.1,HBS.o.2.1,λ_=>HBS.o.2.2,HBW.o.trans ((Wr.setRow _ _ _).below Ch)⟩
end Go.Proofs.YtncomnkdlpoelaaGreatDoor
