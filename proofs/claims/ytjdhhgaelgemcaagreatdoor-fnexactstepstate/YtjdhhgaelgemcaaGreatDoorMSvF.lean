import Derived.Test.YtjdhhgaelgemcaaGreatDoorMSvE
open Go.Proofs.Tryz renaming prog->tP
open Go.Proofs.Tryz
open Go.Value renaming slice->Z7,int->Z8,agg->aH
open Go.IntKind renaming i64->aI
open Go.Obj renaming cells->aJ
open Option renaming some->aE,none->aA
open Go renaming World->aC,Value->aB
set_option maxHeartbeats 1000000
set_option maxRecDepth 100000
namespace Go.Proofs.YtjdhhgaelgemcaaGreatDoor
open Go.ChangeShapes Go.WideShapes Go.ChangeAt Go.RowKit
set_option linter.unusedVariables false
theorem R7 (s nw:Int) (w:aC):Calls tP 44 #[aH #[Z8 aI s,Z8 aI nw]] w λe w'=>e=.returned (aH #[Z8 aI s,Z8 aI nw])/\Below w.heap.size w w':=by
 have HB:AO (Below w.heap.size w (((w.alloc (aJ #[Z8 aI s,Z8 aI nw] 85)).alloc (aJ #[Z8 aI s,Z8 aI nw] 77)).alloc (aJ #[Z8 aI s,Z8 aI nw] 77))):=((Cg.alloc Cl _).alloc AL _).alloc (by simp;omega) _;have HR:AO ((((w.alloc (aJ #[Z8 aI s,Z8 aI nw] 85)).alloc (aJ #[Z8 aI s,Z8 aI nw] 77)).alloc (aJ #[Z8 aI s,Z8 aI nw] 77)).heap[w.heap.size+1]?=aE (aJ #[Z8 aI s,Z8 aI nw] 77 (0,0))):=by
  show _=_
  rw[A5 _ _ (w.heap.size+1) AL];have:=AX (w.alloc (aJ #[Z8 aI s,Z8 aI nw] 85)) (aJ #[Z8 aI s,Z8 aI nw] 77)
  rwa [show(w.alloc (aJ #[Z8 aI s,Z8 aI nw] 85)).heap.size=w.heap.size+1 by simp] at this
 have HSZ:AO ((tP.info? 77).map (·.size)=aE 2):=by show _=_;kernel_rfl
 go_enter func44,ntmps44;go_wp2;exact Ab (v:=aH #[Z8 aI s,Z8 aI nw]) (Ah rfl _ _ (w.heap.size+1) 77 _ (0,0) _ rfl HR.o underlying77 rfl HSZ.o) rfl ⟨rfl,HB.o⟩
structure TT (w wr:aC) (g n:Nat) (T:List Int) (k:Nat):Prop where
 below:Below w.heap.size w wr
 blk:∃ cur:Array aB,wr.heap[g]?=aE (aJ cur 77 (0,0))/\cur.size=n*2/\∀ i,i<k*2->cur[i]?=aE (Z8 aI (T.getD i 0))
theorem TT.step {w wr w1:aC} {g n:Nat} {T:List Int} {k:Nat} (h:TT w wr g n T k) (hk:k<n) (hg:w.heap.size<=g) (hb:Below wr.heap.size wr w1) :
  TT w ((w1.setCell ⟨g,k*2,aA⟩ (Z8 aI (T.getD (k*2) 0))).setCell ⟨g,k*2+1,aA⟩ (Z8 aI (T.getD (k*2+1) 0))) g n T (k+1):=by
 obtain⟨cur,h1,h2,h3⟩:=h.blk;have hgl:=(AR.1 h1).1;have h1':w1.heap[g]?=aE (aJ cur 77 (0,0)):=by rw[hb.block g hgl];exact h1
 have e1:=A8 w1 g (k*2) _ _ (Z8 aI (T.getD (k*2) 0)) h1';have e2:=A8 _ g (k*2+1) _ _ (Z8 aI (T.getD (k*2+1) 0)) e1;refine⟨((h.below.trans (hb.mono h.below.size)).setCell hg _).setCell hg _,⟨_,e2,by simp[h2],λi hi=>?_⟩⟩;by_cases ea:i=k*2
 ·subst ea;rw[BM AJ,BW AJ]
 ·by_cases eb:i=k*2+1
  ·subst eb;rw[BW (by simp;omega)]
  ·rw[BM AJ,BM AJ];exact h3 i AJ
structure CE (w:aC) (tb tr:TypeId) (sc zs vs:Array aB) (wr:aC):Prop where
 below:Below w.heap.size w wr
 box:wr.heap[w.heap.size]?=aE (aJ sc tb (0,0))
 res:wr.heap[w.heap.size+1]?=aE (aJ zs tr (0,0))
 var:wr.heap[w.heap.size+1+1]?=aE (aJ vs tr (0,0))
theorem CE.lt {w wr:aC} {tb tr:TypeId} {sc zs vs:Array aB} (h:CE w tb tr sc zs vs wr):w.heap.size+1+1<wr.heap.size:=(AR.1 h.var).1
theorem CE.call {w wr w':aC} {tb tr:TypeId} {sc zs vs:Array aB} (h:CE w tb tr sc zs vs wr) (b:Below wr.heap.size wr w'):CE w tb tr sc zs vs w':=by
 have:=h.lt;exact⟨h.below.trans (b.mono h.below.size),by rw[b.block _ AJ];exact h.box,by rw[b.block _ AJ];exact h.res,by rw[b.block _ AJ];exact h.var⟩
theorem CE.put {w wr:aC} {tb tr:TypeId} {sc zs vs:Array aB} (h:CE w tb tr sc zs vs wr) (i:Nat) (v:aB):CE w tb tr sc zs (vs.setIfInBounds i v) (wr.setCell ⟨w.heap.size+1+1,i,aA⟩ v):=by
 have hw:Wr (w.heap.size+1+1) wr (wr.setCell ⟨w.heap.size+1+1,i,aA⟩ v):=(Wr.refl _ _).setCell _ _;exact⟨h.below.trans (hw.below AJ),(hw.block _ AJ).trans h.box,(hw.block _ AJ).trans h.res,A8 _ _ _ _ _ _ h.var⟩
theorem CE.start (w:aC) (tb tr:TypeId) (sc zs vs:Array aB):CE w tb tr sc zs vs (((w.alloc (aJ sc tb)).alloc (aJ zs tr)).alloc (aJ vs tr)):=by
 refine⟨((Cg.alloc Cl _).alloc AL _).alloc (by simp;omega) _,?_,?_,?_⟩
 ·rw[A5 _ _ w.heap.size (by simp;omega),A5 _ _ w.heap.size AL];exact AX w _
 ·rw[A5 _ _ (w.heap.size+1) AL];have:=AX (w.alloc (aJ sc tb)) (aJ zs tr)
  rwa [show(w.alloc (aJ sc tb)).heap.size=w.heap.size+1 by simp] at this
 ·have:=AX ((w.alloc (aJ sc tb)).alloc (aJ zs tr)) (aJ vs tr)
  rwa [show((w.alloc (aJ sc tb)).alloc (aJ zs tr)).heap.size=w.heap.size+1+1 by simp] at this
theorem Md (a:Option Addr) (n cap:Nat) (zs:List Int) (w:aC) (hn:zs.length=n) (hm:n<=1048576) (ha:At aI w a zs) :
  Calls tP 27 #[Z7 a n cap] w λe w'=>e=.returned (Z7 (aE ⟨w.heap.size,0,aA⟩) n n)/\DZ w' w.heap.size 2 (iC zs)/\Below w.heap.size w w':=
 (UW a n cap zs w hn hm ha).mono (λe w' ⟨h1,h2,h3⟩=>⟨h1,DZ.of_owns h2,h3⟩)
theorem R8 (a:Option Addr) (n cap:Nat) (T:List Int) (w:aC) (hl:T.length=n*2) (hn:n<=1048576) (ha:At aI w a T) :
  Calls tP 28 #[Z7 a n cap] w λe w'=>e=.returned (Z7 (aE ⟨w.heap.size,0,aA⟩) n n)/\DZ w' w.heap.size 77 (iC T)/\Below w.heap.size w w':=by
 obtain⟨i0,hi,hz0,hz1,hz2⟩:=Bh Tryz.infoTap;have HI:AO (i0.bytes=16):=hz2;have HLT:AO (T.length=n*2):=hl;have HA:AO (At aI w a T):=ha;clear hz2 hl ha;go_enter func28,ntmps28;go_wp2_with (first
  |(at_make;refine wpList_make_full _ rfl _ _ 31 rfl w.heap.size 77 i0 (aH #[Z8 aI 0,Z8 aI 0]) 2 underlying31 hi hz0 hz1 _ _ _ _ n rfl rfl rfl rfl ?c1 ?c2 ?c3 ?_)
  |fail)
 case c1=>rw[HI.o];omega
 case c2=>unfold maxLen;omega
 case c3=>exact Ac _
 intro w1 hown hgrow;have hb1:Below w.heap.size w w1:=Cg.grown hgrow Cl AL;have hst:TT w w1 w.heap.size n T 0:=by
  obtain⟨h1,⟨h2,_⟩|⟨g',cap,cur,hv,hb,hh,hc,hm,hs,ht⟩⟩:=hown
  ·cases h2
  ·cases hv;exact⟨hb1,⟨cur,hh,hs,λi hi=>AJ⟩⟩
 have HST:AO (TT w w1 w.heap.size n T 0):=hst;clear hown hgrow hb1 hst hi hz0 hz1;go_wp2
 go_loopw [4] (λi wr=>∃ k:Nat,k<=n/\i=Z8 aI k/\TT w wr w.heap.size n T k) (λi _=>n-(intOf i).toNat)
 case atStart=>exact⟨0,Au _,rfl,HST.o⟩
 case round=>
  clear HST;obtain⟨k,hk,rfl,st⟩:=hrel;by_cases hlt:k<n
  ·have hlt':(k:Int)<n:=AJ
   obtain⟨b,off,ea,hb,hc⟩:=(HA.o.below st.below).get (AG HLT.o);have t0:=hc (k*2) (AG HLT.o);have t1:=hc (k*2+1) (AG HLT.o);rw[<-Ax] at t1;subst ea;obtain⟨cur,c1,c2,c3⟩:=st.blk;have hgl:=(AR.1 c1).1;have HC1:AO (wr.heap[w.heap.size]?=aE (aJ cur 77 (0,0))):=c1;have HSP:AO (∀ w1,Below wr.heap.size wr w1->TT w ((w1.setCell ⟨w.heap.size,k*2,aA⟩ (Z8 aI (T.getD (k*2) 0))).setCell ⟨w.heap.size,k*2+1,aA⟩ (Z8 aI (T.getD (k*2+1) 0))) w.heap.size n T (k+1)):=λw1 hb=>st.step hlt Cl hb
   clear hc hb c3 st c1;generalize T.getD (k*2) 0=s at *;generalize T.getD (k*2+1) 0=nw at *;go_wp2_with fail;refine(R7 s nw wr).mono ?_;rintro e w2 ⟨rfl,hb2⟩;have k1:w2.heap[w.heap.size]?=aE (aJ cur 77 (0,0)):=by rw[hb2.block _ hgl];exact HC1.o
   have d0:w2.cell? ⟨w.heap.size,k*2,aA⟩=aE (cur[k*2]' AJ):=by rw[AA k1 _];simp
   have d1:w2.cell? ⟨w.heap.size,k*2+1,aA⟩=aE (cur[k*2+1]' AJ):=by rw[AA k1 _];simp
   have f0:=Ar w2 w.heap.size (k*2) _ _ k1;have f1:=Ar w2 w.heap.size (k*2+1) _ _ k1;generalize (cur[k*2]' AJ)=o0 at *;generalize (cur[k*2+1]' AJ)=o1 at *;have HEN:AO (TT w ((w2.setCell ⟨w.heap.size,k*2,aA⟩ (Z8 aI s)).setCell ⟨w.heap.size,k*2+1,aA⟩ (Z8 aI nw)) w.heap.size n T (k+1)):=HSP.o w2 hb2;clear k1 hb2 t0 t1 HSP HC1;go_wp2;go_roundw
   case rel=>exact⟨k+1,AJ,by go_num,HEN.o⟩
   case measure=>simp[intOf];omega
  ·have hkn:k=n:=AJ
   have hlt':¬ ((k:Int)<n):=AJ
   have HM:AO (DZ wr w.heap.size 77 (iC T)/\Below w.heap.size w wr):=by
    obtain⟨cur,c1,c2,c3⟩:=st.blk;refine⟨?_,st.below⟩;unfold DZ;rw[c1,RO c2 HLT.o (λi hi=>c3 i AJ)]
   clear st;go_wp2
   go_ret
   exact⟨rfl,HM.o.1,HM.o.2⟩
theorem Y8:ownKnob tP.godebug=none:=AM
theorem Ib:laidOutB tP=true:=AM
def Yr (x:Int):Prop:=-9223372036854775808<=x/\x<=9223372036854775807
theorem Yr.of_wf {x:Int} (h:(Lit.int aI x).wf=true):Yr x:=by
 simp[Lit.wf,IntKind.min,IntKind.max,IntKind.signed,IntKind.bits] at h;exact⟨AJ,AJ⟩
section
variable {H:Type} {enc:TypeId×aB->H} {W:aC}
theorem O1 {fuel:Nat} {v:aB} {y:DataW H×List MemPlace} (h:DataW.trod enc tP W 0 (λ_=>true) true fuel 22 [v]=aE y) :
  ∃ a n cap zs,v=Z7 a n cap/\zs.length=n/\n<=9223372036854775807/\At aI W a zs:=by
 rcases open_ints underlying22 underlying2 AM h with⟨hcs,_⟩|⟨x,l,c,zs,hcs,_,hl,hm,hz,_,hcell,hwz⟩
 ·simp at hcs;exact⟨aA,0,0,[],hcs,rfl,AJ,.inl rfl⟩
 ·simp at hcs;have hz':zs.length=c:=by simpa using hz
  refine⟨aE x,l,c,zs.take l,hcs,by simp;omega,by unfold maxLen at hm;omega,?_⟩;by_cases h0:l=0
  ·left;simp[h0]
  ·right;obtain⟨b,off,spot⟩:=x;have hc0:=hcell 0 AJ;have hs:spot=none:=by simpa[Addr.add] using World.cell?_spot hc0
   subst hs;refine⟨b,off,rfl,block_lt_of_cell (a:=(⟨b,off,aA⟩:Addr).add 0) hc0,λi hi=>?_⟩;have hi':i<l:=by simp at hi;omega
   have:=hcell i AJ;rw[Az] at this;rw[this];simp[List.getD,hi']
theorem Uc {fuel:Nat} {v:aB} {y:DataW H×List MemPlace} (h:DataW.trod enc tP W 0 (λ_=>true) true fuel 23 [v]=aE y) :
  ∃ a n cap T,v=Z7 a n cap/\T.length=n*2/\n<=9223372036854775807/\At aI W a T:=by
 rcases Go.Deep.open_slice_pairs underlying23 underlying85 AM rfl rfl AM AM h with⟨hcs,_⟩|⟨x,l,c,m,nn,V0,V1,D0,D1,P0,P1,hcs,_,hl,hm,hmm,_,hx⟩
 ·simp at hcs;exact⟨aA,0,0,[],hcs,rfl,AJ,.inl rfl⟩
 ·simp at hcs hmm;subst hmm;have each:∀ i,i<m->∃ q:Int×Int,V0 i=Z8 aI q.1/\V1 i=Z8 aI q.2:=by
   intro i hi;obtain⟨h1,h2,h3,h4⟩:=hx i hi;obtain⟨s,e1,_,hw⟩:=DataW.trod_int (k:=aI) underlying2 h3;obtain⟨s',e2,_,hw'⟩:=DataW.trod_int (k:=aI) underlying2 h4;simp at e1 e2;exact⟨(s,s'),e1,e2⟩
  obtain⟨q,hq⟩:=Go.Deep.choose_lt each;refine⟨aE x,l,m,(List.range (l*2)).map λi=>if i%2=0 then(q (i/2)).1 else(q (i/2)).2,hcs,AL,by unfold maxLen at hm;omega,?_⟩;by_cases h0:l=0
  ·left;simp[h0]
  ·right;obtain⟨b,off,spot⟩:=x;have hc0:=(hx 0 AJ).1;have hs:spot=none:=by simpa[Addr.add] using World.cell?_spot hc0
   subst hs;refine⟨b,off,rfl,block_lt_of_cell (a:=(⟨b,off,aA⟩:Addr).add (0*2)) hc0,λi hi=>?_⟩;have hi':i<l*2:=by simpa using hi
   obtain⟨h1,h2,_,_⟩:=hx (i/2) AJ;obtain⟨g1,g2⟩:=hq (i/2) AJ;rw[Az] at h1 h2;have hg:((List.range (l*2)).map λi=>if i%2=0 then(q (i/2)).1 else(q (i/2)).2).getD i 0=if i%2=0 then(q (i/2)).1 else(q (i/2)).2:=by simp[List.getD,hi']
   rw[hg];by_cases hp:i%2=0
   ·rw[AP hp,<-g1,<-h1];congr 2;omega
   ·rw[AQ hp,<-g2,<-h2];congr 2;omega
def Me (W:aC) (v0 v1 v2 v3:aB):Prop:=
 ∃(aD:Option Addr) (nD cD:Nat) (D:List Int) (aU:Option Addr) (nU cU:Nat) (U:List Int) (aT:Option Addr) (nT cT:Nat) (T:List Int) (k:Int),v0=Z7 aD nD cD/\v1=Z7 aU nU cU/\v2=Z8 aI k/\v3=Z7 aT nT cT/\D.length=nD/\U.length=nU/\T.length=nT*2/\nD<=9223372036854775807/\nU<=9223372036854775807/\nT<=9223372036854775807/\At aI W aD D/\At aI W aU U/\At aI W aT T/\Yr k
theorem Mf {fuel:Nat} {v0 v1 v2 v3:aB} {y:DataW H×List MemPlace} (h:DataW.trod enc tP W 0 (λ_=>true) true fuel 25 [v0,v1,v2,v3]=aE y):Me W v0 v1 v2 v3:=by
 have k1:tP.cellsOf 22=1:=AM
 have k2:tP.cellsOf 2=1:=AM
 have k3:tP.cellsOf 23=1:=AM
 obtain⟨xs,n,_,_,_,hlen,hf⟩:=DataW.trod_struct underlying25 h
 match xs,hlen with
 |[y0,y1,y2,y3],_=>
  have g0:=hf 0 _ rfl;have g1:=hf 1 _ rfl;have g2:=hf 2 _ rfl;have g3:=hf 3 _ rfl;simp[k1,k2,k3] at g0 g1 g2 g3;obtain⟨aD,nD,cD,D,e0,hD,mD,AD⟩:=O1 g0;obtain⟨aU,nU,cU,U,e1,hU,mU,AU⟩:=O1 g1;obtain⟨k,e2,_,Wk⟩:=DataW.trod_int (k:=aI) underlying2 g2;simp at e2;obtain⟨aT,nT,cT,T,e3,hT,mT,AT⟩:=Uc g3;exact⟨aD,nD,cD,D,aU,nU,cU,U,aT,nT,cT,T,k,e0,e1,e2,e3,hD,hU,hT,mD,mU,mT,AD,AU,AT,Yr.of_wf Wk⟩
theorem R9 {r:Reach} {b0:Nat} {v:aB} {d:DataW H} {p:List MemPlace} (hv:Value.okWide tP W r b0 25 v) (h:DataW.Trod enc tP W 0 (λ_=>true) true 25 v d p):∃ v0 v1 v2 v3,v=aH #[v0,v1,v2,v3]/\Me W v0 v1 v2 v3:=by
 obtain⟨cs,rfl,hsz⟩:=okWide_struct underlying25 hv;have hC:tP.cellsOf 25=4:=AM
 obtain⟨fuel,hf⟩:=h
 match cs,hsz.trans hC with
 |⟨[v0,v1,v2,v3]⟩,_=>exact⟨v0,v1,v2,v3,rfl,Mf hf⟩
end
section
variable {H:Type} {enc:TypeId×aB->H} {W:aC}
theorem Mg {fuel:Nat} {v:aB} {y:DataW H×List MemPlace} (h:DataW.trod enc tP W 0 (λ_=>true) true fuel 26 [v]=aE y) :
  ∃ a n cap zs,v=Z7 a n cap/\zs.length=n/\n<=9223372036854775807/\Ci zs/\At .u8 W a zs:=by
 rcases open_ints underlying26 underlying5 AM h with⟨hcs,_⟩|⟨x,l,c,zs,hcs,_,hl,hm,hz,_,hcell,hwz⟩
 ·simp at hcs;exact⟨aA,0,0,[],hcs,rfl,AJ,by simp[Ci],.inl rfl⟩
 ·simp at hcs;have hz':zs.length=c:=by simpa using hz
  refine⟨aE x,l,c,zs.take l,hcs,by simp;omega,by unfold maxLen at hm;omega,λn hn=>?_,?_⟩
  ·have:=hwz n (Ay hn);simp[Lit.wf,IntKind.min,IntKind.max,IntKind.signed,IntKind.bits] at this;omega
  by_cases h0:l=0
  ·left;simp[h0]
  ·right;obtain⟨b,off,spot⟩:=x;have hc0:=hcell 0 AJ;have hs:spot=none:=by simpa[Addr.add] using World.cell?_spot hc0
   subst hs;refine⟨b,off,rfl,block_lt_of_cell (a:=(⟨b,off,aA⟩:Addr).add 0) hc0,λi hi=>?_⟩;have hi':i<l:=by simp at hi;omega
   have:=hcell i AJ;rw[Az] at this;rw[this];simp[List.getD,hi']
def Vt (W:aC) (v0 v1 v2 v3:aB):Prop:=
 ∃(kind:Int) (a:Option Addr) (n c:Nat) (Y:List Int) (now N:Int),v0=Z8 aI kind/\v1=Z7 a n c/\v2=Z8 aI now/\v3=Z8 aI N/\Y.length=n/\n<=9223372036854775807/\Ci Y/\At .u8 W a Y
theorem SB {fuel:Nat} {v0 v1 v2 v3:aB} {y:DataW H×List MemPlace} (h:DataW.trod enc tP W 0 (λ_=>true) true fuel 28 [v0,v1,v2,v3]=aE y):Vt W v0 v1 v2 v3:=by
 have k1:tP.cellsOf 26=1:=AM
 have k2:tP.cellsOf 2=1:=AM
 obtain⟨xs,n,_,_,_,hlen,hf⟩:=DataW.trod_struct underlying28 h
 match xs,hlen with
 |[y0,y1,y2,y3],_=>
  have g0:=hf 0 _ rfl;have g1:=hf 1 _ rfl;have g2:=hf 2 _ rfl;have g3:=hf 3 _ rfl;simp[k1,k2] at g0 g1 g2 g3;obtain⟨kind,e0,_,_⟩:=DataW.trod_int (k:=aI) underlying2 g0;simp at e0;obtain⟨a,m,c,Y,e1,hY,mY,zY,AY⟩:=Mg g1;obtain⟨now,e2,_,_⟩:=DataW.trod_int (k:=aI) underlying2 g2;simp at e2;obtain⟨N,e3,_,_⟩:=DataW.trod_int (k:=aI) underlying2 g3;simp at e3;exact⟨kind,a,m,c,Y,now,N,e0,e1,e2,e3,hY,mY,zY,AY⟩
theorem YB {r:Reach} {b0:Nat} {v:aB} {d:DataW H} {p:List MemPlace} (hv:Value.okWide tP W r b0 28 v) (h:DataW.Trod enc tP W 0 (λ_=>true) true 28 v d p):∃ v0 v1 v2 v3,v=aH #[v0,v1,v2,v3]/\Vt W v0 v1 v2 v3:=by
 obtain⟨cs,rfl,hsz⟩:=okWide_struct underlying28 hv;have hC:tP.cellsOf 28=4:=AM
 obtain⟨fuel,hf⟩:=h
 match cs,hsz.trans hC with
 |⟨[v0,v1,v2,v3]⟩,_=>exact⟨v0,v1,v2,v3,rfl,SB hf⟩
end
section
variable {P:Program} {ops:Array Oper} {Q:Exit->Act->aC->Prop} {md:Region.Mode}
theorem GI (last:Nat) (M:Nat->aC->aC->Prop) (frame:(Nat->aB)->Act) (Ext:(Nat->Bool)->(Nat->aB)->aC->Prop) (Good:Nat->(Nat->Bool)->aC->aB->Prop) (Fin:(Nat->aB)->aC->Prop)
  (hlast:ops.size=last+1)
  (hwait:((ops[last]?).map (λo=>(List.range last).all (λj=>o.after.any (λe=>Region.binds md e && decide (e.on=j))))).getD false=true)
  (hstab:∀ j L w w' i v,i<last->M i w w'->i≠j->L i=false->Good j L w v->Good j (Cf L i) w' v)
  (hback:(List.range ops.size).all (λi=>((ops[i]?).map (λo=>o.after.all (λe=>decide (e.on<i)))).getD false)=true)
  (hop:∀(i:Nat) (o:Oper) (L:Nat->Bool) (u:Nat->aB) (w:aC),i<last->ops[i]?=aE o->L i=false->Ext L u w->(∀ e∈o.after,Region.binds md e=true->L e.on=true/\Good e.on L w (u e.on))->
   ∀ K:Act->aC->Prop,(∀ w' v,Good i (Cf L i) w' v->Ext (Cf L i) (Ce u i v) w'->M i w w'->K (frame (Ce u i v)) w')->(if Region.wanted o (yielded ops (frame u).tmps)=true then Oper.wp P o (frame u) w K Q else K ((frame u).put o.dst undef) w))
  (hend:∀(o:Oper) (L:Nat->Bool) (u:Nat->aB) (w:aC),ops[last]?=aE o->Ext L u w->(∀ j,j<last->L j=true/\Good j L w (u j))->
   ∀ K:Act->aC->Prop,(∀ w' v,Fin (Ce u last v) w'->K (frame (Ce u last v)) w')->(if Region.wanted o (yielded ops (frame u).tmps)=true then Oper.wp P o (frame u) w K Q else K ((frame u).put o.dst undef) w))
  (hdone:∀ u w,Fin u w->Q .normal (frame u) w) :
  ∀(fuel:Nat) (listed:Array Bool) (u:Nat->aB) (w:aC),listed.size=ops.size->(∀ i,listed.getD i false=false)->Ext (λn=>listed.getD n false) u w->
   (listed.toList.filter (!·)).length<=fuel->wpAny P md ops Q fuel listed (frame u) w:=by
 have hb:∀(i:Nat) (o:Oper),ops[i]?=aE o->∀ e∈o.after,e.on<i:=λi o ho e he=>by
  have hi:i<ops.size:=(AR.1 ho).1;have:=BI.1 hback i (BF.2 hi);rw[ho] at this;simp at this;obtain⟨k,hk,rfl⟩:=BZ.1 he;exact this k hk
 have hw:∀ o,ops[last]?=aE o->∀ j,j<last->∃ e∈o.after,Region.binds md e=true/\e.on=j:=λo ho j hj=>by
  rw[ho] at hwait;have h1:(List.range last).all (λj=>o.after.any (λe=>Region.binds md e && decide (e.on=j)))=true:=by simpa using hwait
  have h2:=BI.1 h1 j (BF.2 hj);obtain⟨e,he,h3⟩:=Array.any_eq_true'.1 h2;simp at h3;exact⟨e,he,h3⟩
 intro fuel listed u w hs hnone hext hc;refine Cn (λi a b=>i=last\/(i<last/\M i a b)) frame (λL u w=>(L last=false/\Ext L u w)\/(L last=true/\(∀ j,j<last->L j=true)/\Fin u w))
  (λj L w v=>if j=last then L last=true else(L last=true\/Good j L w v)) ?_ hback ?_ ?_ fuel listed u w hs (.inl ⟨hnone last,hext⟩) (λi _ hl=>by rw[hnone i] at hl;cases hl) hc
 ·intro j L w w' i v hM hij hLi h;have hu:∀ k,L k=true->Cf L i k=true:=λk hk=>by unfold Cf;split<;>simp[hk]
  by_cases hj:j=last
  ·rw[AP hj] at h |-;exact hu _ h
  ·rw[AQ hj] at h |-;rcases h with h|h
   ·exact .inl (hu _ h)
   ·rcases hM with hil|⟨hi',hM⟩
    ·left;unfold Cf;rw[AP hil.symm]
    ·exact .inr (hstab j L w w' i v hi' hM hij hLi h)
 ·intro i o L u w ho hLi hx hdep K hK;have hi:i<last+1:=by rw[<-hlast];exact(AR.1 ho).1
  rcases hx with⟨hl,hx⟩|⟨hl,hall,_⟩
  ·by_cases hil:i=last
   ·subst hil;refine hend o L u w ho hx (λj hj=>?_) K (λw' v hf=>hK w' v ?_ ?_ (.inl rfl))
    ·obtain⟨e,he,hbd,rfl⟩:=hw o ho j hj;obtain⟨h1,h2⟩:=hdep e he hbd;rw[AQ AJ] at h2;refine⟨h1,h2.resolve_left (by rw[hl];simp)⟩
    ·rw[AP rfl];unfold Cf;simp
    ·refine .inr ⟨by unfold Cf;simp,λj hj=>?_,hf⟩;obtain⟨e,he,hbd,rfl⟩:=hw o ho j hj;have:=(hdep e he hbd).1;unfold Cf;split<;>simp[this]
   ·have hi':i<last:=AJ
    refine hop i o L u w hi' ho hLi hx (λe he hbd=>?_) K (λw' v hg hext hm=>hK w' v ?_ ?_ (.inr ⟨hi',hm⟩))
    ·obtain⟨h1,h2⟩:=hdep e he hbd;have hlt:=hb i o ho e he;rw[AQ AJ] at h2;exact⟨h1,h2.resolve_left (by rw[hl];simp)⟩
    ·rw[AQ hil];exact .inr hg
    ·refine .inl ⟨?_,hext⟩;unfold Cf;rw[AQ AJ];exact hl
  ·exfalso
   by_cases hil:i=last
   ·subst hil;rw[hl] at hLi;cases hLi
   ·rw[hall i AJ] at hLi;cases hLi
 ·intro L u w hx hg;have h1:=hg last AJ;rw[AP rfl] at h1;rcases hx with⟨hl,_⟩|⟨_,_,hf⟩
  ·rw[hl] at h1;cases h1
  ·exact hdone u w hf
end
def Value.adr:aB->Option Addr
 |Z7 a _ _=>a
 |.pointer a=>a
 |_=>aA
def Value.has (v:aB) (k:Nat):Prop:=(∃ a,Value.adr v=aE a/\a.block=k)\/∃ cs,v=aH cs/\∃ c,c∈cs.toList/\∃ a,Value.adr c=aE a/\a.block=k
def Hw (w w':aC) (v:aB):Prop:=∀ k,Value.has v k->w.heap.size<=k/\k<w'.heap.size
def YC (x y:aB):Prop:=∀ k,Value.has x k->¬ Value.has y k
structure SD (W:aC) (ps:List Nat) (L:Nat->Bool) (u:Nat->aB) (w:aC):Prop where
 below:Below W.heap.size W w
 blt:∀ p,p∈ps->L p=true->∀ k,Value.has (u p) k->k<w.heap.size
 ap:∀ p,p∈ps->∀ q,q∈ps->p≠q->L p=true->L q=true->YC (u p) (u q)
theorem SD.start (W:aC) (ps:List Nat) (L:Nat->Bool) (u:Nat->aB) (h:∀ i,L i=false) {w:aC} (b:Below W.heap.size W w):SD W ps L u w:=
 ⟨b,λp _ hp=>(by rw[h] at hp;cases hp),λp _ q _ _ hp=>(by rw[h] at hp;cases hp)⟩
theorem SD.step {W:aC} {ps:List Nat} {L:Nat->Bool} {u:Nat->aB} {w w':aC} (h:SD W ps L u w) (i:Nat) (v:aB) (b:Below w.heap.size w w') (hv:i∈ps->Hw w w' v):SD W ps (Cf L i) (Ce u i v) w':=by
 refine⟨h.below.trans (b.mono h.below.size),λp hp hl=>?_,λp hp q hq hne hlp hlq=>?_⟩
 ·by_cases e:p=i
  ·subst e;simp only[Ce,if_true];exact λk hk=>(hv hp k hk).2
  ·simp only[Cf,if_neg e] at hl;simp only[Ce,if_neg e];exact λk hk=>As (h.blt p hp hl k hk) b.size
 ·by_cases e:p=i
  ·subst e;have e2:¬ q=p:=λh=>hne h.symm
   simp only[Cf,if_neg e2] at hlq;simp only[Ce,if_true,if_neg e2];intro k hk hk';have h1:=(hv hp k hk).1;have h2:=h.blt q hq hlq k hk';omega
  ·by_cases e2:q=i
   ·subst e2;simp only[Cf,if_neg e] at hlp;simp only[Ce,if_true,if_neg e];intro k hk hk';have h1:=(hv hq k hk').1;have h2:=h.blt p hp hlp k hk;omega
   ·simp only[Cf,if_neg e,if_neg e2] at hlp hlq;simp only[Ce,if_neg e,if_neg e2];exact h.ap p hp q hq hne hlp hlq
theorem O8 {cs:Array aB} {k:Nat}:Value.has (aH cs) k↔∃ c,c∈cs.toList/\∃ a,Value.adr c=aE a/\a.block=k:=by
 constructor
 ·rintro (⟨a,h,_⟩|⟨cs',h,h2⟩)
  ·cases h
  ·cases h;exact h2
 ·intro h;exact .inr ⟨_,rfl,h⟩
theorem Hf {g o:Nat} {k:Nat}:Value.has (.pointer (aE ⟨g,o,aA⟩)) k↔k=g:=by
 constructor
 ·rintro (⟨a,h,rfl⟩|⟨cs',h,h2⟩)
  ·cases h;rfl
  ·cases h
 ·rintro rfl;exact .inl ⟨_,rfl,rfl⟩
theorem Il (zss:List (List Int)) (k:Nat) (h:k<zss.length):(zss.take (k+1)).flatten=(zss.take k).flatten++zss.getD k []:=by
 rw[A0 h,List.flatten_append];simp[h]
theorem LN (zss:List (List Int)) (k:Nat):(zss.take k).flatten.length<=zss.flatten.length:=by
 conv=>rhs;rw[<-List.take_append_drop k zss]
 rw[List.flatten_append,Ak];omega
end Go.Proofs.YtjdhhgaelgemcaaGreatDoor
