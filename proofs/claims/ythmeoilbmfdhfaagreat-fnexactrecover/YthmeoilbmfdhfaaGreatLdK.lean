import Derived.Test.YthmeoilbmfdhfaaGreatMLdM
open Go.Value renaming slice->UD,int->UE,pointer->UM,bool->UF,agg->UN
open Go.IntKind renaming u32->UG
open Go.Obj renaming cells->UP
open Option renaming some->UI
open Go renaming World->UK,Value->UL
namespace Go.Proofs.YthmeoilbmfdhfaaGreat
set_option maxHeartbeats 8000000
set_option maxRecDepth 100000
open Go.ChangeShapes Go.WideShapes Go.ChangeAt Go.RowKit
set_option linter.unusedVariables false
structure EX (w:UK) (cs:Array UL) (wr:UK):Prop where
 bel:Below w.heap.size w wr
 dev:wr.heap[w.heap.size]?=UI (UP cs 40 (0,0))
 res:wr.heap[w.heap.size+1]?=UI (UP Cg 36 (0,0))
theorem EX.lt {w wr:UK} {cs:Array UL} (h:EX w cs wr):w.heap.size+1<wr.heap.size:=(AQ.1 h.res).1
theorem EX.keep {w wr w':UK} {cs:Array UL} {H:Nat} (h:EX w cs wr) (b:Below H wr w') (hH:w.heap.size+2<=H):EX w cs w':=
 ⟨h.bel.trans (b.mono AK),by rw[b.block _ AK];exact h.dev,by rw[b.block _ AK];exact h.res⟩
theorem EX.below {w wr w':UK} {cs:Array UL} (h:EX w cs wr) (b:Below wr.heap.size wr w'):EX w cs w':=h.keep b h.lt
theorem EX.start (w:UK) (cs:Array UL):EX w cs ((w.alloc (UP cs 40)).alloc (UP Cg 36)):=by
 refine⟨(Cs.alloc Cw _).alloc AM _,?_,?_⟩
 ·rw[BH _ _ w.heap.size AM];exact AV w _
 ·have:=AV (w.alloc (UP cs 40)) (UP Cg 36);rw[Bl] at this;exact this
theorem S3.wr {lo R:Nat} {w w':UK} {aD aU aT:Option Addr} {nD nU nT:Nat} {D U T:List Int} (h:S3 lo w aD aU aT nD nU nT D U T) (hw:Wr R w w') (hR:R<lo):S3 lo w' aD aU aT nD nU nT D U T:=h.keep (by rw[hw.size];exact AY _) (λk hk _=>hw.block k AK)
theorem RC {lo n c K:Nat} {w:UK} {a:Option Addr} (h:De lo w a) (hs:w.heap.size<=K):∀ k,(UD a n c).ownBlock=UI k->k<K:=λk hk=>by
 cases a with
 |none=>cases hk
 |some ad=>cases hk;have:=(h ad rfl).2;omega
def Sk (lo:Nat) (r:GN) (aT:Option Addr) (cT:Nat) (w:UK) (v:UL):Prop:=∃ aD nD cD aU nU cU,v=UN #[UD aD nD cD,UD aU nU cU,UE .i64 r.k,UD aT r.n cT]/\Iow lo w (UD aD nD cD) r.D/\Iow lo w (UD aU nU cU) r.U/\Ej aD aU
theorem Sk.below {lo:Nat} {r:GN} {aT:Option Addr} {cT:Nat} {w w':UK} {v:UL} (h:Sk lo r aT cT w v) (b:Below w.heap.size w w'):Sk lo r aT cT w' v:=by
 obtain⟨aD,nD,cD,aU,nU,cU,e,h1,h2,h3⟩:=h;exact⟨aD,nD,cD,aU,nU,cU,e,h1.below b,h2.below b,h3⟩
theorem Se.aprt {aD aU:Option Addr} {nD cD nU cU:Nat} (h:Se (UD aD nD cD) (UD aU nU cU)):Ej aD aU:=λx y hx hy e=>by
 subst hx;subst hy;exact h x.block rfl (by show UI y.block=UI x.block;rw[e])
def Sl (hd:List UL) (lo:Nat) (r:GN) (aT:Option Addr) (cT:Nat) (nx:UL) (w:UK) (v:UL):Prop:=∃ aD nD cD aU nU cU,v=UN (hd++[UD aD nD cD,UD aU nU cU,UE .i64 r.k,UD aT r.n cT,nx]).toArray/\Iow lo w (UD aD nD cD) r.D/\Iow lo w (UD aU nU cU) r.U/\Ej aD aU
theorem Sl.below {hd:List UL} {lo:Nat} {r:GN} {aT:Option Addr} {cT:Nat} {nx:UL} {w w':UK} {v:UL} (h:Sl hd lo r aT cT nx w v) (b:Below w.heap.size w w'):Sl hd lo r aT cT nx w' v:=by
 obtain⟨aD,nD,cD,aU,nU,cU,e,h1,h2,h3⟩:=h;exact⟨aD,nD,cD,aU,nU,cU,e,h1.below b,h2.below b,h3⟩
def Tp (R:Nat) (hd:List UL) (lo:Nat) (r:GN) (aT:Option Addr) (cT:Nat) (nx:UL) (W:UK) (u:Nat->UL) (w:UK):Prop:=∃ aD nD cD aU nU cU,w.heap[R]?=UI (UP (hd++[UD aD nD cD,UD aU nU cU,UE .i64 r.k,UD aT r.n cT,nx]).toArray 36 (0,0))/\Iow lo w (UD aD nD cD) r.D/\Iow lo w (UD aU nU cU) r.U/\Ej aD aU/\∃ w',Below W.heap.size W w'/\Wr R w' w
theorem Ml (a x:Option Addr) (L c m cx:Nat) (f:Int) (d:Bool) (zs:List Int) (ps:List PD) (w:UK) (hl:zs.length=L) (hm:ps.length=m) (hA:At .u8 w a zs) (hP:FY w x ps) (hc:L<=c) (hL:L<=1048576) (hM:m<=1048576) (hps:∀ i,(ps.getD i (0,[])).2.length<=1048576) (bz:Cu zs) (bp:∀ i,Cu (ps.getD i (0,[])).2) :
  Calls Tryz.prog 9 #[UN #[UD a L c,UD x m cx,UE .i64 f,UF d]] w λe w'=>∃ v,e=.returned v/\MC w.heap.size w' v (Ez zs ps f)/\Below w.heap.size w w':=by
 have HE0:=Cp (EX.start w #[UD a L c,UD x m cx,UE .i64 f,UF d]);have HAP:=Cp (Ac hA hP);have HSD:AP ((Tryz.prog.info? 40).map (·.size)=UI 4):=by show _=_;kernel_rfl
 have HSI:AP ((Tryz.prog.info? 36).map (·.size)=UI 11):=by show _=_;kernel_rfl
 have HSR:AP ((Tryz.prog.info? 63).map (·.size)=UI 5):=by show _=_;kernel_rfl
 have HSB:AP ((Tryz.prog.info? 77).map (·.size)=UI 66):=by show _=_;kernel_rfl
 have HV:=Cp (λww (b:Below w.heap.size w ww)=>Km (UN #[UD a L c,UD x m cx,UE .i64 f,UF d]) zs ps f d ww ⟨a,c,x,cx,by rw[hl,hm],hA.below b,hP.below b,by rw[hl];exact hc⟩ AK AK hps);have HFF:=Cp (λ(hv:C5 L ps f=true)=>(⟨hl,hm,hv,hc,bz,bp⟩:JF L c m f zs ps));have HIG:AP (Ez zs ps f=if C5 L ps f=true then Pa zs ps (L/64-4) else Et):=by show _=_;unfold Ez;rw[hl]
 clear hA hP hps bz bp;go_enter Tryz.func9,Tryz.ntmps9
 go_upto_region 1 with fail
 generalize (w.alloc (UP #[UD a L c,UD x m cx,UE .i64 f,UF d] 40)).alloc (UP Cg 36)=w0 at *;go_wp2_with (first
  |(refine Ab rfl 40 (.tmp 1) rfl w.heap.size rfl 40 _ (0,0) _ HE0.o.dev Tryz.underlying40 rfl HSD.o ?_)
  |fail)
 refine(HV.o w0 HE0.o.bel).mono ?_;rintro e w1 ⟨rfl,b1⟩;rw[hl];have HE1:=Cp (HE0.o.below b1);clear HE0 HV b1;cases hv:C5 L ps f with
 |false=>
  have HI:AP (Ez zs ps f=Et):=by show _=_;rw[HIG.o,hv];rfl
  clear HIG HFF;go_wp2_with (first
   |(refine AC 36 (.tmp 2) (.tmp 11) (w.heap.size+1) Cg 36 HE1.o.res HSI.o rfl (by simp[Value.oneCell']) ?_)
   |fail)
  (try simp only[Exit.inBlock,Exit.then])
  exact AZ (v:=UN Cg) (AW rfl _ _ (w.heap.size+1) 36 _ (0,0) _ rfl (AB HE1.o.res) Tryz.underlying36 rfl HSI.o) rfl ⟨_,rfl,by rw[HI.o];exact MC.no _ _,HE1.o.bel.trans ((Wr.setRow _ _ _).below (Br _))⟩
 |true=>
  have F:=HFF.o hv;have HI:AP (Ez zs ps f=Pa zs ps (L/64-4)):=by show _=_;rw[HIG.o,AR hv]
  have HF:=Cp F;have HDI:=Cp (λww (e:EX w #[UD a L c,UD x m cx,UE .i64 f,UF d] ww)=>(⟨e.dev,HAP.o.1.below e.bel,HAP.o.2.below e.bel⟩:Md ww w.heap.size a x L c m cx f d zs ps));have A:=Cp (MA (HDI.o w1 HE1.o) F);have HJR:=Cp (λq=>(F.jr q).2);have hJ2:L/64-4<=252:=AG F.base
  clear HFF HIG F hv HAP;go_wp2_with fail;refine A.o.mono ?_;rintro e w2 ⟨v2,rfl,hv2,b2⟩;obtain⟨aSD,nSD,cSD,aSU,nSU,cSU,rfl,s3⟩:=hv2;have HE2:=Cp (HE1.o.below b2);have HS2:=Cp s3;have hz12:=b2.size;have hz1:=HE1.o.lt;have HNW:=Cp (Hz (zs:=zs) (ps:=ps) 2);have HIF:AP (Pa zs ps (L/64-4)=if(Eb zs ps 2).ok=true then Nr (Eb zs ps 2) (Fa zs ps (L/64-4) (Eb zs ps 2).t.toNat (L/64-4)) else Et):=rfl;clear A b2 s3 HE1;generalize Eb zs ps 2=s at *;have b3:Below w2.heap.size w2 (w2.alloc (UP #[UF s.ok,UE UG s.g,UE UG s.t,UD aSD nSD cSD,UD aSU nSU cSU] 63)):=Cs.alloc Cw _;have HR3:AP ((w2.alloc (UP #[UF s.ok,UE UG s.g,UE UG s.t,UD aSD nSD cSD,UD aSU nSU cSU] 63)).heap[w2.heap.size]?=UI (UP #[UF s.ok,UE UG s.g,UE UG s.t,UD aSD nSD cSD,UD aSU nSU cSU] 63 (0,0))):=AV w2 _;have HE3:=Cp (HE2.o.below b3);have HS3:=Cp (HS2.o.below b3);have HUB:AP ((∀ ad,aSD=UI ad->ad.block<w2.heap.size)/\(∀ ad,aSU=UI ad->ad.block<w2.heap.size)):=⟨λad e=>(HS2.o.ld ad e).2,λad e=>(HS2.o.lu ad e).2⟩
  go_upto_region 4 with (first
   |(refine AC 63 (.tmp 3) (.tmp 12) w2.heap.size #[UF s.ok,UE UG s.g,UE UG s.t,UD aSD nSD cSD,UD aSU nSU cSU] 63 (AV w2 _) HSR.o rfl (Er _ _ _ _ _ _ _ _ _) ?_)
   |fail)
  rw[World.setRow_alloc_new];have hz3:w2.heap.size<(w2.alloc (UP #[UF s.ok,UE UG s.g,UE UG s.t,UD aSD nSD cSD,UD aSU nSU cSU] 63)).heap.size:=AM
  clear HE2 HS2 b3;generalize w2.alloc (UP #[UF s.ok,UE UG s.g,UE UG s.t,UD aSD nSD cSD,UD aSU nSU cSU] 63)=w3 at *;generalize w2.heap.size=N at *;cases hok:s.ok with
  |false=>
   have HI2:AP (Ez zs ps f=Et):=by show _=_;rw[HI.o,HIF.o,AS (by rw[hok];simp)]
   have c0:=AA HR3.o 0;simp[hok] at c0;clear HI HIF;go_wp2_with (first
    |(refine AC 36 (.tmp 2) (.tmp 16) (w.heap.size+1) Cg 36 HE3.o.res HSI.o rfl (by simp[Value.oneCell']) ?_)
    |fail)
   (try simp only[Exit.inBlock,Exit.then])
   exact AZ (v:=UN Cg) (AW rfl _ _ (w.heap.size+1) 36 _ (0,0) _ rfl (AB HE3.o.res) Tryz.underlying36 rfl HSI.o) rfl ⟨_,rfl,by rw[HI2.o];exact MC.no _ _,HE3.o.bel.trans ((Wr.setRow _ _ _).below (Br _))⟩
  |true=>
   have hsn:=HNW.o hok;have HR4:AP (w3.heap[N]?=UI (UP #[UF true,UE UG s.g,UE UG s.t,UD aSD nSD cSD,UD aSU nSU cSU] 63 (0,0))):=by show _=_;have:=HR3.o;rw[hok] at this;exact this
   have HI2:AP (Ez zs ps f=Nr s (Fa zs ps (L/64-4) s.t.toNat (L/64-4))):=by show _=_;rw[HI.o,HIF.o,AR hok]
   have c0:=AA HR4.o 0;have c2:=AA HR4.o 2;simp at c0 c2;have B:=Cp (LE (HDI.o w3 HE3.o) HF.o s.t.toNat (AG hsn.2.2.1));have ht:((s.t.toNat:Nat):Int)=s.t:=Bm (AG hsn.2.1);rw[ht] at B;have HT:=Cp (Ac hsn.2.1 hsn.2.2.1);have HST:=Cp hsn.st;have HFRB:=Cp (H3 zs ps (L/64-4) HJR.o (L/64-4) s.t.toNat);obtain⟨nj,hnj,hjl⟩:=Gw zs ps (L/64-4) (L/64-4) s.t.toNat;clear HI HIF HNW hsn HR3 ht HJR HF;generalize Fa zs ps (L/64-4) s.t.toNat (L/64-4)=F at *;go_wp2_with fail;refine B.o.mono ?_;rintro e w4 ⟨vF,nF,rfl,hFO,b4⟩;obtain rfl:nF=nj:=AG hFO.len
   have HE4:=Cp (HE3.o.below b4);have HS4:=Cp (HS3.o.below b4);have HR5:AP (w4.heap[N]?=UI (UP #[UF true,UE UG s.g,UE UG s.t,UD aSD nSD cSD,UD aSU nSU cSU] 63 (0,0))):=by show _=_;rw[b4.block N (Ax hz3 Cw)];exact HR4.o
   have HFO:=Cp hFO;obtain⟨aF,cF,rfl,hFA,hFc,hFl⟩:=hFO.form;have HFA:=Cp (Ac hFA hFl);have hz34:=b4.size;have d3:=AA HR5.o 3;have d4:=AA HR5.o 4;simp at d3 d4;have A:=Cp (Nc N aSD aSU nSD cSD nSU cSU w4 AK d3 d4);clear B b4 hFO hFA hFl HE3 HS3 HR4 c0 c2 d3 d4 HDI;go_wp2_with fail;refine A.o.mono ?_;rintro e w5 ⟨rfl,b5⟩;have hnu:=HS4.o.nu;have hnd:=HS4.o.nd;have HE5:=Cp (HE4.o.below b5);have HS5:=Cp (HS4.o.below b5);have hz45:=b5.size;have HB45:=Cp b5;have hsl:=HST.o.2.2.1.le;have hdl:=HST.o.2.1;have hstp:JE s.D s.U (nSU:Int) [] 0:=by rw[<-hnu];exact HST.o
   have HOB:=Cp (GC aSD aSU none nSD cSD nSU cSU 0 0 s.D s.U (nSU:Int) [] w5 hnd hnu rfl AK AK AK HS5.o.d.at_ HS5.o.u.at_ (.inl rfl) (λ_=>⟨rfl,rfl⟩) AK AK);have HSB1:=Cp (Ho hstp);clear A b5 HE4 hsl hdl hstp;go_wp2_with fail;refine HOB.o.mono ?_;rintro e w6 ⟨bk,rfl,hbs,hbo,b6,hob⟩;obtain⟨db,ub,v9,hbk,hsd,hsu,hto⟩:=hob HSB1.o;rw[HSB1.o];have HSB2:AP ((Tryz.prog.info? 77).map (·.size)=UI bk.size):=by show _=_;rw[hbs];exact HSB.o
   have HZB:AP ((Tryz.zeroCells77).size=bk.size):=by show _=_;rw[hbs];exact E1
   have HBO:=Cp hbo;have b7:Below w6.heap.size w6 (w6.alloc (UP bk 77)):=Cs.alloc Cw _;have hz56:=b6.size;have HB57:AP (Below w5.heap.size w5 (w6.alloc (UP bk 77))):=b6.trans (b7.mono hz56);have hr7:(w6.alloc (UP bk 77)).heap[w6.heap.size]?=UI (UP bk 77 (0,0)):=AV w6 _;have hz7:w6.heap.size<(w6.alloc (UP bk 77)).heap.size:=AM
   have HBE:=Cp hbk;clear hbk
   go_upto_region 8 with (first
    |(refine AC 77 (.tmp 5) (.tmp 25) w6.heap.size bk 77 (AV w6 _) HSB2.o HZB.o HBO.o ?_)
    |fail)
   rw[World.setRow_alloc_new];have hto7:DN w5.heap.size (w6.alloc (UP bk 77)) v9 [] 0:=hto.alloc _;have hne:Iy w6.heap.size v9:=λt ht e=>by
    rcases hto.2 with⟨h',_⟩|⟨g,c,cur,h',hb,hh,_⟩
    ·rw[h'] at ht;simp[Value.ownBlock] at ht
    ·rw[h'] at ht;simp[Value.ownBlock] at ht;have:=(AQ.1 hh).1;omega
   have hbk:=HBE.o;clear HBE;subst hbk;have hAX:AX (w6.alloc (UP (Fe db ub (nSU:Int) v9) 77)) w5.heap.size w5.heap.size w6.heap.size ⟨true,s.D,s.U,(s.U.length:Int),[],0⟩ (w6.alloc (UP (Fe db ub (nSU:Int) v9) 77)):=
    ⟨Ad _ _,db,ub,v9,⟨by rw[hnu];exact hr7,hsd.1,hsu.1,hsd.2.1,hsu.2.1⟩,hsd,hsu,hto7.tapV,hne⟩
   have HB47:=Cp (HB45.o.trans (HB57.o.mono hz45));have hFA7:=HFA.o.1.below HB47.o;have C:=Cp (Hw aF nF cF F _ w6.heap.size w5.heap.size w5.heap.size ⟨true,s.D,s.U,(s.U.length:Int),[],0⟩ rfl hFA7 hjl AK HFRB.o (λx hx=>AG (HFA.o.2 x hx).2) hAX HST.o rfl hz56 Cw AK AK);have hF4:F.length/4=nF:=AK
   have HSTK:=Cp (Gj (r:=⟨true,s.D,s.U,(s.U.length:Int),[],0⟩) HFRB.o HST.o rfl nF AK);have HIM:AP (I4 s F=EE ⟨true,s.D,s.U,(s.U.length:Int),[],0⟩ F nF):=by show _=_;unfold I4;rw[hF4]
   have HIR:AP (Nr s F=if(I4 s F).ok=true then ⟨true,s.g,s.t,s.D,s.U,F,(I4 s F).D,(I4 s F).U,(I4 s F).k,(I4 s F).T,(I4 s F).n,s.t+(nF:Int)⟩ else Et):=by show _=_;unfold Nr;rw[hF4]
   rw[<-HIM.o] at C HSTK;clear hto hto7 hne hAX hFA7 hsd hsu hr7 hbs hbo b6 b7 hob HOB HSB1 HSB2 HZB HBO HIM hF4;generalize w6.alloc (UP (Fe db ub (nSU:Int) v9) 77)=w7 at *;generalize I4 s F=r at *;go_wp2_with fail;refine C.o.mono ?_;rintro e w8 ⟨rfl,b8,hax⟩;have HE8:=Cp ((HE5.o.keep HB57.o (AG HE5.o.lt)).keep b8 (AG HE5.o.lt));have HB48:=Cp (HB47.o.trans (b8.mono hz45));have HR8:AP (w8.heap[N]?=UI (UP #[UF true,UE UG s.g,UE UG s.t,UD aSD nSD cSD,UD aSU nSU cSU] 63 (0,0))):=by show _=_;rw[HB48.o.block N AK];exact HR5.o
   clear C HE5 HS5 HB45 HB57 HB47;cases hrk:r.ok with
   |false=>
    have HI3:AP (Ez zs ps f=Et):=by show _=_;rw[HI2.o,HIR.o,AS (by rw[hrk];simp)]
    clear hax b8 HI2 HIR;go_wp2_with (first
     |(refine AC 36 (.tmp 2) (.tmp 34) (w.heap.size+1) Cg 36 HE8.o.res HSI.o rfl (by simp[Value.oneCell']) ?_)
     |fail)
    (try simp only[Exit.inBlock,Exit.then])
    exact AZ (v:=UN Cg) (AW rfl _ _ (w.heap.size+1) 36 _ (0,0) _ rfl (AB HE8.o.res) Tryz.underlying36 rfl HSI.o) rfl ⟨_,rfl,by rw[HI3.o];exact MC.no _ _,HE8.o.bel.trans ((Wr.setRow _ _ _).below (Br _))⟩
   |true=>
    have HI3:AP (Ez zs ps f=⟨true,s.g,s.t,s.D,s.U,F,r.D,r.U,r.k,r.T,r.n,s.t+(nF:Int)⟩):=by show _=_;rw[HI2.o,HIR.o,AR hrk]
    obtain⟨d',u',v',r1,r2,r3,r4,r5⟩:=(hax hrk).bk;obtain⟨aT,cT,rfl⟩:=r4.slice;obtain⟨hstr,hTr⟩:=HSTK.o hrk;have HST2:=Cp (λww (b:Below w8.heap.size w8 ww)=>by
     have HS:=Ja aT r.n cT (λv=>decide ((v:Int)∈r.D)) (λv=>decide ((v:Int)∈r.U)) (r1.below b r1.lt) (r2.congr (λv _=>AM)) (r3.congr (λv _=>AM));rw[hstr.1.eq_upTo _ (λv _=>AM),hstr.2.2.1.eq_upTo _ (λv _=>AM)] at HS;exact HS.mono (R':=λe w'=>∃ aD nD cD aU nU cU,e=.returned (UN #[UD aD nD cD,UD aU nU cU,UE .i64 r.k,UD aT r.n cT])/\Iow ww.heap.size w' (UD aD nD cD) r.D/\Iow ww.heap.size w' (UD aU nU cU) r.U/\Ej aD aU/\Below ww.heap.size ww w') (by
      rintro e w' ⟨aD,nD,cD,aU,nU,cU,rfl,i1,i2,ap,bb⟩;exact⟨aD,nD,cD,aU,nU,cU,rfl,i1,i2,ap.aprt,bb⟩))
    have HTV:=Cp r4;have HS8:=Cp (HS4.o.below HB48.o);have HFO8:=Cp (HFO.o.below HB48.o);have hz78:=b8.size;have hN8:N<w8.heap.size:=AK
    have HUB2:AP ((∀ ad,aSD=UI ad->ad.block<w3.heap.size)/\(∀ ad,aSU=UI ad->ad.block<w3.heap.size)/\(∀ k,(UD aF nF cF).ownBlock=UI k->k<w5.heap.size)):=
     ⟨λad e=>AG (HUB.o.1 ad e),λad e=>AG (HUB.o.2 ad e),RC HFA.o.2 AK⟩
    have f2:=AA HR8.o 2;simp at f2;have hnF:(nF:Int)<=252:=AK
    obtain⟨ht0,ht1⟩:=HT.o;have hz35:w3.heap.size<=w5.heap.size:=AK
    have hz1N:w1.heap.size<=N:=hz12;have hz58:w5.heap.size<=w8.heap.size:=AK
    clear hax b8 HI2 HIR r1 r2 r3 r4 r5 hstr hTr HSTK HS4 HFO HB48 HR5 HUB HFA HST;generalize hW3:w3.heap.size=W3 at *;generalize hW5:w5.heap.size=W5 at *;go_wp2;refine Ae AN ?_;refine DF 6 (λ_ a b=>Below a.heap.size a b) (frame:=(λ(a b c d e f g h i j k l m n o p q r s u v w x y z A B C D E F G H I J K L M N O P Q:UL)=>λ(t:Nat->UL)=>({ tmps:=List.toArray [a,b,c,d,e,f,g,h,i,j,k,l,m,n,o,p,q,r,s,u,v,w,x,y,z,A,B,C,D,E,F,G,H,I,J,K,L,M,N,O,P,Q,t 0,t 1,t 2,t 3,t 4,t 5],defers:=[] }:Act)) _ _ _ _ _ _ _ _ _ _ _ _ _ _ _ _ _ _ _ _ _ _ _ _ _ _ _ _ _ _ _ _ _ _ _ _ _ _ _ _ _ _)
     (Ext:=λL u w'=>Fo w8 [] L u w') (Good:=λi L w' v=>if i=0 then v=UM (UI ⟨N,1,none⟩) else if i=1 then v=UN #[UE UG s.g,UE UG s.t,UD aSD nSD cSD,UD aSU nSU cSU] else if i=2 then v=UD aF nF cF else if i=3 then Sk w8.heap.size r aT cT w' v else if i=4 then v=UE UG (s.t+(nF:Int)) else if i=5 then Sl ([UF true,UE UG s.g,UE UG s.t,UD aSD nSD cSD,UD aSU nSU cSU,UD aF nF cF]:List UL) w8.heap.size r aT cT (UE UG (s.t+(nF:Int))) w' v else True) (Fin:=Tp (w.heap.size+1) ([UF true,UE UG s.g,UE UG s.t,UD aSD nSD cSD,UD aSU nSU cSU,UD aF nF cF]:List UL) w8.heap.size r aT cT (UE UG (s.t+(nF:Int))) w8) rfl AN ?hstab AN ?hop ?hend ?hdone _ _ ((λ(x0 x1 x2 x3 x4 x5:UL)=>λ(i:Nat)=>if i=0 then x0 else if i=1 then x1 else if i=2 then x2 else if i=3 then x3 else if i=4 then x4 else if i=5 then x5 else undef) _ _ _ _ _ _) _ AM ?none ?ext AM
    case none=>exact λ_=>FJ
    case ext=>exact Fo.start w8 [] _ _ (λ_=>FJ) ⟨rfl,rfl,rfl,AY _,λ_ _=>rfl⟩
    case hstab=>
     intro j L w9 w' i v _ hM _ _ h;by_cases h3:j=3
     ·subst h3;simp at h |-;exact h.below hM
     by_cases h5:j=5
     ·subst h5;simp at h |-;exact h.below hM
     simp only[if_neg h3,if_neg h5] at h |-;exact h
    case hop=>
     intro i o L t w' hi ho hLi hx hdep K hK;obtain rfl|rfl|rfl|rfl|rfl|rfl:i=0\/i=1\/i=2\/i=3\/i=4\/i=5:=AK
     all_goals(simp at ho;subst ho)
     ·clear hdep;have hK':=hK w' (UM (UI ⟨N,1,none⟩)) AM (hx.step 0 _ Cs C7) Cs;clear hK;rw[AR AO];go_simp;simpa[Cr] using hK'
     ·have d0:t 0=UM (UI ⟨N,1,none⟩):=by simpa using(hdep ⟨0,.data⟩ AM rfl).2
      clear hdep;have hrw:w'.heap[N]?=UI (UP #[UF true,UE UG s.g,UE UG s.t,UD aSD nSD cSD,UD aSU nSU cSU] 63 (0,0)):=by rw[hx.below.block N hN8];exact HR8.o
      have e1:=AA hrw 1;have e2:=AA hrw 2;have e3:=AA hrw 3;have e4:=AA hrw 4;simp at e1 e2 e3 e4;clear hrw;have hK':=hK w' (UN #[UE UG s.g,UE UG s.t,UD aSD nSD cSD,UD aSU nSU cSU]) AM (hx.step 1 _ Cs C7) Cs;clear hK;rw[AR AO];go_simp;simpa[Cr,d0,e1,e2,e3,e4] using hK'
     ·clear hdep;have hK':=hK w' (UD aF nF cF) AM (hx.step 2 _ Cs C7) Cs;clear hK;rw[AR AO];go_simp;simpa[Cr] using hK'
     ·clear hdep;have A:=HST2.o w' hx.below;have hK':∀ ww v,Sk w8.heap.size r aT cT ww v->Below w'.heap.size w' ww->K _ ww:=λww v hv hb=>hK ww v (by simpa using hv) (hx.step 3 v hb C7) hb
      clear hK;rw[AR AO];go_simp;try simp only[]
      refine A.mono ?_;rintro e w9 ⟨aD,nD,cD,aU,nU,cU,rfl,i1,i2,ap,hb9⟩;have hK2:=hK' w9 (UN #[UD aD nD cD,UD aU nU cU,UE .i64 r.k,UD aT r.n cT]) ⟨aD,nD,cD,aU,nU,cU,rfl,i1.mono hx.below.size,i2.mono hx.below.size,ap⟩ hb9;clear hK' A i1 i2 ap hb9;go_simp;simpa[Cr] using hK2
     ·clear hdep;have hK':=hK w' (UE UG (s.t+(nF:Int))) AM (hx.step 4 _ Cs C7) Cs;clear hK;rw[AR AO];go_simp;simpa[Cr] using hK'
     ·have d1:t 1=UN #[UE UG s.g,UE UG s.t,UD aSD nSD cSD,UD aSU nSU cSU]:=by simpa using(hdep ⟨1,.data⟩ AM rfl).2
      have d2:t 2=UD aF nF cF:=by simpa using(hdep ⟨2,.data⟩ AM rfl).2
      have f3:Sk w8.heap.size r aT cT w' (t 3):=by simpa using(hdep ⟨3,.data⟩ AM rfl).2
      have d4:t 4=UE UG (s.t+(nF:Int)):=by simpa using(hdep ⟨4,.data⟩ AM rfl).2
      clear hdep;refine Exists.elim f3 λaD hh=>?_
      obtain⟨nD,cD,aU,nU,cU,d3,i1,i2,ap⟩:=hh;have hK':=hK w' (UN (([UF true,UE UG s.g,UE UG s.t,UD aSD nSD cSD,UD aSU nSU cSU,UD aF nF cF]:List UL)++([UD aD nD cD,UD aU nU cU,UE .i64 r.k,UD aT r.n cT,(UE UG (s.t+(nF:Int)))]:List UL)).toArray) (by simpa[Sl] using⟨aD,nD,cD,aU,nU,cU,⟨⟨rfl,rfl,rfl⟩,⟨rfl,rfl,rfl⟩⟩,i1,i2,ap⟩) (hx.step 5 _ Cs C7) Cs;clear hK i1 i2;rw[AR AO];go_simp;simpa[Cr,d1,d2,d3,d4] using hK'
    case hend=>
     intro o L t w' ho hx hg K hK;simp at ho;subst ho;have f5:Sl ([UF true,UE UG s.g,UE UG s.t,UD aSD nSD cSD,UD aSU nSU cSU,UD aF nF cF]:List UL) w8.heap.size r aT cT (UE UG (s.t+(nF:Int))) w' (t 5):=by simpa using(hg 5 AL).2
     clear hg;obtain⟨aD,nD,cD,aU,nU,cU,d5,i1,i2,ap⟩:=f5;have hrs:w'.heap[w.heap.size+1]?=UI (UP Cg 36 (0,0)):=by rw[hx.below.block _ (AG HE8.o.lt)];exact HE8.o.res
     have hK':∀ ww,Wr (w.heap.size+1) w' ww->ww.heap[w.heap.size+1]?=UI (UP (([UF true,UE UG s.g,UE UG s.t,UD aSD nSD cSD,UD aSU nSU cSU,UD aF nF cF]:List UL)++([UD aD nD cD,UD aU nU cU,UE .i64 r.k,UD aT r.n cT,(UE UG (s.t+(nF:Int)))]:List UL)).toArray 36 (0,0))->K _ ww:=λww hw hr=>hK ww undef ⟨aD,nD,cD,aU,nU,cU,hr,i1.wr hw (AG HE8.o.lt),i2.wr hw (AG HE8.o.lt),ap,w',hx.below,hw⟩
     clear hK;rw[AR AO];refine A8 36 (.tmp 2) (.tmp 47) rfl (w.heap.size+1) _ rfl d5 36 _ hrs HSI.o rfl (by simp[Value.oneCell']) ?_;have hK2:=hK' _ (Wr.setRow _ _ _) (AB hrs);clear hK';simpa[Cr,Act.put] using hK2
    case hdone=>
     intro t w9 hf;obtain⟨aD,nD,cD,aU,nU,cU,hr9,i1,i2,ap,w',b9,hw9⟩:=hf;have HR9:=Cp hr9;have HFN:AP (MC w.heap.size w9 (UN (([UF true,UE UG s.g,UE UG s.t,UD aSD nSD cSD,UD aSU nSU cSU,UD aF nF cF]:List UL)++([UD aD nD cD,UD aU nU cU,UE .i64 r.k,UD aT r.n cT,(UE UG (s.t+(nF:Int)))]:List UL)).toArray) (Ez zs ps f)/\Below w.heap.size w w9):=by
      have hR:=HE8.o.lt;refine⟨?_,(HE8.o.bel.trans (b9.mono HE8.o.bel.size)).trans (hw9.below (Br _))⟩;rw[HI3.o];obtain⟨x1,x2,x3⟩:=i1.sat;obtain⟨y1,y2,y3⟩:=i2.sat;obtain⟨t1,t2,t3⟩:=HTV.o.sat;have t1':=t1.below b9;have hz9:=b9.size;have hs9:=hw9.size;refine⟨aSD,nSD,cSD,aSU,nSU,cSU,UD aF nF cF,nF,aD,nD,cD,aU,nU,cU,aT,cT,W3,W5,rfl,?_,HUB2.o.1,HUB2.o.2.1,?_,HUB2.o.2.2,?_,AK,AK⟩
      ·have q:=(HS8.o.below b9).wr hw9 AK;exact⟨q.d,q.u,q.t,q.nd,q.nu,q.nt,q.ld.mono AK Cw,q.lu.mono AK Cw,q.lt.mono AK Cw,q.du,q.dt,q.ut⟩
      ·exact(HFO8.o.below b9).keep (λk hk _=>hw9.block k AK)
      ·refine⟨x1,y1,t1'.keep (by rw[hs9];exact AY _) (λad e _=>hw9.block _ (AG (t3 ad e).1)),x2,y2,t2,x3.mono AK Cw,y3.mono AK Cw,λad e=>⟨(t3 ad e).1,AG (t3 ad e).2⟩,ap,λp q hp hq=>AI (x3 p hp).1 (t3 q hq).2,λp q hp hq=>AI (y3 p hp).1 (t3 q hq).2⟩
     clear hr9 i1 i2 ap b9 hw9;go_wp2_with fail;exact AZ (v:=UN (([UF true,UE UG s.g,UE UG s.t,UD aSD nSD cSD,UD aSU nSU cSU,UD aF nF cF]:List UL)++([UD aD nD cD,UD aU nU cU,UE .i64 r.k,UD aT r.n cT,(UE UG (s.t+(nF:Int)))]:List UL)).toArray) (AW rfl _ _ (w.heap.size+1) 36 _ (0,0) _ rfl HR9.o Tryz.underlying36 rfl HSI.o) rfl ⟨_,rfl,HFN.o.1,HFN.o.2⟩
end Go.Proofs.YthmeoilbmfdhfaaGreat
