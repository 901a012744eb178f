import Derived.Test.YthmeoilbmfdhfaaGreatMGqA
open Go.Value renaming slice->UD,int->UE,pointer->UM,bool->UF
open Go.IntKind renaming i64->UO,u32->UG
open Go.Obj renaming cells->UP
open Option renaming some->UI,none->UJ
open Go renaming Value->UL
namespace Go.Proofs.YthmeoilbmfdhfaaGreat
set_option maxHeartbeats 8000000
set_option maxRecDepth 100000
open Go.ChangeShapes Go.WideShapes Go.ChangeAt Go.RowKit
set_option linter.unusedVariables false
theorem FC.take {w:World} {a:Option Addr} {F:List Int} (h:FC w a F) (k:Nat):FC w a (F.take k):=by
 rcases h with rfl|⟨b,off,e,hl,hc⟩
 ·exact .inl AM
 ·refine .inr ⟨b,off,e,hl,λi hi=>?_⟩;have hi':i<k/\i<F.length:=by rw[Az] at hi;omega
  rw[hc i hi'.2];simp[List.getD,List.getElem?_take_of_lt hi'.1]
theorem F1 {F:List Int} {k i:Nat} (h:i<k):(F.take k).getD i 0=F.getD i 0:=by simp[List.getD,List.getElem?_take_of_lt h]
theorem JA {r:GN} {F:List Int} {m:Nat}:∀ i,i<=m->EE r (F.take (m*4)) i=EE r F i
 |0,_=>rfl
 |i+1,h=>by
  show(if _ then _ else _)=(if _ then _ else _)
  rw[JA i AK,F1 (show i*4+1<m*4 by omega),F1 (show i*4+2<m*4 by omega),F1 (show i*4+3<m*4 by omega)]
theorem QB.take {F:List Int} (h:QB F) (m:Nat):QB (F.take (m*4)):=λi hi=>by
 have hi':i*4+3<m*4/\i*4+3<F.length:=by rw[Az] at hi;omega
 rw[F1 (show i*4+2<m*4 by omega),F1 (show i*4+3<m*4 by omega)];exact h i hi'.2
theorem Mx (w:World) (fb fo mF cF m:Nat) (h1:m<=cF):(Instr.sliceAt 31 (UD (UI ⟨fb,fo,UJ⟩) mF cF) UJ (UI (UE UG m)) UJ).run Tryz.prog w=.ok (UD (UI ⟨fb,fo,UJ⟩) m cF) w:=by
 have h2:(m:Int)<=(cF:Int):=AK
 have h3:(0:Int)<=(m:Int):=AK
 unfold Instr.sliceAt;simp[run_underlying Tryz.underlying31,go_sem,Instr.sliceBounds,h2,h3,Addr.add]
structure SU (w4:World) (G b H:Nat) (C:Array UL) (a:GN) (ww:World):Prop where
 row:ww.heap[G]?=UI (UP C 48 (0,0))
 ax:AX w4 H H b a ww
theorem RW {lo:Nat} (G:Nat) (C:Array UL) (zs ks:List Int) (f:Int) (d:Bool) (r:Dt) (w:World) (hG:w.heap[G]?=UI (UP C 48 (0,0))) (h:GL lo w C zs ks f d r) (hle:Eu r) (hst:JE r.sD r.sU (r.sU.length:Int) [] 0) (hFB:QB r.F) (hg:0<=r.g/\r.g<4000000000) (ht:0<=r.t) (cut:Int) (m:Nat) (hc:cut=r.t+m) (hc2:cut<4294967296) (hm:m*4<=r.F.length) (hn0:0<r.F.length) (a:GN) (ha:EE ⟨true,r.sD,r.sU,(r.sU.length:Int),[],0⟩ r.F m=a) (hok:a.ok=true) :
  Calls Tryz.prog 117 #[UM (UI ⟨G,5,UJ⟩),UE UG cut] w λe w'=>∃ v,e=.returned v/\KP w.heap.size w' v (r.g+1) cut a.D a.U/\Below w.heap.size w w':=by
 obtain⟨da,dc,ca,cc,ka,kc,aSD,nSD,cSD,aSU,nSU,cSU,aF,mF,cF,aD,nD,cD,aU,nU,cU,aT,cT,hCR,⟨_,hcF⟩,_,_,⟨A1,A2,A3,A4,A5,A6,e1,e2,e3,e4,e5,e6⟩,_⟩:=h;obtain⟨l1,l2,l3,l4,l5,l6⟩:=hle;obtain⟨fb,fo,rfl,hfl,hfc⟩:=A3.get hn0;obtain⟨CR,rfl⟩:∃ CR,CR=C:=⟨_,rfl⟩
 have HCR:=Cq hCR;have HGl:AP (G<w.heap.size/\fb<w.heap.size):=⟨(AQ.1 hG).1,hfl⟩
 have HG:=Cq hG;have HSZ:AP ((Tryz.prog.info? 30).map (·.size)=UI 4):=by show _=_;kernel_rfl
 have HO0:AP (OE w 30 Cj (w.alloc (UP Cj 30))):=OE.start _ _ _;have HA:AP (At UO w aSD r.sD/\At UO w aSU r.sU/\FC w (UI ⟨fb,fo,UJ⟩) r.F):=⟨A1,A2,.inr ⟨fb,fo,rfl,hfl,hfc⟩⟩
 have HN:AP (r.sD.length=nSD/\r.sU.length=nSU/\nSD<=16/\nSU<=256/\m*4<=r.F.length/\r.F.length<=1008):=⟨e1,e2,AK,AK,hm,l3⟩
 have HST:=Cq (Ac hst hFB);have HAK:=Cq (Ac ha hok);have hsub:IntKind.u32.wrap (cut-r.t)=(m:Int):=by rw[show cut-r.t=(m:Int) by omega];unfold IntKind.wrap;simp[IntKind.bits,IntKind.signed];omega
 have hgad:IntKind.u32.wrap (r.g+1)=r.g+1:=by unfold IntKind.wrap;simp[IntKind.bits,IntKind.signed];omega
 have hsl:=λww=>Mx ww fb fo mF cF m AK
 clear hCR hcF A1 A2 A3 A4 A5 A6 e1 e2 e3 e4 e5 e6 l1 l2 l3 l4 l5 l6 hfl hfc hG hst hFB hg ht hc hc2 hm hn0 ha hok;go_enter Tryz.func117,Tryz.ntmps117;go_wp2_with fail;generalize w.alloc (UP Cj 30)=w1 at *;have r1:w1.heap[G]?=UI (UP CR 48 (0,0)):=by rw[HO0.o.below.block _ HGl.o.1];exact HG.o
 have HT:=Cq (IP G 6 aSD aSU nSD cSD nSU cSU w1 (Ax HGl.o.1 HO0.o.below.size) (by rw[AA r1 _,HCR.o];rfl) (by rw[AA r1 _,HCR.o];rfl));clear r1;refine HT.o.mono ?_;rintro e w2 ⟨rfl,b2⟩;have HO2:=Cq (HO0.o.call b2);have HOB:=Cq (GC aSD aSU UJ nSD cSD nSU cSU 0 0 r.sD r.sU (nSU:Int) [] w2 HN.o.1 HN.o.2.1 rfl (AG HN.o) (AG HN.o) AK (HA.o.1.below HO2.o.below) (HA.o.2.1.below HO2.o.below) (.inl rfl) (λ_=>⟨rfl,rfl⟩) AK (AG HN.o));have HSB1:=Cq (Ho (by rw[<-HN.o.2.1];exact HST.o.1:JE r.sD r.sU (nSU:Int) [] 0));clear b2 HO0 HT;go_wp2_with fail;refine HOB.o.mono ?_;rintro e w3 ⟨bk,rfl,hbs,hbo,b3,hob⟩;obtain⟨db,ub,v9,hbk,hsd,hsu,hto⟩:=hob HSB1.o;rw[HSB1.o];have HSB2:AP ((Tryz.prog.info? 77).map (·.size)=UI bk.size/\(Tryz.zeroCells77).size=bk.size/\bk.all (λx=>x.oneCell')=true):=⟨by rw[hbs];kernel_rfl,by rw[hbs];exact E1,hbo⟩
 have b4:Below w3.heap.size w3 (w3.alloc (UP bk 77)):=Cs.alloc Cw _;have hr4:(w3.alloc (UP bk 77)).heap[w3.heap.size]?=UI (UP bk 77 (0,0)):=AV w3 _;have h23:=b3.size;have hw2:=HO2.o.below.size;have hlt:=HO2.o.lt;have h24:Below w2.heap.size w2 (w3.alloc (UP bk 77)):=b3.trans (b4.mono h23);have HB4:AP (Below w.heap.size w (w3.alloc (UP bk 77))):=HO2.o.below.trans (h24.mono hw2);have HR4:AP ((w3.alloc (UP bk 77)).heap[w.heap.size]?=UI (UP Cj 30 (0,0))):=by show _=_;rw[h24.block _ hlt];exact HO2.o.b0
 have HC4:AP ((w3.alloc (UP bk 77)).heap[G]?=UI (UP CR 48 (0,0))):=by show _=_;rw[HB4.o.block _ HGl.o.1];exact HG.o
 have HCR4:=HC4;have hto4:DN w2.heap.size (w3.alloc (UP bk 77)) v9 [] 0:=hto.alloc _;have hne:Iy w3.heap.size v9:=λt ht e=>by
  rcases hto.2 with⟨h',_⟩|⟨g,c,cur,h',hb,hh,_⟩
  ·rw[h'] at ht;simp[Value.ownBlock] at ht
  ·rw[h'] at ht;simp[Value.ownBlock] at ht;have:=(AQ.1 hh).1;omega
 have hAXd:AX (w3.alloc (UP bk 77)).drew w2.heap.size w2.heap.size w3.heap.size ⟨true,r.sD,r.sU,(r.sU.length:Int),[],0⟩ (w3.alloc (UP bk 77)).drew:=⟨Ad _ _,db,ub,v9,⟨by show(w3.alloc (UP bk 77)).heap[w3.heap.size]?=_;rw[hr4,hbk,HN.o.2.1],hsd.1,hsu.1,hsd.2.1,hsu.2.1⟩,hsd,hsu,hto4.tapV.block Cw (λt _ _=>rfl),hne⟩
 have hFm:(r.F.take (m*4)).length=m*4:=by rw[Az];have:=HN.o;omega
 have hApp:=λww (e:ww=(w3.alloc (UP bk 77)).drew)=>Hw (UI ⟨fb,fo,UJ⟩) m cF (r.F.take (m*4)) ww w3.heap.size w2.heap.size w2.heap.size ⟨true,r.sD,r.sU,(r.sU.length:Int),[],0⟩ rfl ((by rw[e];exact(HA.o.2.2.below HB4.o).take _)) hFm (AG HN.o) (HST.o.2.take m) (λx hx=>by cases hx;show fb<_;have:=HGl.o;omega) (by rw[e];exact hAXd) HST.o.1 rfl h23 Cw (by rw[e];have:=h24.size;exact this) (by rw[e];have:=h24.size;exact this)
 have HAP:AP (∀ ww,ww=(w3.alloc (UP bk 77)).drew->Calls Tryz.prog 39 #[UM (UI ⟨w3.heap.size,0,UJ⟩),UD (UI ⟨fb,fo,UJ⟩) m cF] ww λe w'=>e=.returned (UF true)/\SU (w3.alloc (UP bk 77)) G w3.heap.size w2.heap.size CR a w'):=λww e=>(hApp ww e).mono λe' w' ⟨q1,q2,q3⟩=>by
  rw[JA m Cw,HAK.o.1] at q1 q3;rw[HAK.o.2] at q1;have q4:=q3 HAK.o.2;subst e;refine⟨q1,?_,⟨⟨q2.os,q2.tape,q2.output,q2.size,q2.block⟩,q4.bk⟩⟩;rw[q2.block G (AG HGl.o.1)];exact HC4.o
 have HSTK:AP (JE a.D a.U a.k a.T a.n/\a.T.length=a.n*2):=by
  have:=Gj (r:=⟨true,r.sD,r.sU,(r.sU.length:Int),[],0⟩) HST.o.2 HST.o.1 rfl m (AG HN.o);rw[HAK.o.1] at this;exact this HAK.o.2
 have HZ4:AP (w.heap.size<w2.heap.size/\G<w.heap.size/\w2.heap.size<=(w3.alloc (UP bk 77)).heap.size):=⟨hlt,HGl.o.1,h24.size⟩
 clear hbs hbo b3 hob hbk hsd hsu hto b4 hr4 h23 hw2 hlt h24 hto4 hne hAXd hFm hApp HO2 HOB HSB1 HGl HG HA HN HST HAK
 go_upto_region 2 with (first
  |(refine AC 77 (.tmp 5) (.tmp 14) w3.heap.size bk 77 (AV w3 _) HSB2.o.1 HSB2.o.2.1 HSB2.o.2.2 ?_)
  |fail)
 rw[World.setRow_alloc_new];clear HSB2;generalize w3.alloc (UP bk 77)=w4 at *;generalize w3.heap.size=b at *;generalize w2.heap.size=H at *;refine Ae AN ?_;refine C3 (λ_ _ _=>True) (frame:=(λ(a b c d e f g h i j k l m n o p q r s u v w x y z A B C D:UL)=>λ(t:Nat->UL)=>({ tmps:=List.toArray [a,b,c,d,e,f,g,h,i,j,k,l,m,n,o,p,t 0,t 1,t 2,t 3,t 4,t 5,t 6,t 7,t 8,t 9,t 10,t 11,t 12,q,r,s,u,v,w,x,y,z,A,B,C,D],defers:=[] }:Act)) _ _ _ _ _ _ _ _ _ _ _ _ _ _ _ _ _ _ _ _ _ _ _ _ _ _ _ _ _)
  (Ext:=λL u w'=>if L 12=true then SU w4 G b H CR a w' else w'=w4.drew) (Good:=λi L w' v=>if i=0 then v=UM (UI ⟨G,5,UJ⟩) else if i=1 then v=UM (UI ⟨G,5,UJ⟩) else if i=2 then v=UM (UI ⟨G,10,UJ⟩) else if i=3 then v=UD (UI ⟨fb,fo,UJ⟩) mF cF else if i=4 then v=UE UG cut else if i=5 then v=UM (UI ⟨G,5,UJ⟩) else if i=6 then v=UM (UI ⟨G,5,UJ⟩) else if i=7 then v=UM (UI ⟨G,6,UJ⟩) else if i=8 then v=UM (UI ⟨G,7,UJ⟩) else if i=9 then v=UE UG r.t else if i=10 then v=UE UG m else if i=11 then v=UD (UI ⟨fb,fo,UJ⟩) m cF else if i=12 then L 12=true else True) ?hstab AN ?hop ?hdone _ _ ((λ(x0 x1 x2 x3 x4 x5 x6 x7 x8 x9 x10 x11 x12:UL)=>λ(i:Nat)=>if i=0 then x0 else if i=1 then x1 else if i=2 then x2 else if i=3 then x3 else if i=4 then x4 else if i=5 then x5 else if i=6 then x6 else if i=7 then x7 else if i=8 then x8 else if i=9 then x9 else if i=10 then x10 else if i=11 then x11 else if i=12 then x12 else undef) _ _ _ _ _ _ _ _ _ _ _ _ _) _ AM ?ext ?start AM
 case start=>intro i hi h;exact absurd h E0
 case ext=>
  rw[AS (by show ¬ (Array.getD _ _ _=true);rw[A7,BR];split<;>simp)];exact rfl
 case hstab=>
  intro j L w9 w' i v hM hij hLi h;by_cases hl:j=12
  ·subst hl;simp at h |-;unfold Ct;simp[h]
  ·simp only[if_neg hl] at h |-;exact h
 case hop=>
  intro i o L t w' ho hLi hx hdep K hK;have hi:i<13:=(AQ.1 ho).1;have hrow:w'.heap[G]?=UI (UP CR 48 (0,0)):=by
   split at hx
   ·exact hx.row
   ·rw[hx];exact HC4.o
  have cX:∀ q9:Nat,w'.cell? ⟨G,q9,UJ⟩=(#[UD da zs.length dc,UD ca 0 cc,UE UO f,UF d,UD ka ks.length kc,UF r.ok,UE UG r.g,UE UG r.t,UD aSD nSD cSD,UD aSU nSU cSU,UD (UI ⟨fb,fo,UJ⟩) mF cF,UD aD nD cD,UD aU nU cU,UE UO r.k,UD aT r.n cT,UE UG r.nx]:Array UL)[q9]?:=λq9=>by rw[AA hrow q9,HCR.o]
  clear hrow;obtain rfl|rfl|rfl|rfl|rfl|rfl|rfl|rfl|rfl|rfl|rfl|rfl|rfl:i=0\/i=1\/i=2\/i=3\/i=4\/i=5\/i=6\/i=7\/i=8\/i=9\/i=10\/i=11\/i=12:=AK
  all_goals(simp at ho;subst ho)
  all_goals try(have hK':=hK w' _ rfl (by simpa[Ct] using hx) trivial;clear hK;simp[Region.binds] at hdep;rw[AR AO];go_simp;simpa[Cr,hdep] using hK')
  ·have d11:t 11=UD (UI ⟨fb,fo,UJ⟩) m cF:=by simpa using(hdep ⟨11,.data⟩ AM rfl).2
   clear hdep;rw[hLi,AS AL] at hx;subst hx;have hK':=λww v (h:SU w4 G b H CR a ww)=>hK ww v (by simp[Ct]) (by simpa[Ct] using h) trivial
   have A:=HAP.o _ rfl;clear hK;rw[AR AO];go_simp;try simp only[d11]
   refine A.mono ?_;rintro e w9 ⟨rfl,h9⟩;have hK2:=hK' w9 (UF true) h9;clear hK' h9 A;go_simp;simpa[Cr,d11] using hK2
 case hdone=>
  intro L t w5 hx hg;have hlast:L 12=true:=by simpa using hg 12 AL
  rw[AR hlast] at hx;clear hg hlast;have HU:=Cq hx;clear hx;obtain⟨d',u',v',r1,r2,r3,r4,r5⟩:=HU.o.ax.bk;obtain⟨aT9,cT9,rfl⟩:=r4.slice;obtain⟨hstr,hTr⟩:=HSTK.o;have HS:=Ja aT9 a.n cT9 (λv=>decide ((v:Int)∈a.D)) (λv=>decide ((v:Int)∈a.U)) r1 (r2.congr (λv _=>AM)) (r3.congr (λv _=>AM));rw[hstr.1.eq_upTo _ (λv _=>AM),hstr.2.2.1.eq_upTo _ (λv _=>AM)] at HS;have HS6:=Cq HS;clear HS r1 r2 r3 r4 r5 hstr hTr HSTK HAP HCR4;go_wp2_with fail;refine HS6.o.mono ?_;rintro e w6 ⟨bD,mD,dD,bU,mU,dU,rfl,i1,i2,ap,b6⟩;have b7:Below w6.heap.size w6 (w6.alloc (UP #[UD bD mD dD,UD bU mU dU,UE UO a.k,UD aT9 a.n cT9] 34)):=Cs.alloc Cw _;have bw5:Below w.heap.size w w5:=HB4.o.trans (HU.o.ax.bel.mono (AG HZ4.o));have bw6:Below w.heap.size w w6:=bw5.trans (b6.mono bw5.size);have hz5:=HU.o.ax.bel.size;have hz6:=b6.size;have HR7:AP ((w6.alloc (UP #[UD bD mD dD,UD bU mU dU,UE UO a.k,UD aT9 a.n cT9] 34)).heap[w.heap.size]?=UI (UP Cj 30 (0,0))/\(w6.alloc (UP #[UD bD mD dD,UD bU mU dU,UE UO a.k,UD aT9 a.n cT9] 34)).heap[G]?=UI (UP CR 48 (0,0))/\(w6.alloc (UP #[UD bD mD dD,UD bU mU dU,UE UO a.k,UD aT9 a.n cT9] 34)).heap[w6.heap.size]?=UI (UP #[UD bD mD dD,UD bU mU dU,UE UO a.k,UD aT9 a.n cT9] 34 (0,0))/\G<(w6.alloc (UP #[UD bD mD dD,UD bU mU dU,UE UO a.k,UD aT9 a.n cT9] 34)).heap.size/\w6.heap.size<(w6.alloc (UP #[UD bD mD dD,UD bU mU dU,UE UO a.k,UD aT9 a.n cT9] 34)).heap.size):=by
   refine⟨?_,?_,AV w6 _,?_,AM⟩
   ·rw[b7.block _ (AG HZ4.o),b6.block _ (AG HZ4.o),HU.o.ax.bel.block _ (AG HZ4.o)];exact HR4.o
   ·rw[b7.block _ (AG HZ4.o),b6.block _ (AG HZ4.o)];exact HU.o.row
   ·have:=HZ4.o;simp;omega
  have HS7:AP (S3 w5.heap.size (w6.alloc (UP #[UD bD mD dD,UD bU mU dU,UE UO a.k,UD aT9 a.n cT9] 34)) bD bU UJ mD mU 0 a.D a.U []):=(S3.of_io i1 i2 ap.aprt).below b7;have HB7:AP (Below w.heap.size w (w6.alloc (UP #[UD bD mD dD,UD bU mU dU,UE UO a.k,UD aT9 a.n cT9] 34))):=bw6.trans (b7.mono bw6.size);have HZ7:AP (w.heap.size<w5.heap.size):=by have:=HZ4.o;show _<_;omega
  have HST7:AP ((w6.alloc (UP Cf 34)).heap[w6.heap.size]?=UI (UP Cf 34 (0,0))/\(Tryz.prog.info? 34).map (·.size)=UI 4):=⟨AV w6 _,AN⟩
  clear i1 i2 ap b6 b7 bw5 bw6 hz5 hz6 HU HS6 HB4 HR4 HZ4
  go_upto_region 4 with (first
   |(refine AC 34 (.tmp 7) (.tmp 29) w6.heap.size #[UD bD mD dD,UD bU mU dU,UE UO a.k,UD aT9 a.n cT9] 34 HST7.o.1 HST7.o.2 rfl (by simp[Value.oneCell']) ?_)
   |fail)
  rw[World.setRow_alloc_new];clear HST7;generalize w6.alloc (UP #[UD bD mD dD,UD bU mU dU,UE UO a.k,UD aT9 a.n cT9] 34)=w7 at *;generalize w6.heap.size=s at *;refine Ae AN ?_;refine DF 12 (λ_ a b=>Below a.heap.size a b) (frame:=(λ(a b c d e f g h i j k l m n o p q r s u v w x y z A B C D E:UL)=>λ(t:Nat->UL)=>({ tmps:=List.toArray [a,b,c,d,e,f,g,h,i,j,k,l,m,n,o,p,q,r,s,u,v,w,x,y,z,A,B,C,D,E,t 0,t 1,t 2,t 3,t 4,t 5,t 6,t 7,t 8,t 9,t 10,t 11],defers:=[] }:Act)) _ _ _ _ _ _ _ _ _ _ _ _ _ _ _ _ _ _ _ _ _ _ _ _ _ _ _ _ _ _)
   (Ext:=λL u w'=>Fo w7 [] L u w') (Good:=λi L w' v=>if i=0 then v=UM (UI ⟨G,5,UJ⟩) else if i=1 then v=UM (UI ⟨G,5,UJ⟩) else if i=2 then v=UM (UI ⟨G,6,UJ⟩) else if i=3 then v=UM (UI ⟨G,6,UJ⟩) else if i=4 then v=UE UG r.g else if i=5 then v=UE UG (r.g+1) else if i=6 then v=UE UG cut else if i=7 then v=UM (UI ⟨s,0,UJ⟩) else if i=8 then v=UD bD mD dD else if i=9 then v=UM (UI ⟨s,1,UJ⟩) else if i=10 then v=UD bU mU dU else if i=11 then v=.agg #[UE UG (r.g+1),UE UG cut,UD bD mD dD,UD bU mU dU] else True) (Fin:=λ_ ww=>ww.heap[w.heap.size]?=UI (UP #[UE UG (r.g+1),UE UG cut,UD bD mD dD,UD bU mU dU] 30 (0,0))/\∃ w8,Below w7.heap.size w7 w8/\Wr w.heap.size w8 ww) rfl AN ?hstab AN ?hop ?hend ?hdone _ _ ((λ(x0 x1 x2 x3 x4 x5 x6 x7 x8 x9 x10 x11:UL)=>λ(i:Nat)=>if i=0 then x0 else if i=1 then x1 else if i=2 then x2 else if i=3 then x3 else if i=4 then x4 else if i=5 then x5 else if i=6 then x6 else if i=7 then x7 else if i=8 then x8 else if i=9 then x9 else if i=10 then x10 else if i=11 then x11 else undef) _ _ _ _ _ _ _ _ _ _ _ _) _ AM ?none ?ext AM
  case none=>exact λ_=>FJ
  case ext=>exact Fo.start w7 [] _ _ (λ_=>FJ) ⟨rfl,rfl,rfl,AY _,λ_ _=>rfl⟩
  case hstab=>
   intro j L w9 w' i v _ hM _ _ h;exact h
  case hop=>
   intro i o L t w' hi ho hLi hx hdep K hK;have cX:∀ q9:Nat,w'.cell? ⟨G,q9,UJ⟩=(#[UD da zs.length dc,UD ca 0 cc,UE UO f,UF d,UD ka ks.length kc,UF r.ok,UE UG r.g,UE UG r.t,UD aSD nSD cSD,UD aSU nSU cSU,UD (UI ⟨fb,fo,UJ⟩) mF cF,UD aD nD cD,UD aU nU cU,UE UO r.k,UD aT r.n cT,UE UG r.nx]:Array UL)[q9]?:=λq9=>by rw[Aa (a:=⟨G,q9,UJ⟩) (w:=w7) (hx.below.block _ HR7.o.2.2.2.1),AA HR7.o.2.1 q9,HCR.o]
   have cY:∀ q9:Nat,w'.cell? ⟨s,q9,UJ⟩=(#[UD bD mD dD,UD bU mU dU,UE UO a.k,UD aT9 a.n cT9]:Array UL)[q9]?:=λq9=>by rw[Aa (a:=⟨s,q9,UJ⟩) (w:=w7) (hx.below.block _ HR7.o.2.2.2.2),AA HR7.o.2.2.1 q9]
   obtain rfl|rfl|rfl|rfl|rfl|rfl|rfl|rfl|rfl|rfl|rfl|rfl:i=0\/i=1\/i=2\/i=3\/i=4\/i=5\/i=6\/i=7\/i=8\/i=9\/i=10\/i=11:=AK
   all_goals(simp at ho;subst ho)
   all_goals try(have hK':=hK w' _ rfl (hx.step _ _ Cs C7) Cs;clear hK;simp[Region.binds] at hdep;rw[AR AO];go_simp;simpa[Cr,hdep] using hK')
  case hend=>
   intro o L t w' ho hx hg K hK;simp at ho;subst ho;have d11:t 11=.agg #[UE UG (r.g+1),UE UG cut,UD bD mD dD,UD bU mU dU]:=by simpa using(hg 11 AL).2
   clear hg;have hrs:=(hx.below.block _ (AQ.1 HR7.o.1).1).trans HR7.o.1;have hK':∀ ww,Wr w.heap.size w' ww->ww.heap[w.heap.size]?=UI (UP #[UE UG (r.g+1),UE UG cut,UD bD mD dD,UD bU mU dU] 30 (0,0))->K _ ww:=λww hw hr=>hK ww undef ⟨hr,w',hx.below,hw⟩
   clear hK;rw[AR AO];refine A8 30 (.tmp 4) (.tmp 41) rfl w.heap.size #[UE UG (r.g+1),UE UG cut,UD bD mD dD,UD bU mU dU] rfl d11 30 _ hrs HSZ.o rfl (by simp[Value.oneCell']) ?_;have hK2:=hK' _ (Wr.setRow _ _ _) (AB hrs);clear hK';simpa[Cr,Act.put] using hK2
  case hdone=>
   intro t w9 hf;obtain⟨hr9,w8,b8,hw8⟩:=hf;have HR9:AP (w9.heap[w.heap.size]?=UI (UP #[UE UG (r.g+1),UE UG cut,UD bD mD dD,UD bU mU dU] 30 (0,0))):=hr9;have HF:AP (KP w.heap.size w9 (.agg #[UE UG (r.g+1),UE UG cut,UD bD mD dD,UD bU mU dU]) (r.g+1) cut a.D a.U/\Below w.heap.size w w9):=⟨⟨bD,mD,dD,bU,mU,dU,rfl,((HS7.o.below b8).keep (Aw hw8.size.symm) (λk hk _=>hw8.block k (AG HZ7.o))).lo (AG HZ7.o)⟩,(HB7.o.trans (b8.mono HB7.o.size)).trans (hw8.below Cw)⟩
   clear hr9 b8 hw8;go_wp2_with fail;exact AZ (v:=.agg #[UE UG (r.g+1),UE UG cut,UD bD mD dD,UD bU mU dU]) (AW rfl _ _ w.heap.size 30 _ (0,0) _ rfl HR9.o Tryz.underlying30 rfl HSZ.o) rfl ⟨_,rfl,HF.o.1,HF.o.2⟩
theorem RY {zs:List Int} {ps:List PD} {i:Nat} (hb:Cu (GJ zs ps i)):0<=(Gx zs ps i).g:=by
 unfold Gx;split
 ·exact(KC hb).1
 ·decide
theorem Rx {zs:List Int} {ps:List PD} (hb:∀ i,i<2->Cu (GJ zs ps i)):∀ q,q<=2->0<=(Eb zs ps q).g
 |0,_=>(by decide:(0:Int)<=Fg.g)
 |q+1,h=>by
  unfold Eb;split
  ·exact RY (hb q AK)
  ·exact Rx hb q AK
theorem My (zs:List Int) (ps:List PD) (J:Nat):∀ n q k,(Fa zs ps J q n).length=k*4->(∀ i,i<k->(Fa zs ps J q n).getD (i*4) 0=((q+i:Nat):Int))/\(0<k->q+k<=4000000000)
 |0,q,k,h=>by
  have:k=0:=by simp[Fa] at h;omega
  subst this;exact⟨λi hi=>absurd hi AK,λh=>absurd h AK⟩
 |n+1,q,k,h=>by
  by_cases hc:q<4000000000/\I3 zs ps J q=true
  ·rw[J9 hc.1 hc.2] at h |-;rw[Al,GG] at h;obtain⟨k',rfl⟩:∃ k',k=k'+1:=⟨k-1,AK⟩
   obtain⟨i1,i2⟩:=My zs ps J n (q+1) k' AK;refine⟨λi hi=>?_,λ_=>?_⟩
   ·cases i with
    |zero=>
     have:=hc.2;unfold I3 at this;simp at this;show DD (KN zs ps J q) 0=_
     rw[this.2];simp
    |succ i=>
     rw[show(i+1)*4=i*4+4 by omega,List.getD,Am (by rw[GG];omega),GG,B7];have:=i1 i AK;rw[List.getD] at this;rw[this];congr 1;omega
   ·by_cases h0:0<k'
    ·have:=i2 h0;omega
    ·omega
  ·have e:Fa zs ps J q (n+1)=[]:=by show(if _ then _ else _)=_;rw[AS hc]
   rw[e] at h |-;have:k=0:=by simp at h;omega
   subst this;exact⟨λi hi=>absurd hi AK,λh=>absurd h AK⟩
structure QD (zs:List Int) (f:Int) (r:Dt) (n:Nat):Prop where
 v:EA zs.length 0 f
 ok:r.ok=true
 st:JE r.sD r.sU (r.sU.length:Int) [] 0
 fr:QB r.F
 len:r.F.length=n*4
 nJ:n<=zs.length/64-4
 seq:∀ i,i<n->r.F.getD (i*4) 0=r.t+i
 nx:r.nx=r.t+n
 top:r.t+n<=4000000000
 t1:1<=r.t
 g0:0<=r.g/\r.g<=4000000000
 ap:(EE ⟨true,r.sD,r.sU,(r.sU.length:Int),[],0⟩ r.F n).ok=true
theorem MG {zs:List Int} {f:Int} {r:Dt} (hr:Ez zs [] f=r) (hok:r.ok=true) (bz:Cu zs):∃ n,QD zs f r n:=by
 subst hr;unfold Ez at hok |-;split at hok
 ·next hv=>
  rw[AR hv];have hD:JF zs.length zs.length 0 f zs []:=⟨rfl,rfl,hv,AY _,bz,by simp[Cu]⟩
  unfold Pa at hok |-;split at hok
  ·next hn=>
   rw[AR hn];have hs:=Hz 2 hn;have hg:=Rx (zs:=zs) (ps:=[]) (λi hi=>(hD.sl i hi).2) 2 Cw;unfold Nr at hok |-;split at hok
   ·next ha=>
    rw[AR ha];obtain⟨b1,b2,b3,b4⟩:=hD.base;obtain⟨k,hk,hl⟩:=Gw zs [] (zs.length/64-4) (zs.length/64-4) (Eb zs [] 2).t.toNat;obtain⟨q1,q2⟩:=My zs [] (zs.length/64-4) (zs.length/64-4) (Eb zs [] 2).t.toNat k hl;have ht:(((Eb zs [] 2).t.toNat:Nat):Int)=(Eb zs [] 2).t:=Bm (AG hs.2.1);have h4:(Fa zs [] (zs.length/64-4) (Eb zs [] 2).t.toNat (zs.length/64-4)).length/4=k:=by rw[hl];omega
    refine⟨k,(FS hv).1,rfl,hs.st,H3 zs [] _ (λq=>(hD.jr q).2) _ _,hl,hk,λi hi=>?_,?_,?_,hs.2.1,⟨hg,hs.1⟩,?_⟩
    ·show(Fa _ _ _ _ _).getD _ _=(Eb zs [] 2).t+(i:Int);rw[q1 i hi];omega
    ·show _+_=_;rw[h4]
    ·by_cases h0:0<k
     ·have:=q2 h0;show(Eb zs [] 2).t+k<=_;omega
     ·have:=hs.2.2.1;show(Eb zs [] 2).t+k<=_;omega
    ·have:=ha;unfold I4 at this;rw[h4] at this;exact this
   ·cases hok
  ·cases hok
 ·cases hok
theorem KF {F:List Int} {nF:Nat} {ak nx t:Int} (hs:∀ i,i<nF->F.getD (i*4) 0=t+i) (hn:nx=t+nF):∀ k n,k<=nF->∃ m:Nat,m<=nF/\Dz F nF ak nx k n=t+m
 |0,n,_=>⟨nF,AY _,hn⟩
 |k+1,n,h=>by
  unfold Dz;split
  ·split
   ·exact⟨nF-(k+1),AK,hs _ AK⟩
   ·exact KF hs hn k _ AK
  ·exact KF hs hn k _ AK
noncomputable def GR (r:Dt):Int:=JK r.ok r.sU.length r.F (r.F.length/4) r.k r.nx
theorem QD.cut {zs:List Int} {f:Int} {r:Dt} {n:Nat} (h:QD zs f r n):∃ m:Nat,m<=n/\GR r=r.t+m:=by
 unfold GR JK;rw[AR h.ok,show r.F.length/4=n by rw[h.len];omega];exact KF h.seq h.nx n _ Cw
noncomputable def G2 (r:Dt):GN:=EE ⟨true,r.sD,r.sU,(r.sU.length:Int),[],0⟩ r.F (GR r-r.t).toNat
noncomputable def Le (r:Dt):List Int:=Gz (r.g+1) (GR r) (G2 r).D (G2 r).U
noncomputable def KG (zs:List Int) (f:Int) (r:Dt):DO:=Jj zs f ((r.g+1)%2*2).toNat ((Le r).take 64) ((Le r).drop 64)
theorem QD.apm {zs:List Int} {f:Int} {r:Dt} {n:Nat} (h:QD zs f r n) {m:Nat} (hm:m<=n):(EE ⟨true,r.sD,r.sU,(r.sU.length:Int),[],0⟩ r.F m).ok=true:=by
 cases e:(EE ⟨true,r.sD,r.sU,(r.sU.length:Int),[],0⟩ r.F m).ok with
 |true=>rfl
 |false=>
  have:=LM (r:=⟨true,r.sD,r.sU,(r.sU.length:Int),[],0⟩) rfl e hm;have h2:=h.ap;rw[this,e] at h2;cases h2
theorem QD.snp {zs:List Int} {f:Int} {r:Dt} {n:Nat} (h:QD zs f r n) (hg:r.g≠4000000000):Jb (r.g+1) (GR r) (G2 r).D (G2 r).U/\(G2 r).ok=true:=by
 obtain⟨m,hm,hc⟩:=h.cut;have e:G2 r=EE ⟨true,r.sD,r.sU,(r.sU.length:Int),[],0⟩ r.F m:=by unfold G2;rw[hc,show(r.t+(m:Int)-r.t).toNat=m by omega]
 have hok:=h.apm hm;have hs:=(Gj (r:=⟨true,r.sD,r.sU,(r.sU.length:Int),[],0⟩) h.fr h.st rfl m (by rw[h.len];omega) hok).1;rw[<-e] at hok hs;have:=h.g0;have:=h.t1;have:=h.top;exact⟨⟨AK,AK,AK,hs.1,hs.2.1,hs.2.2.1⟩,hok⟩
theorem Cu.take {zs:List Int} (h:Cu zs) (k:Nat):Cu (zs.take k):=λx hx=>h x (Bi hx)
theorem Cu.drop {zs:List Int} (h:Cu zs) (k:Nat):Cu (zs.drop k):=λx hx=>h x (List.mem_of_mem_drop hx)
theorem Mz {zs:List Int} {f:Int} {s:Nat} {z0 z1:List Int} (h0:z0.length=64) (h1:z1.length=64) (hs:(s+2)*64<=zs.length):(Jj zs f s z0 z1).1.length=zs.length:=by
 have a:=Eh zs s z0 AK;have b:=Eh (Dc zs s z0) (s+1) z1 AK;unfold Jj
 (repeat' split)<;>first|rfl|exact a|exact b.trans a
theorem LW {zs:List Int} {f:Int} {s:Nat} {z0 z1:List Int} (h:Cu zs) (h0:Cu z0) (h1:Cu z1):Cu (Jj zs f s z0 z1).1:=by
 have a:=Ha s h h0;have b:=Ha (s+1) a h1;unfold Jj
 (repeat' split)<;>first|exact h|exact a|exact b
theorem RZ {zs:List Int} {f:Int} {s:Nat} {z0 z1:List Int}:(Jj zs f s z0 z1).2.2.2=false->(Jj zs f s z0 z1).2.1=[]:=by
 unfold Jj
 (repeat' split)<;>first|(intro h;cases h;done)|(intro _;rfl)
end Go.Proofs.YthmeoilbmfdhfaaGreat
