import Derived.Test.YthmeoilbmfdhfaaGreatMCgA
import Derived.Test.YthmeoilbmfdhfaaGreatMISy
open Go.Value renaming slice->UD,int->UE,pointer->UM,bool->UF,agg->UN
open Go.IntKind renaming i64->UO,u32->UG
open Go.Obj renaming cells->UP
open Go.Ending renaming returned->UQ
open Go.Operand renaming tmp->UT
open Option renaming some->UI,none->UJ
open Go renaming World->UK,Value->UL
namespace Go.Proofs.YthmeoilbmfdhfaaGreat
set_option maxHeartbeats 8000000
set_option maxRecDepth 100000
open Go.ChangeShapes Go.WideShapes Go.ChangeAt Go.RowKit
set_option linter.unusedVariables false
section
variable {lo lo' hi:Nat} {w w':UK} {C X:Array UL} {zs ks:List Int} {ps:List PD} {f c:Int} {d:Bool} {r:Dt}
def JM (lo:Nat) (w:UK) (C:Array UL) (zs:List Int) (ps:List PD) (ks:List Int) (f:Int) (d:Bool) (r:Dt):Prop:=∃ da dc ca cc ka kc aSD nSD cSD aSU nSU cSU aF mF cF aD nD cD aU nU cU aT cT B1 U,C=#[UD da zs.length dc,UD ca ps.length cc,UE UO f,UF d,UD ka ks.length kc,UF r.ok,UE UG r.g,UE UG r.t,UD aSD nSD cSD,UD aSU nSU cSU,UD aF mF cF,UD aD nD cD,UD aU nU cU,UE UO r.k,UD aT r.n cT,UE UG r.nx]/\(zs.length<=dc/\mF<=cF)/\EF lo w da zs/\EF lo w ka ks/\KO w aSD aSU aF aD aU aT nSD nSU mF nD nU r/\GX lo w r da ka aSD aSU aF aD aU aT nSD nSU mF nD nU/\Dq B1 U w ca ps/\lo<=B1/\U<=w.heap.size/\(ps≠[]->(∀ ad,da=UI ad->ad.block<B1)/\(∀ ad,ka=UI ad->ad.block<B1)/\∀ j,B1<=j->N6 j aSD aSU aF aD aU aT)
theorem GP.gq (h:GP lo w C zs ks f d r) (hl:lo<=w.heap.size):JM lo w C zs [] ks f d r:=by
 obtain⟨da,dc,ca,cc,ka,kc,aSD,nSD,cSD,aSU,nSU,cSU,aF,mF,cF,aD,nD,cD,aU,nU,cU,aT,cT,e,h1,h2,h3,h4,h5⟩:=h;exact⟨da,dc,ca,cc,ka,kc,aSD,nSD,cSD,aSU,nSU,cSU,aF,mF,cF,aD,nD,cD,aU,nU,cU,aT,cT,_,_,e,h1,h2,h3,h4,h5,.inl rfl,hl,AY _,λh=>absurd rfl h⟩
theorem JM.keep (h:JM lo w C zs ps ks f d r) (hs:w.heap.size<=w'.heap.size) (hb:∀ k,lo<=k->k<w.heap.size->w'.heap[k]?=w.heap[k]?):JM lo w' C zs ps ks f d r:=by
 obtain⟨da,dc,ca,cc,ka,kc,aSD,nSD,cSD,aSU,nSU,cSU,aF,mF,cF,aD,nD,cD,aU,nU,cU,aT,cT,B1,U,e,h1,h2,h3,h4,⟨⟨b1,b2,h5⟩,h6,h7⟩,h8,h9,h10,h11⟩:=h;exact⟨da,dc,ca,cc,ka,kc,aSD,nSD,cSD,aSU,nSU,cSU,aF,mF,cF,aD,nD,cD,aU,nU,cU,aT,cT,B1,U,e,h1,h2.keep hs hb,h3.keep hs hb,h4.keep h5.l6 hs hb,⟨⟨b1,b2,h5.keep hs hb⟩,h6,h7⟩,h8.keep (λk hk hk'=>hb k AK AK) hs,h9,AK,h11⟩
theorem JM.below (h:JM lo w C zs ps ks f d r) (b:Below w.heap.size w w'):JM lo w' C zs ps ks f d r:=h.keep b.size (λk _ hk=>b.block k hk)
theorem JM.mono (h:JM lo w C zs ps ks f d r) (hl:lo'<=lo):JM lo' w C zs ps ks f d r:=by
 obtain⟨da,dc,ca,cc,ka,kc,aSD,nSD,cSD,aSU,nSU,cSU,aF,mF,cF,aD,nD,cD,aU,nU,cU,aT,cT,B1,U,e,h1,h2,h3,h4,⟨⟨b1,b2,h5⟩,h6,h7⟩,h8,h9,h10,h11⟩:=h;exact⟨da,dc,ca,cc,ka,kc,aSD,nSD,cSD,aSU,nSU,cSU,aF,mF,cF,aD,nD,cD,aU,nU,cU,aT,cT,B1,U,e,h1,h2.mono hl,h3.mono hl,h4,⟨⟨b1,b2,h5.low hl⟩,h6,h7⟩,h8,AK,h10,h11⟩
theorem JM.row (h:JM lo w C zs ps ks f d r):C.size=16/\C.all (·.oneCell')=true:=by
 obtain⟨da,dc,ca,cc,ka,kc,aSD,nSD,cSD,aSU,nSU,cSU,aF,mF,cF,aD,nD,cD,aU,nU,cU,aT,cT,B1,U,rfl,_⟩:=h;exact⟨rfl,by simp[Value.oneCell']⟩
theorem JM.gat (h:JM lo w C zs ps ks f d r):Mo w (UN C) zs ps f d ks r:=by
 obtain⟨da,dc,ca,cc,ka,kc,aSD,nSD,cSD,aSU,nSU,cSU,aF,mF,cF,aD,nD,cD,aU,nU,cU,aT,cT,B1,U,e,h1,h2,h3,h4,h5,h8,_⟩:=h;exact⟨da,dc,ca,cc,ka,kc,aSD,nSD,cSD,aSU,nSU,cSU,aF,mF,cF,aD,nD,cD,aU,nU,cU,aT,cT,congrArg _ e,h2.1,h8.at_,h1.1,h3.1,h4⟩
def IW (lo:Nat) (w:UK) (X:Array UL) (c:Int) (zs:List Int) (ps:List PD) (ks:List Int) (f:Int) (d:Bool) (r:Dt):Prop:=∃ C,X=#[UE UO c]++C/\JM lo w C zs ps ks f d r
theorem IW.keep (h:IW lo w X c zs ps ks f d r) (hs:w.heap.size<=w'.heap.size) (hb:∀ k,lo<=k->k<w.heap.size->w'.heap[k]?=w.heap[k]?):IW lo w' X c zs ps ks f d r:=by obtain⟨C,e,h⟩:=h;exact⟨C,e,h.keep hs hb⟩
theorem IW.below (h:IW lo w X c zs ps ks f d r) (b:Below w.heap.size w w'):IW lo w' X c zs ps ks f d r:=h.keep b.size (λk _ hk=>b.block k hk)
theorem IW.mono (h:IW lo w X c zs ps ks f d r) (hl:lo'<=lo):IW lo' w X c zs ps ks f d r:=by obtain⟨C,e,h⟩:=h;exact⟨C,e,h.mono hl⟩
theorem IW.row (h:IW lo w X c zs ps ks f d r):X.size=17/\X.all (·.oneCell')=true:=by
 obtain⟨C,rfl,h⟩:=h;refine⟨by rw[Array.size_append,h.row.1];rfl,?_⟩;rw[Array.all_append,h.row.2];simp[Value.oneCell']
theorem GL.n6 {aSD aSU aF aD aU aT:Option Addr} (h:L6 lo w aSD aSU aF aD aU aT):∀ j,w.heap.size<=j->N6 j aSD aSU aF aD aU aT:=λj hj=>⟨λad e=>AG (h.1 ad e),λad e=>AG (h.2.1 ad e),λad e=>AG (h.2.2.1 ad e),λad e=>AG (h.2.2.2.1 ad e),λad e=>AG (h.2.2.2.2.1 ad e),λad e=>AG (h.2.2.2.2.2 ad e)⟩
end
theorem TL {C:Array UL} (h:C.size=16):∃ c0 c1 c2 c3 c4 c5 c6 c7 c8 c9 c10 c11 c12 c13 c14 c15,C=#[c0,c1,c2,c3,c4,c5,c6,c7,c8,c9,c10,c11,c12,c13,c14,c15]:=by
 match C,h with
 |⟨[c0,c1,c2,c3,c4,c5,c6,c7,c8,c9,c10,c11,c12,c13,c14,c15]⟩,_=>exact⟨c0,c1,c2,c3,c4,c5,c6,c7,c8,c9,c10,c11,c12,c13,c14,c15,rfl⟩
theorem SO (c:Int) (C:Array UL) (h:C.size=16):Tryz.prog.built 50 [(0,UE UO c),(1,UN C)]=UI (#[UE UO c]++C):=by
 obtain⟨c0,c1,c2,c3,c4,c5,c6,c7,c8,c9,c10,c11,c12,c13,c14,c15,rfl⟩:=TL h
 kernel_rfl
theorem Rw {o:Oper} {a:Act} {w:UK} {K:Act->UK->Prop} {Q:Exit->Act->UK->Prop} (x y:Operand) (ho:o.op=.build 50 #[(0,x),(1,y)]) (c:Int) (C:Array UL) (hx:a.eval x=UE UO c) (hy:a.eval y=UN C) (hC:C.size=16) (h:K (a.put o.dst (UN (#[UE UO c]++C))) w):o.wp Tryz.prog a w K Q:=by
 have e:Tryz.prog.built 50 (#[(0,x),(1,y)].map λ(i,x)=>(i,a.eval x)).toList=UI (#[UE UO c]++C):=by
  rw[<-SO c C hC,<-hx,<-hy];simp
 exact wp_build 50 _ ho (by rw[e];rfl) (by rw[e];exact h)
theorem EK {ops:Array Oper} {rest:List Oper} {o:Oper} {a:Act} {w:UK} {Q:Exit->Act->UK->Prop} (hg:o.guard=UJ) (x y:Operand) (ho:o.op=.build 50 #[(0,x),(1,y)]) (c:Int) (C:Array UL) (hx:a.eval x=UE UO c) (hy:a.eval y=UN C) (hC:C.size=16) (h:wpList Tryz.prog ops Q rest (a.put o.dst (UN (#[UE UO c]++C))) w):wpList Tryz.prog ops Q (o::rest) a w:=
 wpList_plain hg λ_ hK=>Rw x y ho c C hx hy hC (hK _ _ h)
theorem Tryz.sizeG:(Tryz.prog.info? 48).map (·.size)=UI 16:=AN
theorem Tryz.sizeR:(Tryz.prog.info? 50).map (·.size)=UI 17:=AN
def ER:Array UL:=#[UE UO 0,UD UJ 0 0,UD UJ 0 0,UE UO 0,UF false,UD UJ 0 0,UF false,UE UG 0,UE UG 0,UD UJ 0 0,UD UJ 0 0,UD UJ 0 0,UD UJ 0 0,UD UJ 0 0,UE UO 0,UD UJ 0 0,UE UG 0]
theorem I9 {lo:Nat} {w:UK} {C:Array UL} {c:Int} {zs ks:List Int} {ps:List PD} {f:Int} {d:Bool} {r:Dt} (h:JM lo w C zs ps ks f d r):∃ X,#[UE UO c]++C=X/\IW lo w X c zs ps ks f d r:=⟨_,rfl,C,rfl,h⟩
theorem IW.put {lo R:Nat} {w:UK} {X:Array UL} {c:Int} {zs ks:List Int} {ps:List PD} {f:Int} {d:Bool} {r:Dt} (h:IW lo w X c zs ps ks f d r) (hR:R<lo):IW R (w.setRow R X) X c zs ps ks f d r:=by
 have hw:=Wr.setRow R w X;exact(h.keep (Aw hw.size.symm) (λk hk _=>hw.block k AK)).mono AK
theorem Mw {lo:Nat} (G:Nat) (C:Array UL) (c:Int) (zs ks:List Int) (f:Int) (d:Bool) (r:Dt) (w:UK) (hG:w.heap[G]?=UI (UP C 48 (0,0))) (h:GL lo w C zs ks f d r) (hb:Eu r) (hz:zs.length<=1048576) (hk:ks.length<=1048576) :
  Calls Tryz.prog 116 #[UM (UI ⟨G,0,UJ⟩),UE UO c] w λe w'=>∃ X,e=UQ (UN X)/\IW w.heap.size w' X c zs [] ks f d r/\Below w.heap.size w w':=by
 have HO0:AP (OE w 50 ER (w.alloc (UP ER 50))):=OE.start _ _ _;have HG:=Cq (Ac hG h.row.1);have HSG:AP ((Tryz.prog.info? 48).map (·.size)=UI C.size):=by show _=_;rw[h.row.1];exact Tryz.sizeG
 have HCP:=Cq (λww (b:Below w.heap.size w ww)=>Mv C zs ks f d r ww (h.below b) hb hz hk);have HL:AP (G<w.heap.size):=(AQ.1 hG).1;clear hG h hb hz hk;go_enter Tryz.func116,Tryz.ntmps116
 go_upto_region 1 with fail
 change Code.wp _ _ _ _ (w.alloc (UP ER 50));generalize w.alloc (UP ER 50)=w1 at *;have HG1:AP (w1.heap[G]?=UI (UP C 48 (0,0))):=by show _=_;rw[HO0.o.below.block _ HL.o];exact HG.o.1
 go_wp2_with (first
  |(refine Ab rfl 48 (UT 7) rfl G rfl 48 C (0,0) _ HG1.o Tryz.underlying48 rfl HSG.o ?_)
  |fail)
 refine(HCP.o w1 HO0.o.below).mono ?_;rintro e w2 ⟨C',rfl,g2,hb2⟩;have HO2:=Cq (HO0.o.call hb2);obtain⟨X,hX,hR⟩:=I9 (c:=c) (g2.1.gq hb2.size);have HR:=Cq hR;have HX:=Cq (Ac hX (Ac g2.1.gl.row.1 HO0.o.lt));have HSX:AP ((Tryz.prog.info? 50).map (·.size)=UI X.size/\ER.size=X.size/\X.all (·.oneCell')=true):=⟨by rw[hR.row.1];exact Tryz.sizeR,by rw[hR.row.1];rfl,hR.row.2⟩
 clear HO0 HG HSG HCP HL HG1 hb2 g2 hX hR;go_wp2_with (first
  |(refine EK rfl (UT 5) (UT 9) rfl c C' rfl rfl HX.o.2.1 ?_;rw[HX.o.1])
  |(refine AC 50 (UT 4) (UT 10) w.heap.size X 50 HO2.o.b0 HSX.o.1 HSX.o.2.1 HSX.o.2.2 ?_)
  |fail)
 (try simp only[Exit.inBlock,Exit.then])
 exact AZ (v:=UN X) (AW rfl _ _ w.heap.size 50 _ (0,0) _ rfl (AB HO2.o.b0) Tryz.underlying50 rfl HSX.o.1) rfl ⟨_,rfl,HR.o.put HX.o.2.2,HO2.o.below.trans ((Wr.setRow _ _ _).below Cw)⟩
theorem Wr.setCells (b:Nat):∀(vs:List UL) (o:Nat) (w:UK),Wr b w (w.setCells b o vs)
 |[],o,w=>Wr.refl _ _
 |v::vs,o,w=>((Wr.refl b w).setCell o v).trans (Wr.setCells b vs (o+1) _)
section
variable {lo A g L gc B H:Nat} {w w':UK} {C:Array UL} {zs ks:List Int} {ps:List PD} {f:Int} {d:Bool} {r:Dt} {ka aSD aSU aF aD aU aT:Option Addr} {kc nSD cSD nSU cSU mF cF nD cD nU cU cT b1 b2:Nat}
structure Sp (lo g H:Nat) (w:UK) (ks:List Int) (r:Dt) (ka aSD aSU aF aD aU aT:Option Addr) (nSD nSU mF nD nU:Nat):Prop where
 k:EF lo w ka ks
 i:∃ b1 b2,I6 lo b1 b2 w aSD aSU aF aD aU aT nSD nSU mF nD nU r.n
 l:KO w aSD aSU aF aD aU aT nSD nSU mF nD nU r
 gk:DG g ka/\N6 g aSD aSU aF aD aU aT
 kk:∀ ad,ka=UI ad->N6 ad.block aSD aSU aF aD aU aT
 kH:∀ ad,ka=UI ad->ad.block<H
 iH:∀ j,H<=j->N6 j aSD aSU aF aD aU aT
theorem Sp.yr (h:Sp lo g H w ks r ka aSD aSU aF aD aU aT nSD nSU mF nD nU) (y:YR A g w w') (hA:w.heap.size<=A\/(DG A ka/\N6 A aSD aSU aF aD aU aT)):Sp lo g H w' ks r ka aSD aSU aF aD aU aT nSD nSU mF nD nU:=by
 obtain⟨b1,b2,i⟩:=h.i;have hs:=y.size;have n6:∀ ad,TI ad aSD aSU aF aD aU aT->w'.heap[ad.block]?=w.heap[ad.block]?:=λad q=>by
  have q2:=(i.in6 q).2;refine y.block _ q2 (λe=>?_) (λe=>h.gk.2.ne q e.symm);rcases hA with hA|hA
  ·omega
  ·exact hA.2.ne q e.symm
 have nk:∀ ad,ka=UI ad->w'.heap[ad.block]?=w.heap[ad.block]?:=λad e=>by
  have q:=(h.k.2.2 ad e).2;refine y.block _ q (λe2=>?_) (λe2=>h.gk.1 ad e e2.symm);rcases hA with hA|hA
  ·omega
  ·exact hA.1 ad e e2.symm
 obtain⟨a1,a2,a3,a4,a5,a6,hl⟩:=h.l;exact⟨⟨h.k.1.keep nk hs,h.k.2.1.keep nk hs,λad e=>AG (h.k.2.2 ad e)⟩,⟨b1,b2,i.keep6 hs n6⟩,⟨a1.keepT hs λad e _=>n6 ad (.inl e),a2.keepT hs λad e _=>n6 ad (.inr (.inl e)),a3.keepT hs λad e _=>n6 ad (.inr (.inr (.inl e))),a4.keepT hs λad e _=>n6 ad (.inr (.inr (.inr (.inl e)))),a5.keepT hs λad e _=>n6 ad (.inr (.inr (.inr (.inr (.inl e))))),a6.keepT hs λad e _=>n6 ad (.inr (.inr (.inr (.inr (.inr e))))),hl⟩,h.gk,h.kk,h.kH,h.iH⟩
theorem RU (h:MF lo w C zs ks f d r) (hz:0<zs.length):∃ g gc ka kc aSD nSD cSD aSU nSU cSU aF mF cF aD nD cD aU nU cU aT cT,C=#[UD (UI ⟨g,0,UJ⟩) zs.length gc,UD UJ 0 0,UE UO f,UF d,UD ka ks.length kc,UF r.ok,UE UG r.g,UE UG r.t,UD aSD nSD cSD,UD aSU nSU cSU,UD aF mF cF,UD aD nD cD,UD aU nU cU,UE UO r.k,UD aT r.n cT,UE UG r.nx]/\DT w lo (UD (UI ⟨g,0,UJ⟩) zs.length gc) zs/\Sp lo g w.heap.size w ks r ka aSD aSU aF aD aU aT nSD nSU mF nD nU/\mF<=cF:=by
 obtain⟨⟨da,dc,ca,cc,ka,kc,aSD,nSD,cSD,aSU,nSU,cSU,aF,mF,cF,aD,nD,cD,aU,nU,cU,aT,cT,rfl,h1,h2,h3,h4,⟨⟨b1,b2,h5⟩,h6,h7⟩⟩,e1,dv,e0,o⟩:=h;simp at e1 e0;obtain⟨rfl,rfl⟩:=e1;subst e0;rcases o with⟨_,e⟩|o
 ·rw[e] at hz;simp at hz
 ·obtain⟨g,c,e,_⟩:=o.at_;simp only[Value.slice.injEq] at e;obtain⟨rfl,_,rfl⟩:=e;exact⟨g,dc,ka,kc,aSD,nSD,cSD,aSU,nSU,cSU,aF,mF,cF,aD,nD,cD,aU,nU,cU,aT,cT,rfl,o,⟨h3,⟨b1,b2,h5⟩,h4,h6 _ rfl,h7,λad e=>(h3.2.2 ad e).2,GL.n6 h5.l6⟩,h1.2⟩
theorem SP (h:KE A g L gc B H [UD ka ks.length kc,UF r.ok,UE UG r.g,UE UG r.t,UD aSD nSD cSD,UD aSU nSU cSU,UD aF mF cF,UD aD nD cD,UD aU nU cU,UE UO r.k,UD aT r.n cT,UE UG r.nx] 48 zs ps f d w) (hL:zs.length=L) (hk:Sp B g H w ks r ka aSD aSU aF aD aU aT nSD nSU mF nD nU) (hc:mF<=cF):∃ C,w.heap[A]?=UI (UP C 48 (0,0))/\JM B w C zs ps ks f d r:=by
 obtain⟨E,cv,qs,h1,h2,h3,h4,hr,ho,hp,hq,hn⟩:=h;obtain⟨ca,cc,rfl,hm⟩:=hp.mine;rw[hq] at hm;have hql:qs.length=ps.length:=by rw[<-hq];simp[Fr]
 rw[hql] at hr;subst hL;obtain⟨q1,q2,q3,q4,q5⟩:=Fc ho;obtain⟨g',c',e,_,_,_,_,q6⟩:=ho.at_;simp only[Value.slice.injEq] at e;rw[<-e.1] at q6;refine⟨_,hr,_,gc,ca,cc,ka,kc,aSD,nSD,cSD,aSU,nSU,cSU,aF,mF,cF,aD,nD,cD,aU,nU,cU,aT,cT,E,w.heap.size,rfl,⟨q3,hc⟩,⟨q4,q6,λad e=>by cases e;exact⟨q1,q2⟩⟩,hk.k,hk.l,⟨hk.i,λad e=>by cases e;exact hk.gk,hk.kk⟩,hm,AK,AY _,λ_=>⟨λad e=>by cases e;exact h1,λad e=>AG (hk.kH ad e),λj hj=>hk.iH j AK⟩⟩
end
theorem SQ (S D:Nat) (cs:Array UL) (Q:Ending->UK->Prop) (w:UK) (hS:w.heap[S]?=UI (UP cs 30 (0,0))) (hz:cs.size=4) (h:Calls Tryz.prog 58 #[UM (UI ⟨D,0,UJ⟩),UN cs] w Q) (hQ:∀ e w',Q e w'->e=UQ (.tuple #[])\/e=LT) :
  Calls Tryz.prog 119 #[UM (UI ⟨D,0,UJ⟩),UM (UI ⟨S,0,UJ⟩)] w Q:=by
 have HS:=Cq hS;have HZ:AP ((Tryz.prog.info? 30).map (·.size)=UI cs.size):=by show _=_;rw[hz];kernel_rfl
 have HH:=Cq h;have HQ:=Cq hQ;clear hS hz h hQ;go_enter Tryz.func119,Tryz.ntmps119;go_wp2_with (first
  |(refine Ab rfl 30 (UT 1) rfl S rfl 30 cs (0,0) _ HS.o Tryz.underlying30 rfl HZ.o ?_)
  |fail)
 refine HH.o.mono ?_;intro e w' hq;rcases HQ.o e w' hq with rfl|rfl
 ·have HF:=Cq hq;clear hq HS HZ HH HQ;go_wp2_with fail
  first|go_end0|go_ret
  exact HF.o
 ·exact⟨rfl,hq⟩
theorem Pu (A R:Nat) (w:UK):CallsD Tryz.prog 153 #[UM (UI ⟨A,0,UJ⟩),UM (UI ⟨R,0,UJ⟩)] .returning w λe u' w'=>e=UQ (.tuple #[])/\u'=.returning/\Below w.heap.size w w':=by
 refine callsD_of_wpS Tryz.func153 rfl λc₀ cs hu=>?_
 apply wpS_seq;apply wpS_region;simp[wpOpsS,go_sem,recoverD,hu,Tryz.ntmps153,Exit.thenS];refine(RT w).mono ?_;rintro e w' ⟨rfl,hb⟩;refine wpS_cond (t:=false) (by simp[Act.eval,Array.replicate]) ?_;simp only[Bool.false_eq_true,if_false];refine wpS_of_wp (wp_skip ?_);exact⟨rfl,.returning,by rw[<-hu],.tuple #[],results_none rfl _ _ _,rfl,rfl,hb⟩
theorem Pv (A R:Nat) (C old:Array UL) (w:UK) (hA:w.heap[A]?=UI (UP C 48 (0,0))) (hC:C.size=16) (h1:C.all (·.oneCell')=true) (hR:w.heap[R]?=UI (UP old 50 (0,0))) (hO:old.size=17) :
  CallsD Tryz.prog 153 #[UM (UI ⟨A,0,UJ⟩),UM (UI ⟨R,0,UJ⟩)] (.panicking [{ v:=Hy,recovered:=false }]) w λe u' w'=>e=UQ (.tuple #[])/\u'=.panicking [{ v:=Hy,recovered:=true }]/\∃ w1,Below w.heap.size w w1/\w1.heap[R]?=UI (UP old 50 (0,0))/\w'=w1.setRow R (#[UE UO 11]++C):=by
 have hAl:=(AQ.1 hA).1;have hRl:=(AQ.1 hR).1;refine callsD_of_wpS Tryz.func153 rfl λc₀ cs hu=>?_
 unfold Hy at *;apply wpS_seq;apply wpS_region;simp[wpOpsS,go_sem,recoverD,hu,Tryz.ntmps153,Exit.thenS];refine(Pn w).mono ?_;rintro e w' ⟨rfl,hb⟩;refine wpS_cond (t:=true) (by simp[Act.eval,Array.replicate]) ?_;simp only[if_true];refine wpS_of_wp ?_;have HA:AP (w'.heap[A]?=UI (UP C 48 (0,0))/\w'.heap[R]?=UI (UP old 50 (0,0))):=⟨by rw[hb.block _ hAl];exact hA,by rw[hb.block _ hRl];exact hR⟩
 have HX:AP ((Tryz.prog.info? 48).map (·.size)=UI C.size/\C.size=16):=⟨by rw[hC];exact Tryz.sizeG,hC⟩
 obtain⟨X,hX⟩:∃ X,#[UE UO 11]++C=X:=⟨_,rfl⟩
 have hXs:X.size=17:=by rw[<-hX,Array.size_append,hC];rfl
 have HXX:AP (#[UE UO 11]++C=X/\(Tryz.prog.info? 50).map (·.size)=UI X.size/\old.size=X.size/\X.all (·.oneCell')=true):=⟨hX,by rw[hXs];exact Tryz.sizeR,by rw[hXs];exact hO,by rw[<-hX,Array.all_append,h1];simp[Value.oneCell']⟩
 have HB:=Cq hb;clear hA hC h1 hR hO hb hAl hRl hX hXs;go_wp2_with (first
  |(refine Ab rfl 48 (UT 0) rfl A rfl 48 C (0,0) _ HA.o.1 Tryz.underlying48 rfl HX.o.1 ?_)
  |(refine EK rfl _ (UT 4) rfl 11 C rfl rfl HX.o.2 ?_;rw[HXX.o.1])
  |(refine AC 50 (UT 1) (UT 5) R X 50 HA.o.2 HXX.o.2.1 HXX.o.2.2.1 HXX.o.2.2.2 ?_)
  |fail)
 refine⟨rfl,_,rfl,.tuple #[],results_none rfl _ _ _,rfl,rfl,w',HB.o,HA.o.2,?_⟩;rw[HXX.o.1]
abbrev DO:=List Int×List PD×Int×Bool
noncomputable def SR (r:Dt) (o:DO):Dt:=if o.2.2.2 then r else Ez o.1 o.2.1 o.2.2.1
def TM (c:Int) (o:DO):Int:=if o.2.2.2 then 11 else c
theorem N3 {w:UK} {b:Nat} {C:Array UL} {t:TypeId} (h:w.heap[b]?=UI (UP C t (0,0))) (o n:Nat) (hn:o+n<=C.size):w.there b o n:=λj hj=>
 ⟨by rw[AA h (o+j)];simp;omega,Ag w b (o+j) _ _ h⟩
theorem N4 {w:UK} {b o:Nat} {xs ys:List UL} (h1:w.rangeAt b o xs) (h2:w.rangeAt b (o+xs.length) ys):w.rangeAt b o (xs++ys):=λj v hv=>by
 by_cases hj:j<xs.length
 ·rw[A0 hj] at hv;exact h1 j v hv
 ·rw[Am AK] at hv;have:=h2 _ v hv
  rwa [show o+xs.length+(j-xs.length)=o+j by omega] at this
theorem EF.keepN {lo:Nat} {w w':UK} {a:Option Addr} {zs:List Int} (h:EF lo w a zs) (hs:w.heap.size<=w'.heap.size) (hb:∀ ad,a=UI ad->w'.heap[ad.block]?=w.heap[ad.block]?):EF lo w' a zs:=⟨h.1.keep hb hs,h.2.1.keep hb hs,λad e=>AG (h.2.2 ad e)⟩
theorem SS {B g L gc kc:Nat} {w:UK} {zs ks:List Int} {f:Int} {d:Bool} {r:Dt} {ka aSD aSU aF aD aU aT:Option Addr} {nSD cSD nSU cSU mF cF nD cD nU cU cT b1 b2:Nat} (o:DT w B (UD (UI ⟨g,0,UJ⟩) L gc) zs) (hL:zs.length=L) (k:EF B w ka ks) (i:I6 B b1 b2 w aSD aSU aF aD aU aT nSD nSU mF nD nU r.n) (l:KO w aSD aSU aF aD aU aT nSD nSU mF nD nU r) (n1:DG g ka) (n2:N6 g aSD aSU aF aD aU aT) (n3:∀ ad,ka=UI ad->N6 ad.block aSD aSU aF aD aU aT) (hc:mF<=cF) :
  GP B w #[UD (UI ⟨g,0,UJ⟩) L gc,UD UJ 0 0,UE UO f,UF d,UD ka ks.length kc,UF r.ok,UE UG r.g,UE UG r.t,UD aSD nSD cSD,UD aSU nSU cSU,UD aF mF cF,UD aD nD cD,UD aU nU cU,UE UO r.k,UD aT r.n cT,UE UG r.nx] zs ks f d r:=by
 subst hL;obtain⟨q1,q2,q3,q4,q5⟩:=Fc o;obtain⟨g',c',e,_,_,_,_,q6⟩:=o.at_;simp only[Value.slice.injEq] at e;rw[<-e.1] at q6;exact⟨_,gc,UJ,0,ka,kc,aSD,nSD,cSD,aSU,nSU,cSU,aF,mF,cF,aD,nD,cD,aU,nU,cU,aT,cT,rfl,⟨q3,hc⟩,⟨q4,q6,λad e=>by cases e;exact⟨q1,q2⟩⟩,k,l,⟨b1,b2,i⟩,λad e=>by cases e;exact⟨n1,n2⟩,n3⟩
theorem RV {lo:Nat} (G S:Nat) (C cs:Array UL) (c:Int) (zs ks:List Int) (f:Int) (r:Dt) (o:DO) (w:UK) (hG:w.heap[G]?=UI (UP C 48 (0,0))) (h:GL lo w C zs ks f false r) (hb:Eu r) (hz:zs.length<=1048576) (hz0:0<zs.length) (hk:ks.length<=1048576)
  (hS:w.heap[S]?=UI (UP cs 30 (0,0))) (hcs:cs.size=4) (ho:o.2.2.2=false->o.2.1=[]) (hol:o.1.length=zs.length) (bz:Cu o.1)
  (hW:∀(D g gc B H:Nat) (X:List UL) (ww:UK),Below w.heap.size w ww->KE D g zs.length gc B H X 48 zs [] f false ww->D≠g->Calls Tryz.prog 58 #[UM (UI ⟨D,0,UJ⟩),UN cs] ww (TJ D g zs.length gc B H X 48 o ww)) :
  Calls Tryz.prog 118 #[UM (UI ⟨G,0,UJ⟩),UE UO c,.func (Fn.func 119) #[] #[UM (UI ⟨S,0,UJ⟩)]] w λe w'=>∃ X,e=UQ (UN X)/\IW w.heap.size w' X (TM c o) o.1 o.2.1 ks o.2.2.1 o.2.2.2 (SR r o)/\Below w.heap.size w w':=by
 have hmf:∀(fn:Fn) (first cap:Array UL) (w:UK),(Instr.makeFunc fn first cap).run Tryz.prog w=.ok (.func fn first cap) w:=λ_ _ _ _=>rfl
 have HO0:AP (OE w 50 ER (w.alloc (UP ER 50))):=OE.start _ _ _;have HG:=Cq (Ac hG h.row.1);have HSG:AP ((Tryz.prog.info? 48).map (·.size)=UI C.size):=by show _=_;rw[h.row.1];exact Tryz.sizeG
 have HCP:=Cq (λww (b:Below w.heap.size w ww)=>Mv C zs ks f false r ww (h.below b) hb hz hk);have HL:AP (G<w.heap.size/\S<w.heap.size):=⟨(AQ.1 hG).1,(AQ.1 hS).1⟩
 have HS:=Cq (Ac hS hcs);have HW:=Cq hW;have HZ:=Cq (Ac hz (Ac hz0 (Ac ho (Ac hol bz))));clear hG h hb hz hk hS hcs hW hz0 ho hol bz
 go_enter_defers Tryz.func118,Tryz.ntmps118
 go_upto_region 1 with fail
 change Code.wp _ _ _ _ (w.alloc (UP ER 50));generalize w.alloc (UP ER 50)=w1 at *;have HG1:AP (w1.heap[G]?=UI (UP C 48 (0,0))):=by show _=_;rw[HO0.o.below.block _ HL.o.1];exact HG.o.1
 go_wp2_with (first
  |(refine Ab rfl 48 (UT 9) rfl G rfl 48 C (0,0) _ HG1.o Tryz.underlying48 rfl HSG.o ?_)
  |fail)
 refine(HCP.o w1 HO0.o.below).mono ?_;rintro e w2 ⟨C',rfl,g2,hb2⟩;obtain⟨g,gc,ka,kc,aSD,nSD,cSD,aSU,nSU,cSU,aF,mF,cF,aD,nD,cD,aU,nU,cU,aT,cT,hC,own2,ki2,hcF⟩:=RU g2 HZ.o.2.1;have b3:Below w2.heap.size w2 (w2.alloc (UP C' 48)):=Cs.alloc Cw _;have hg2:=(Fc own2).2.1;have HO3:AP (OE w 50 ER (w2.alloc (UP C' 48))):=(HO0.o.call hb2).call b3;have HZ2:AP ((w2.alloc (UP Ci 48)).heap[w2.heap.size]?=UI (UP Ci 48 (0,0))/\(Tryz.prog.info? 48).map (·.size)=UI C'.size/\(Ci:Array UL).size=C'.size/\C'.all (·.oneCell')=true):=⟨AV w2 _,by rw[g2.1.gl.row.1];exact Tryz.sizeG,by rw[g2.1.gl.row.1];rfl,g2.1.gl.row.2⟩
 have HD3:AP (KE w2.heap.size g zs.length gc w1.heap.size w2.heap.size [UD ka ks.length kc,UF r.ok,UE UG r.g,UE UG r.t,UD aSD nSD cSD,UD aSU nSU cSU,UD aF mF cF,UD aD nD cD,UD aU nU cU,UE UO r.k,UD aT r.n cT,UE UG r.nx] 48 zs [] f false (w2.alloc (UP C' 48))):=⟨w2.heap.size+1,_,[],AK,AK,AK,AM,by rw[AV w2 _,hC],own2.grow b3,Dk.nil _ _,rfl,λ_=>rfl⟩
 have HK3:AP (Sp w1.heap.size g w2.heap.size (w2.alloc (UP C' 48)) ks r ka aSD aSU aF aD aU aT nSD nSU mF nD nU):=ki2.yr (A:=w2.heap.size) (YR.of_below b3) (.inl Cw);have HN3:AP (DG w2.heap.size ka/\N6 w2.heap.size aSD aSU aF aD aU aT):=⟨λad e=>AG (ki2.kH ad e),ki2.iH _ Cw⟩
 have HQ:AP (w.heap.size<w1.heap.size/\w1.heap.size<=w2.heap.size/\g<w2.heap.size/\w1.heap.size<=g):=⟨HO0.o.lt,hb2.size,hg2,(Fc own2).1⟩
 have HCF:=Cq hcF;clear hcF hb2 g2 hC own2 ki2 b3 hg2 HO0 HG HSG HCP HG1
 go_upto_region 2 with (first
  |(refine AC 48 (UT 7) (UT 11) w2.heap.size C' 48 HZ2.o.1 HZ2.o.2.1 HZ2.o.2.2.1 HZ2.o.2.2.2 ?_)
  |fail)
 rw[World.setRow_alloc_new];clear HZ2;generalize w2.alloc (UP C' 48)=w3 at *;generalize w2.heap.size=A at *;go_wp2_with fail;have HCL:=SQ S A cs (TJ A g zs.length gc w1.heap.size A [UD ka ks.length kc,UF r.ok,UE UG r.g,UE UG r.t,UD aSD nSD cSD,UD aSU nSU cSU,UD aF mF cF,UD aD nD cD,UD aU nU cU,UE UO r.k,UD aT r.n cT,UE UG r.nx] 48 o w3) w3 (by rw[HO3.o.below.block _ HL.o.2];exact HS.o.1) HS.o.2 (HW.o A g gc w1.heap.size A [UD ka ks.length kc,UF r.ok,UE UG r.g,UE UG r.t,UD aSD nSD cSD,UD aSU nSU cSU,UD aF mF cF,UD aD nD cD,UD aU nU cU,UE UO r.k,UD aT r.n cT,UE UG r.nx] w3 HO3.o.below HD3.o (AG HQ.o)) (λe w' hq=>by rw[hq.1];unfold T0;cases o.2.2.2<;>simp);refine HCL.mono ?_;clear HCL HD3;rintro e w4 ⟨he,d4,y4⟩;have k4:=HK3.o.yr y4 (.inr HN3.o);have R4:w4.heap[w.heap.size]?=UI (UP ER 50 (0,0)):=by rw[y4.block _ HO3.o.lt (AG HQ.o) (AG HQ.o)];exact HO3.o.b0
 have B4:Below w.heap.size w w4:=HO3.o.below.trans (y4.below (AG HQ.o) (AG HQ.o) HO3.o.below.size);obtain⟨z9,p9,f9,d9⟩:=o;have hol:z9.length=zs.length:=HZ.o.2.2.2.1;cases d9 with
 |true=>
  obtain rfl:e=LT:=he;obtain⟨C4,r4,q4⟩:=SP d4 hol k4 HCF.o;refine leaves_cons (f:=153) (args:=#[UM (UI ⟨A,0,UJ⟩),UM (UI ⟨w.heap.size,0,UJ⟩)]) AM (by simp[go_sem]) ?_;refine(Pv A w.heap.size C4 ER w4 r4 q4.row.1 q4.row.2 R4 rfl).mono ?_;rintro e u' w5 ⟨rfl,rfl,w6,b6,hR6,rfl⟩;obtain⟨X,hX,hR⟩:=I9 (c:=11) (q4.below b6);rw[hX];refine⟨UN X,AW rfl _ _ w.heap.size 50 _ (0,0) _ rfl (AB hR6) Tryz.underlying50 rfl (by rw[hR.row.1];exact Tryz.sizeR),X,rfl,hR.put HQ.o.1,(B4.trans (b6.mono B4.size)).trans ((Wr.setRow _ _ _).below Cw)⟩
 |false=>
  obtain rfl:e=UQ (.tuple #[]):=he;obtain rfl:p9=[]:=HZ.o.2.2.1 rfl;obtain⟨E,cv,qs,h1,h2,h3,h4,hr,ho,hp,hq,hn⟩:=d4;obtain rfl:=hn rfl;have o4:=Fc ho;have HI:=Cq (Ml (UI ⟨g,0,UJ⟩) UJ zs.length gc 0 0 f9 false z9 [] w4 hol rfl o4.2.2.2.1 (.inl rfl) (by rw[<-hol];exact o4.2.2.1) HZ.o.1 AL AM HZ.o.2.2.2.2 (by simp[Cu]));have HR4:AP (w4.heap[A]?=UI (UP #[UD (UI ⟨g,0,UJ⟩) zs.length gc,UD UJ 0 0,UE UO f9,UF false,UD ka ks.length kc,UF r.ok,UE UG r.g,UE UG r.t,UD aSD nSD cSD,UD aSU nSU cSU,UD aF mF cF,UD aD nD cD,UD aU nU cU,UE UO r.k,UD aT r.n cT,UE UG r.nx] 48 (0,0))/\A<w4.heap.size):=⟨hr,(AQ.1 hr).1⟩
  have HM4:AP (w4.rangeAt A 0 [UD (UI ⟨g,0,UJ⟩) zs.length gc,UD UJ 0 0,UE UO f9,UF false]):=FP hr 0 _ rfl;have HO4:=Cq ho;have HK4:=Cq k4;have HB4:=Cq (Ac R4 B4);have HSD:AP ((Tryz.prog.info? 40).map (·.size)=UI 4):=by show _=_;kernel_rfl
  have HSI:AP ((Tryz.prog.info? 36).map (·.size)=UI 11):=by show _=_;kernel_rfl
  clear k4 R4 B4 hol h1 h2 h3 h4 hr ho hp hq hn o4 y4 HO3 HK3;go_wp2_with (first
   |(refine wpList_load_mid rfl 40 (UT 16) rfl A 0 rfl [UD (UI ⟨g,0,UJ⟩) zs.length gc,UD UJ 0 0,UE UO f9,UF false] _ HM4.o Tryz.underlying40 rfl HSD.o ?_)
   |fail)
  refine HI.o.mono ?_;rintro e w5 ⟨v,rfl,hI,hb5⟩;obtain⟨q,hq9⟩:∃ q,Ez z9 [] f9=q:=⟨_,rfl⟩
  rw[hq9] at hI;have HQ9:=Cq hq9;clear hq9;obtain⟨pSD,kSD,lSD,pSU,kSU,lSU,pF,kF,lF,pD,kD,lD,pU,kU,lU,pT,lT,b1,b2,rfl,i5,l5,c5⟩:=hI.six2;have hr5:w5.heap[A]?=UI (UP #[UD (UI ⟨g,0,UJ⟩) zs.length gc,UD UJ 0 0,UE UO f9,UF false,UD ka ks.length kc,UF r.ok,UE UG r.g,UE UG r.t,UD aSD nSD cSD,UD aSU nSU cSU,UD aF mF cF,UD aD nD cD,UD aU nU cU,UE UO r.k,UD aT r.n cT,UE UG r.nx] 48 (0,0)):=by rw[hb5.block _ HR4.o.2];exact HR4.o.1
  have th5:w5.there A 5 11:=N3 hr5 5 11 AM;have HTH:=Cq th5;have HRG:AP ((w5.setCells A 5 [UF q.ok,UE UG q.g,UE UG q.t,UD pSD kSD lSD,UD pSU kSU lSU,UD pF kF lF,UD pD kD lD,UD pU kU lU,UE UO q.k,UD pT q.n lT,UE UG q.nx]).rangeAt A 0 [UD (UI ⟨g,0,UJ⟩) zs.length gc,UD UJ 0 0,UE UO f9,UF false,UD ka ks.length kc,UF q.ok,UE UG q.g,UE UG q.t,UD pSD kSD lSD,UD pSU kSU lSU,UD pF kF lF,UD pD kD lD,UD pU kU lU,UE UO q.k,UD pT q.n lT,UE UG q.nx]):=N4 (World.rangeAt_setCells_apart (FP hr5 0 [UD (UI ⟨g,0,UJ⟩) zs.length gc,UD UJ 0 0,UE UO f9,UF false,UD ka ks.length kc] rfl) A 5 _ (.inr (.inl AM))) (World.rangeAt_setCells_same w5 A 5 _ th5);have hw:=Wr.setCells A [UF q.ok,UE UG q.g,UE UG q.t,UD pSD kSD lSD,UD pSU kSU lSU,UD pF kF lF,UD pD kD lD,UD pU kU lU,UE UO q.k,UD pT q.n lT,UE UG q.nx] 5 w5;have hgA:g<A:=AG HQ.o
  have hAl:=HR4.o.2;have n6:∀ j,j<w4.heap.size->N6 j pSD pSU pF pD pU pT:=λj hj=>by
   obtain⟨l1,l2,l3,l4,l5,l6⟩:=i5.l6;exact⟨λad e=>AG (l1 ad e),λad e=>AG (l2 ad e),λad e=>AG (l3 ad e),λad e=>AG (l4 ad e),λad e=>AG (l5 ad e),λad e=>AG (l6 ad e)⟩
  have hP:GP w1.heap.size (w5.setCells A 5 [UF q.ok,UE UG q.g,UE UG q.t,UD pSD kSD lSD,UD pSU kSU lSU,UD pF kF lF,UD pD kD lD,UD pU kU lU,UE UO q.k,UD pT q.n lT,UE UG q.nx]) [UD (UI ⟨g,0,UJ⟩) zs.length gc,UD UJ 0 0,UE UO f9,UF false,UD ka ks.length kc,UF q.ok,UE UG q.g,UE UG q.t,UD pSD kSD lSD,UD pSU kSU lSU,UD pF kF lF,UD pD kD lD,UD pU kU lU,UE UO q.k,UD pT q.n lT,UE UG q.nx].toArray z9 ks f9 false q:=by
   have i6:=(i5.keep (Aw hw.size.symm) (λk hk _=>hw.block k AK))
   refine SS ((HO4.o.grow hb5).keep (λk e=>hw.block k (by simp[Value.ownBlock] at e;omega))) HZ.o.2.2.2.1 ((HK4.o.k.below hb5).keepN (Aw hw.size.symm) (λad e=>hw.block _ (λe2=>HN3.o.1 ad e e2.symm))) (i6.low (AG HQ.o)) (l5.keep i5.l6 (Aw hw.size.symm) (λk hk _=>hw.block k AK)) HK4.o.gk.1 (n6 g AK) (λad e=>n6 _ (AG (HK4.o.k.2.2 ad e).2)) c5
  have HB6:AP ((w5.setCells A 5 [UF q.ok,UE UG q.g,UE UG q.t,UD pSD kSD lSD,UD pSU kSU lSU,UD pF kF lF,UD pD kD lD,UD pU kU lU,UE UO q.k,UD pT q.n lT,UE UG q.nx]).heap[w.heap.size]?=UI (UP ER 50 (0,0))/\Below w.heap.size w (w5.setCells A 5 [UF q.ok,UE UG q.g,UE UG q.t,UD pSD kSD lSD,UD pSU kSU lSU,UD pF kF lF,UD pD kD lD,UD pU kU lU,UE UO q.k,UD pT q.n lT,UE UG q.nx])):=⟨by rw[hw.block _ (AG HQ.o),hb5.block _ (AQ.1 HB4.o.1).1];exact HB4.o.1,(HB4.o.2.trans (hb5.mono HB4.o.2.size)).trans (hw.below (AG HQ.o))⟩
  obtain⟨X,hX,hR⟩:=I9 (c:=c) (hP.gq (by rw[hw.size];have:=hb5.size;have:=HQ.o;omega));have HRQ:=Cq hR;have HXX:AP (#[UE UO c]++[UD (UI ⟨g,0,UJ⟩) zs.length gc,UD UJ 0 0,UE UO f9,UF false,UD ka ks.length kc,UF q.ok,UE UG q.g,UE UG q.t,UD pSD kSD lSD,UD pSU kSU lSU,UD pF kF lF,UD pD kD lD,UD pU kU lU,UE UO q.k,UD pT q.n lT,UE UG q.nx].toArray=X/\(Tryz.prog.info? 50).map (·.size)=UI X.size/\ER.size=X.size/\X.all (·.oneCell')=true):=⟨hX,by rw[hR.row.1];exact Tryz.sizeR,by rw[hR.row.1];rfl,hR.row.2⟩
  clear c5 hr5 th5 hw hgA hAl n6 hP hX hR i5 l5 hb5 hI HI HR4 HM4 HO4 HK4 HB4
  go_upto_region 5 with (first
   |(refine wpList_store_mid rfl 36 (UT 19) (UT 18) rfl A 5 #[UF q.ok,UE UG q.g,UE UG q.t,UD pSD kSD lSD,UD pSU kSU lSU,UD pF kF lF,UD pD kD lD,UD pU kU lU,UE UO q.k,UD pT q.n lT,UE UG q.nx] rfl rfl HTH.o HSI.o (by simp[Value.oneCell']) ?_)
   |fail)
  try dsimp only[]
  generalize w5.setCells A 5 [UF q.ok,UE UG q.g,UE UG q.t,UD pSD kSD lSD,UD pSU kSU lSU,UD pF kF lF,UD pD kD lD,UD pU kU lU,UE UO q.k,UD pT q.n lT,UE UG q.nx]=w6 at *;go_wp2_with (first
   |(refine wpList_load_mid rfl 48 (UT 7) rfl A 0 rfl [UD (UI ⟨g,0,UJ⟩) zs.length gc,UD UJ 0 0,UE UO f9,UF false,UD ka ks.length kc,UF q.ok,UE UG q.g,UE UG q.t,UD pSD kSD lSD,UD pSU kSU lSU,UD pF kF lF,UD pD kD lD,UD pU kU lU,UE UO q.k,UD pT q.n lT,UE UG q.nx] _ HRG.o Tryz.underlying48 rfl Tryz.sizeG ?_)
   |(refine EK rfl (UT 20) (UT 21) rfl c [UD (UI ⟨g,0,UJ⟩) zs.length gc,UD UJ 0 0,UE UO f9,UF false,UD ka ks.length kc,UF q.ok,UE UG q.g,UE UG q.t,UD pSD kSD lSD,UD pSU kSU lSU,UD pF kF lF,UD pD kD lD,UD pU kU lU,UE UO q.k,UD pT q.n lT,UE UG q.nx].toArray rfl rfl rfl ?_;rw[HXX.o.1])
   |(refine AC 50 (UT 6) (UT 22) w.heap.size X 50 HB6.o.1 HXX.o.2.1 HXX.o.2.2.1 HXX.o.2.2.2 ?_)
   |fail)
  refine leaves_cons (f:=153) (args:=#[UM (UI ⟨A,0,UJ⟩),UM (UI ⟨w.heap.size,0,UJ⟩)]) AM (by simp[go_sem]) ?_;refine(Pu A w.heap.size _).mono ?_;rintro e u' w7 ⟨rfl,rfl,hb7⟩;have hr7:w7.heap[w.heap.size]?=UI (UP X 50 (0,0)):=by rw[hb7.block _ (by rw[BP];exact(AQ.1 HB6.o.1).1)];exact AB HB6.o.1
  exact⟨UN X,AW rfl _ _ w.heap.size 50 _ (0,0) _ rfl hr7 Tryz.underlying50 rfl HXX.o.2.1,X,rfl,by rw[show SR r (z9,[],f9,false)=q from HQ9.o];exact(HRQ.o.put HQ.o.1).below hb7,(HB6.o.2.trans ((Wr.setRow _ _ _).below Cw)).trans (hb7.mono (by rw[BP];exact HB6.o.2.size))⟩
end Go.Proofs.YthmeoilbmfdhfaaGreat
