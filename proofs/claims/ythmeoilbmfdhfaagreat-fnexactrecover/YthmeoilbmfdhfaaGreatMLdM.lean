import Derived.Test.YthmeoilbmfdhfaaGreatLdG
import Derived.Test.YthmeoilbmfdhfaaGreatMEqSn
open Go.Value renaming slice->UD,int->UE,pointer->UM,bool->UF,agg->UN
open Go.IntKind renaming i64->UO,u32->UG
open Go.Obj renaming cells->UP
open Go.Ending renaming returned->UQ
open Go.Ground renaming data->UR
open Go.Operand renaming tmp->UT
open Option renaming some->UI,none->UJ
open Go renaming World->UK,Value->UL
namespace Go.Proofs.YthmeoilbmfdhfaaGreat
set_option maxHeartbeats 4000000
set_option maxRecDepth 100000
open Go.ChangeShapes Go.WideShapes Go.ChangeAt Go.RowKit
set_option linter.unusedVariables false
structure Dt where
 ok:Bool
 g:Int
 t:Int
 sD:List Int
 sU:List Int
 F:List Int
 D:List Int
 U:List Int
 k:Int
 T:List Int
 n:Nat
 nx:Int
def Et:Dt:=⟨false,0,0,[],[],[],[],[],0,[],0,0⟩
noncomputable def I4 (s:K6) (F:List Int):GN:=EE ⟨true,s.D,s.U,(s.U.length:Int),[],0⟩ F (F.length/4)
open Classical in
noncomputable def Nr (s:K6) (F:List Int):Dt:=
 if(I4 s F).ok=true then ⟨true,s.g,s.t,s.D,s.U,F,(I4 s F).D,(I4 s F).U,(I4 s F).k,(I4 s F).T,(I4 s F).n,s.t+((F.length/4:Nat):Int)⟩ else Et
open Classical in
noncomputable def Pa (zs:List Int) (ps:List PD) (J:Nat):Dt:=if(Eb zs ps 2).ok=true then Nr (Eb zs ps 2) (Fa zs ps J (Eb zs ps 2).t.toNat J) else Et
open Classical in
noncomputable def Ez (zs:List Int) (ps:List PD) (f:Int):Dt:=if C5 zs.length ps f=true then Pa zs ps (zs.length/64-4) else Et
theorem Q9 {zs:List Int} (h:(Fh zs).ok=true):Jb (Fh zs).g (Fh zs).t (Fh zs).D (Fh zs).U:=by
 by_cases hc:zs.length=128/\zs.getD 6 0<=16/\L0 zs=zs
 ·rw[J3 hc.1 hc.2.1 hc.2.2];by_cases hp:Jb (DD zs 0) (DD zs 8) (Fp zs (La zs)) (Lz zs)
  ·exact hp
  ·have e:L0 zs=[]:=by unfold L0 O5;rw[Eo hp];rfl
   rw[hc.2.2] at e;rw[e] at hc;simp at hc
 ·exfalso
  have e:Fh zs=Fg:=by unfold Fh;rw[AS hc]
  rw[e] at h;cases h
theorem RA {zs:List Int} {ps:List PD} {i:Nat} (h:(Gx zs ps i).ok=true):Jb (Gx zs ps i).g (Gx zs ps i).t (Gx zs ps i).D (Gx zs ps i).U:=by
 unfold Gx at h |-;split at h
 ·next hc=>rw[AR hc];exact Q9 hc.1
 ·cases h
theorem Hz {zs:List Int} {ps:List PD}:∀ q,(Eb zs ps q).ok=true->Jb (Eb zs ps q).g (Eb zs ps q).t (Eb zs ps q).D (Eb zs ps q).U
 |0,h=>by cases h
 |q+1,h=>by
  unfold Eb at h |-;split at h
  ·next hc=>rw[AR hc];exact RA hc.1
  ·next hc=>rw[AS hc];exact Hz q h
theorem Jb.st {gn tl:Int} {D U:List Int} (h:Jb gn tl D U):JE D U (U.length:Int) [] 0:=
 ⟨h.2.2.2.1,h.2.2.2.2.1,h.2.2.2.2.2,AK,AM,λi hi=>absurd hi AK⟩
theorem H3 (zs:List Int) (ps:List PD) (J:Nat) (hb:∀ q,Cu (KN zs ps J q)):∀ n q,QB (Fa zs ps J q n)
 |0,q=>λi hi=>by simp[Fa] at hi
 |n+1,q=>by
  unfold Fa;split
  ·intro i hi;have ih:=H3 zs ps J hb n (q+1);cases i with
   |zero=>
    have u2:=Dp _ (hb q) 8;have u3:=Dp _ (hb q) 12;exact⟨u2,u3⟩
   |succ i=>
    have hi':i*4+3<(Fa zs ps J (q+1) n).length:=by rw[Al,GG] at hi;omega
    have e:∀ j,(Sh (KN zs ps J q)++Fa zs ps J (q+1) n).getD (j+4) 0=(Fa zs ps J (q+1) n).getD j 0:=λj=>by
     rw[List.getD,List.getD,Am (by rw[GG];omega),GG,B7]
    rw[show(i+1)*4+2=i*4+2+4 by omega,show(i+1)*4+3=i*4+3+4 by omega,e,e];exact ih i hi'
  ·intro i hi;simp at hi
def MC (lo:Nat) (w:UK) (v:UL) (r:Dt):Prop:=∃ aSD nSD cSD aSU nSU cSU vF m aD nD cD aU nU cU aT cT b1 b2,
 v=UN #[UF r.ok,UE UG r.g,UE UG r.t,UD aSD nSD cSD,UD aSU nSU cSU,vF,UD aD nD cD,UD aU nU cU,UE UO r.k,UD aT r.n cT,UE UG r.nx]/\
 S3 lo w aSD aSU UJ nSD nSU 0 r.sD r.sU []/\(∀ ad,aSD=UI ad->ad.block<b1)/\(∀ ad,aSU=UI ad->ad.block<b1)/\FO b1 w vF r.F m/\(∀ k,vF.ownBlock=UI k->k<b2)/\S3 b2 w aD aU aT nD nU r.n r.D r.U r.T/\lo<=b1/\b1<=b2
theorem S3.nil (lo:Nat) (w:UK):S3 lo w UJ UJ UJ 0 0 0 [] [] []:=⟨.inl rfl,.inl rfl,.inl rfl,rfl,rfl,rfl,λ_ h=>(by cases h),λ_ h=>(by cases h),λ_ h=>(by cases h),λ_ _ h=>(by cases h),λ_ _ h=>(by cases h),λ_ _ h=>(by cases h)⟩
theorem FO.nil (B:Nat) (w:UK):FO B w (UD UJ 0 0) [] 0:=⟨rfl,.inl ⟨rfl,rfl⟩⟩
theorem MC.no (lo:Nat) (w:UK):MC lo w (UN Cg) Et:=
 ⟨UJ,0,0,UJ,0,0,UD UJ 0 0,0,UJ,0,0,UJ,0,0,UJ,0,lo,lo,rfl,S3.nil _ _,λ_ h=>(by cases h),λ_ h=>(by cases h),FO.nil _ _,λ_ h=>(by cases h),S3.nil _ _,AY _,AY _⟩
structure EY (w:UK) (cs zr:Array UL) (T:TypeId) (wr:UK):Prop where
 bel:Below w.heap.size w wr
 dev:wr.heap[w.heap.size]?=UI (UP cs 40 (0,0))
 res:wr.heap[w.heap.size+1]?=UI (UP zr T (0,0))
theorem EY.lt {w wr:UK} {cs zr:Array UL} {T:TypeId} (h:EY w cs zr T wr):w.heap.size+1<wr.heap.size:=(AQ.1 h.res).1
theorem EY.below {w wr w':UK} {cs zr:Array UL} {T:TypeId} (h:EY w cs zr T wr) (b:Below wr.heap.size wr w'):EY w cs zr T w':=by
 have:=h.lt;exact⟨h.bel.trans (b.mono h.bel.size),by rw[b.block _ AK];exact h.dev,by rw[b.block _ AK];exact h.res⟩
theorem EY.start (w:UK) (cs zr:Array UL) (T:TypeId):EY w cs zr T ((w.alloc (UP cs 40)).alloc (UP zr T)):=by
 refine⟨(Cs.alloc Cw _).alloc AM _,?_,?_⟩
 ·rw[BH _ _ w.heap.size AM];exact AV w _
 ·have:=AV (w.alloc (UP cs 40)) (UP zr T);rw[Bl] at this;exact this
def Ns (w:UK) (v:UL) (A B:List Int):Prop:=∃ q v1 v2,v=UD (UI ⟨q,0,UJ⟩) 2 2/\w.heap[q]?=UI (UP #[v1,v2] 22 (0,0))/\Cy w v1 A/\Cy w v2 B
theorem Ns.below {w w':UK} {v:UL} {A B:List Int} (h:Ns w v A B) (b:Below w.heap.size w w'):Ns w' v A B:=by
 obtain⟨q,v1,v2,e,h1,h2,h3⟩:=h;exact⟨q,v1,v2,e,by rw[b.block q (AQ.1 h1).1];exact h1,h2.below b,h3.below b⟩
theorem Tm (w:UK) (q:Nat) (v1 v2:UL) (A B:List Int) (hr:w.heap[q]?=UI (UP #[v1,v2] 22 (0,0))) (h1:Cy w v1 A) (h2:Cy w v2 B) (hl:A.length+B.length<=100000) :
  Calls Tryz.prog 70 #[UD (UI ⟨q,0,UJ⟩) 2 2] w λe w'=>∃ v,e=UQ v/\Cy w' v (A++B)/\Below w.heap.size w w':=by
 have hfl:[A,B].flatten=A++B:=AM
 have C:=F4 q 2 2 [v1,v2] [A,B] w rfl (AQ.1 hr).1
  (λi hi=>by
   rw[AA hr i]
   match i,hi with
   |0,_=>rfl
   |1,_=>rfl)
  (λi hi=>by
   match i,hi with
   |0,_=>exact h1
   |1,_=>exact h2)
  (by rw[hfl,Al];omega) AL
 rw[hfl] at C;refine C.mono ?_;rintro e w' ⟨v,rfl,O,b⟩;exact⟨v,rfl,O.part,b⟩
theorem I0.mono {lo lo':Nat} {w:UK} {v:UL} {r:K6} (h:I0 lo w v r) (hl:lo'<=lo):I0 lo' w v r:=by
 obtain⟨aD,nD,cD,aU,nU,cU,e,h1,h2,h3,h4,l1,l2⟩:=h;exact⟨aD,nD,cD,aU,nU,cU,e,h1,h2,h3,h4,l1.mono hl Cw,l2.mono hl Cw⟩
theorem At.wrB {w w':UK} {ad:Option Addr} {xs:List Int} {q:Nat} (h:At UO w ad xs) (hb:w.heap[q]?=UI (UP Ce 63 (0,0))) (hw:Wr q w w'):At UO w' ad xs:=by
 rcases h with h|⟨b,off,e,hl,hc⟩
 ·exact .inl h
 ·by_cases hx:xs=[]
  ·exact .inl hx
  ·refine .inr ⟨b,off,e,by rw[hw.size];exact hl,λi hi=>?_⟩;have hne:b≠q:=by
    rintro rfl;have h0:=hc 0 (List.length_pos_iff.2 hx);rw[AA hb _] at h0;have h5:off+0<5:=(AQ.1 h0).1;obtain rfl|rfl|rfl|rfl|rfl:off=0\/off=1\/off=2\/off=3\/off=4:=AK
    all_goals simp at h0
   rw[Aa (a:=⟨b,off+i,UJ⟩) (w:=w) (hw.block b hne)];exact hc i hi
def Si (lo:Nat) (w:UK) (v:UL):Prop:=∃ q,v=UM (UI ⟨q,0,UJ⟩)/\lo<=q/\w.heap[q]?=UI (UP Ce 63 (0,0))
theorem Si.below {lo:Nat} {w w':UK} {v:UL} (h:Si lo w v) (b:Below w.heap.size w w'):Si lo w' v:=by
 obtain⟨q,e,h1,h2⟩:=h;exact⟨q,e,h1,by rw[b.block q (AQ.1 h2).1];exact h2⟩
def Tn (p:Nat) (W:UK) (r:K6) (u:Nat->UL) (w:UK):Prop:=∃ q aD nD cD aU nU cU,u p=UM (UI ⟨q,0,UJ⟩)/\W.heap.size<=q/\w.heap[q]?=UI (UP #[UF r.ok,UE UG r.g,UE UG r.t,UD aD nD cD,UD aU nU cU] 63 (0,0))/\At UO w aD r.D/\At UO w aU r.U/\r.D.length=nD/\r.U.length=nU/\De W.heap.size w aD/\De W.heap.size w aU/\Below W.heap.size W w
theorem S0.prt {B:Nat} {w:UK} {v:UL} {zs:List Int} (h:S0 B w v zs) (hl:0<zs.length):Cy w v zs:=by
 obtain⟨ad,c,rfl,hA,_,_⟩:=h;obtain⟨b,off,rfl,hb,hc⟩:=hA.get hl;exact⟨b,off,c,rfl,hb,hc⟩
theorem SJ {a x:Option Addr} {Ln c m cx:Nat} {f:Int} {d:Bool} {zs:List Int} {ps:List PD} {w:UK} (F:JF Ln c m f zs ps) (hA:At .u8 w a zs) (hP:FY w x ps) (hL:Ln<=1048576) (hps:∀ i,(ps.getD i (0,[])).2.length<=1048576) (s:Nat) (hs:s<Ln/64) :
  Calls Tryz.prog 71 #[UN #[UD a Ln c,UD x m cx,UE UO f,UF d],UE UO (s:Int)] w λe w'=>∃ v,e=UQ v/\Cy w' v (Dw zs ps (s:Nat))/\Below w.heap.size w w':=by
 have hb:=F.base;have A:=Qc (UN #[UD a Ln c,UD x m cx,UE UO f,UF d]) zs ps f (s:Int) d w ⟨a,c,x,cx,by rw[F.hl,F.hm],hA,hP,by rw[F.hl];exact F.hc⟩ (by rw[F.hl];exact hL) (by rw[F.hm];omega) hps;have e:MS zs ps f (s:Int)=Dw zs ps (s:Nat):=by
  unfold MS;rw[AR];rw[F.hl];exact⟨F.hv,by unfold Gf;simp;omega⟩
 rw[e] at A;refine A.mono ?_;rintro e w' ⟨v,rfl,o,b⟩;exact⟨v,rfl,o.prt (by rw[(F.rd s AK).1];decide),b⟩
theorem LL (a x:Option Addr) (Ln c m cx:Nat) (f:Int) (d:Bool) (zs:List Int) (ps:List PD) (w:UK) (F:JF Ln c m f zs ps) (hA:At .u8 w a zs) (hP:FY w x ps) (hL:Ln<=1048576) (hps:∀ i,(ps.getD i (0,[])).2.length<=1048576) (ix:Nat) (hi:ix<2) :
  Calls Tryz.prog 28 #[UN #[UD a Ln c,UD x m cx,UE UO f,UF d],UE UO (ix:Int)] w λe w'=>∃ v,e=UQ v/\I0 w.heap.size w' v (Gx zs ps ix)/\Below w.heap.size w w':=by
 have HE0:=Cp (EY.start w #[UD a Ln c,UD x m cx,UE UO f,UF d] Ce 63);have HSD:AP ((Tryz.prog.info? 40).map (·.size)=UI 4):=by show _=_;kernel_rfl
 have HSR:AP ((Tryz.prog.info? 63).map (·.size)=UI 5):=by show _=_;kernel_rfl
 have hb:=F.base;have HR0:AP (∀ ww,Below w.heap.size w ww->Calls Tryz.prog 71 #[UN #[UD a Ln c,UD x m cx,UE UO f,UF d],UE UO (2*(ix:Int))] ww λe w'=>∃ v,e=UQ v/\Cy w' v (Dw zs ps (2*ix:Nat))/\Below ww.heap.size ww w'):=λww b=>by
  have:=SJ (d:=d) (cx:=cx) F (hA.below b) (hP.below b) hL hps (2*ix) AK;rw[show((2*ix:Nat):Int)=2*(ix:Int) by omega] at this;exact this
 have HR1:AP (∀ ww,Below w.heap.size w ww->Calls Tryz.prog 71 #[UN #[UD a Ln c,UD x m cx,UE UO f,UF d],UE UO (2*(ix:Int)+1)] ww λe w'=>∃ v,e=UQ v/\Cy w' v (Dw zs ps (2*ix+1:Nat))/\Below ww.heap.size ww w'):=λww b=>by
  have:=SJ (d:=d) (cx:=cx) F (hA.below b) (hP.below b) hL hps (2*ix+1) AK;rw[show((2*ix+1:Nat):Int)=2*(ix:Int)+1 by omega] at this;exact this
 have HLN2:=Cp (show((Dw zs ps (2*ix:Nat))++(Dw zs ps (2*ix+1:Nat))).length=128/\Cu ((Dw zs ps (2*ix:Nat))++(Dw zs ps (2*ix+1:Nat))) from F.sl ix hi);have HLN:AP (((Dw zs ps (2*ix:Nat))).length+((Dw zs ps (2*ix+1:Nat))).length<=100000):=by have:=HLN2.o.1;rw[Al] at this;show _<=_;omega
 obtain⟨r,hr⟩:∃ r,Fh ((Dw zs ps (2*ix:Nat))++(Dw zs ps (2*ix+1:Nat)))=r:=⟨_,rfl⟩
 have HDK:=Cp hr;have HU:AP (0<=r.g/\r.g<4294967296):=by rw[<-hr];exact KC HLN2.o.2
 have ew1:IntKind.i64.wrap (2*(ix:Int))=2*(ix:Int):=by rw[As];omega
 have ew2:IntKind.i64.wrap (2*(ix:Int)+1)=2*(ix:Int)+1:=by rw[As];omega
 clear F hA hP hps hb hr;go_enter Tryz.func28,Tryz.ntmps28
 go_upto_region 1 with fail
 generalize (w.alloc (UP #[UD a Ln c,UD x m cx,UE UO f,UF d] 40)).alloc (UP Ce 63)=w0 at *;refine Ae AN ?_;refine DF 13 (λ_ a b=>Below a.heap.size a b) (frame:=(λ(a b c d e f g h i j k l m n o p q r s:UL)=>λ(t:Nat->UL)=>({ tmps:=List.toArray [a,b,c,d,e,t 12,t 0,t 1,t 2,t 3,t 4,t 5,t 6,t 7,t 8,t 9,t 10,t 11,f,g,h,i,j,k,l,m,n,o,p,q,r,s],defers:=[] }:Act)) _ _ _ _ _ _ _ _ _ _ _ _ _ _ _ _ _ _ _)
  (Ext:=λL u w'=>Fo w0 [] L u w') (Good:=λi L w' v=>if i=0 then v=UN #[UD a Ln c,UD x m cx,UE UO f,UF d] else if i=1 then v=UE UO (ix:Int) else if i=2 then v=UE UO (2*(ix:Int)) else if i=3 then Cy w' v (Dw zs ps (2*ix:Nat)) else if i=4 then v=UN #[UD a Ln c,UD x m cx,UE UO f,UF d] else if i=5 then v=UE UO (ix:Int) else if i=6 then v=UE UO (2*(ix:Int)) else if i=7 then v=UE UO (2*(ix:Int)+1) else if i=8 then Cy w' v (Dw zs ps (2*ix+1:Nat)) else if i=9 then Ns w' v (Dw zs ps (2*ix:Nat)) (Dw zs ps (2*ix+1:Nat)) else if i=10 then Cy w' v ((Dw zs ps (2*ix:Nat))++(Dw zs ps (2*ix+1:Nat))) else if i=11 then I0 w0.heap.size w' v r else if i=12 then Si w0.heap.size w' v else True) (Fin:=Tn 12 w0 r) rfl AN ?hstab AN ?hop ?hend ?hdone _ _ ((λ(x0 x1 x2 x3 x4 x5 x6 x7 x8 x9 x10 x11 x12:UL)=>λ(i:Nat)=>if i=0 then x0 else if i=1 then x1 else if i=2 then x2 else if i=3 then x3 else if i=4 then x4 else if i=5 then x5 else if i=6 then x6 else if i=7 then x7 else if i=8 then x8 else if i=9 then x9 else if i=10 then x10 else if i=11 then x11 else if i=12 then x12 else undef) _ _ _ _ _ _ _ _ _ _ _ _ _) _ AM ?none ?ext AM
 case none=>exact λ_=>FJ
 case ext=>exact Fo.start w0 [] _ _ (λ_=>FJ) ⟨rfl,rfl,rfl,AY _,λ_ _=>rfl⟩
 case hstab=>
  intro j L w9 w' i v _ hM _ _ h;by_cases h3:j=3
  ·subst h3;simp at h |-;exact h.below hM
  by_cases h8:j=8
  ·subst h8;simp at h |-;exact h.below hM
  by_cases h9:j=9
  ·subst h9;simp at h |-;exact h.below hM
  by_cases h10:j=10
  ·subst h10;simp at h |-;exact h.below hM
  by_cases h11:j=11
  ·subst h11;simp at h |-;exact h.below hM
  by_cases h12:j=12
  ·subst h12;simp at h |-;exact h.below hM
  simp only[if_neg h3,if_neg h8,if_neg h9,if_neg h10,if_neg h11,if_neg h12] at h |-;exact h
 case hop=>
  intro i o L t w' hi ho hLi hx hdep K hK;obtain rfl|rfl|rfl|rfl|rfl|rfl|rfl|rfl|rfl|rfl|rfl|rfl|rfl:i=0\/i=1\/i=2\/i=3\/i=4\/i=5\/i=6\/i=7\/i=8\/i=9\/i=10\/i=11\/i=12:=AK
  all_goals(simp at ho;subst ho)
  ·clear hdep;have hr:w'.heap[w.heap.size]?=UI (UP #[UD a Ln c,UD x m cx,UE UO f,UF d] 40 (0,0)):=by rw[hx.below.block _ (AG HE0.o.lt)];exact HE0.o.dev
   have hK':=hK w' (UN #[UD a Ln c,UD x m cx,UE UO f,UF d]) AM (hx.step 0 _ Cs C7) Cs;clear hK;rw[AR AO];refine BL 40 (UT 2) rfl (w.heap.size) rfl 40 _ (0,0) _ hr Tryz.underlying40 rfl HSD.o ?_;simpa[Cr,Act.put] using hK'
  ·clear hdep;have hK':=hK w' (UE UO (ix:Int)) AM (hx.step 1 _ Cs C7) Cs;clear hK;rw[AR AO];go_simp;simpa[Cr,ew1,ew2] using hK'
  ·have d1:t 1=UE UO (ix:Int):=by simpa using(hdep ⟨1,UR⟩ AM rfl).2
   clear hdep;have hK':=hK w' (UE UO (2*(ix:Int))) AM (hx.step 2 _ Cs C7) Cs;clear hK;rw[AR AO];go_simp;simpa[Cr,d1,ew1,ew2] using hK'
  ·have d0:t 0=UN #[UD a Ln c,UD x m cx,UE UO f,UF d]:=by simpa using(hdep ⟨0,UR⟩ AM rfl).2
   have d2:t 2=UE UO (2*(ix:Int)):=by simpa using(hdep ⟨2,UR⟩ AM rfl).2
   clear hdep;have bw:Below w.heap.size w w':=HE0.o.bel.trans (hx.below.mono HE0.o.bel.size);have A:=HR0.o w' bw;have hK':∀ ww v,Cy ww v (Dw zs ps (2*ix:Nat))->Below w'.heap.size w' ww->K _ ww:=λww v hv hb=>hK ww v (by simpa using hv) (hx.step 3 v hb C7) hb
   clear hK;rw[AR AO];go_simp;try simp only[d0,d2]
   refine A.mono ?_;rintro e w9 ⟨v9,rfl,p9,hb9⟩;have hK2:=hK' w9 v9 p9 hb9;clear hK' A p9 hb9;go_simp;simpa[Cr,d0,d2] using hK2
  ·clear hdep;have hr:w'.heap[w.heap.size]?=UI (UP #[UD a Ln c,UD x m cx,UE UO f,UF d] 40 (0,0)):=by rw[hx.below.block _ (AG HE0.o.lt)];exact HE0.o.dev
   have hK':=hK w' (UN #[UD a Ln c,UD x m cx,UE UO f,UF d]) AM (hx.step 4 _ Cs C7) Cs;clear hK;rw[AR AO];refine BL 40 (UT 2) rfl (w.heap.size) rfl 40 _ (0,0) _ hr Tryz.underlying40 rfl HSD.o ?_;simpa[Cr,Act.put] using hK'
  ·clear hdep;have hK':=hK w' (UE UO (ix:Int)) AM (hx.step 5 _ Cs C7) Cs;clear hK;rw[AR AO];go_simp;simpa[Cr,ew1,ew2] using hK'
  ·have d5:t 5=UE UO (ix:Int):=by simpa using(hdep ⟨5,UR⟩ AM rfl).2
   clear hdep;have hK':=hK w' (UE UO (2*(ix:Int))) AM (hx.step 6 _ Cs C7) Cs;clear hK;rw[AR AO];go_simp;simpa[Cr,d5,ew1,ew2] using hK'
  ·have d6:t 6=UE UO (2*(ix:Int)):=by simpa using(hdep ⟨6,UR⟩ AM rfl).2
   clear hdep;have hK':=hK w' (UE UO (2*(ix:Int)+1)) AM (hx.step 7 _ Cs C7) Cs;clear hK;rw[AR AO];go_simp;simpa[Cr,d6,ew1,ew2] using hK'
  ·have d4:t 4=UN #[UD a Ln c,UD x m cx,UE UO f,UF d]:=by simpa using(hdep ⟨4,UR⟩ AM rfl).2
   have d7:t 7=UE UO (2*(ix:Int)+1):=by simpa using(hdep ⟨7,UR⟩ AM rfl).2
   clear hdep;have bw:Below w.heap.size w w':=HE0.o.bel.trans (hx.below.mono HE0.o.bel.size);have A:=HR1.o w' bw;have hK':∀ ww v,Cy ww v (Dw zs ps (2*ix+1:Nat))->Below w'.heap.size w' ww->K _ ww:=λww v hv hb=>hK ww v (by simpa using hv) (hx.step 8 v hb C7) hb
   clear hK;rw[AR AO];go_simp;try simp only[d4,d7]
   refine A.mono ?_;rintro e w9 ⟨v9,rfl,p9,hb9⟩;have hK2:=hK' w9 v9 p9 hb9;clear hK' A p9 hb9;go_simp;simpa[Cr,d4,d7] using hK2
  ·have f3:Cy w' (t 3) (Dw zs ps (2*ix:Nat)):=by simpa using(hdep ⟨3,UR⟩ AM rfl).2
   have f8:Cy w' (t 8) (Dw zs ps (2*ix+1:Nat)):=by simpa using(hdep ⟨8,UR⟩ AM rfl).2
   clear hdep;refine Exists.elim f3 λg3 hh=>?_
   obtain⟨o3,c3,d3,q1,q2⟩:=hh;refine Exists.elim f8 λg8 hh'=>?_
   obtain⟨o8,c8,d8,q3,q4⟩:=hh';have bb:Below w'.heap.size w' (w'.alloc (UP #[t 3,t 8] 22)):=Cs.alloc Cw _;have hct:Ns (w'.alloc (UP #[t 3,t 8] 22)) (UD (UI ⟨w'.heap.size,0,UJ⟩) 2 2) (Dw zs ps (2*ix:Nat)) (Dw zs ps (2*ix+1:Nat)):=⟨w'.heap.size,t 3,t 8,rfl,AV w' _,f3.below bb,f8.below bb⟩
   have hK':=hK (w'.alloc (UP #[t 3,t 8] 22)) (UD (UI ⟨w'.heap.size,0,UJ⟩) 2 2) (by simpa using hct) (hx.step 9 _ bb C7) bb;clear hK bb hct q2 q4;rw[AR AO];go_simp;simpa[Cr,d3,d8] using hK'
  ·have f9:Ns w' (t 9) (Dw zs ps (2*ix:Nat)) (Dw zs ps (2*ix+1:Nat)):=by simpa using(hdep ⟨9,UR⟩ AM rfl).2
   clear hdep;refine Exists.elim f9 λq hh=>?_
   obtain⟨v1,v2,d9,hrow,p1,p2⟩:=hh;have A:=Tm w' q v1 v2 (Dw zs ps (2*ix:Nat)) (Dw zs ps (2*ix+1:Nat)) hrow p1 p2 HLN.o;have hK':∀ ww v,Cy ww v ((Dw zs ps (2*ix:Nat))++(Dw zs ps (2*ix+1:Nat)))->Below w'.heap.size w' ww->K _ ww:=λww v hv hb=>hK ww v (by simpa using hv) (hx.step 10 v hb C7) hb
   clear hK hrow p1 p2;rw[AR AO];go_simp;try simp only[d9]
   refine A.mono ?_;rintro e w9 ⟨v9,rfl,p9,hb9⟩;have hK2:=hK' w9 v9 p9 hb9;clear hK' A p9 hb9;go_simp;simpa[Cr,d9] using hK2
  ·have f10:Cy w' (t 10) ((Dw zs ps (2*ix:Nat))++(Dw zs ps (2*ix+1:Nat))):=by simpa using(hdep ⟨10,UR⟩ AM rfl).2
   clear hdep;refine Exists.elim f10 λg0 hh=>?_
   obtain⟨o0,c0,d10,q1,q2⟩:=hh;rw[HLN2.o.1] at d10;have A:=Q7 (UI ⟨g0,o0,UJ⟩) 128 c0 ((Dw zs ps (2*ix:Nat))++(Dw zs ps (2*ix+1:Nat))) w' HLN2.o.1 AL (.inr ⟨g0,o0,rfl,q1,q2⟩) HLN2.o.2;rw[HDK.o] at A;have hlo:=hx.below.size;have hK':∀ ww v,I0 w0.heap.size ww v r->Below w'.heap.size w' ww->K _ ww:=λww v hv hb=>hK ww v (by simpa using hv) (hx.step 11 v hb C7) hb
   clear hK q2;rw[AR AO];go_simp;try simp only[d10]
   refine A.mono ?_;rintro e w9 ⟨v9,rfl,p9,hb9⟩;have hK2:=hK' w9 v9 (p9.mono hlo) hb9;clear hK' A p9 hb9;go_simp;simpa[Cr,d10] using hK2
  ·clear hdep;have hsz:w0.heap.size<=w'.heap.size:=hx.below.size;have bb:Below w'.heap.size w' (w'.alloc (UP Ce 63)):=Cs.alloc Cw _;have hnw:Si w0.heap.size (w'.alloc (UP Ce 63)) (UM (UI ⟨w'.heap.size,0,UJ⟩)):=⟨w'.heap.size,rfl,hsz,AV w' _⟩
   have hK':=hK (w'.alloc (UP Ce 63)) (UM (UI ⟨w'.heap.size,0,UJ⟩)) (by simpa using hnw) (hx.step 12 _ bb C7) bb;clear hK bb hnw;rw[AR AO];go_simp;simpa[Cr] using hK'
 case hend=>
  intro o L t w' ho hx hg K hK;simp at ho;subst ho;have f11:I0 w0.heap.size w' (t 11) r:=by simpa using(hg 11 AL).2
  have f12:Si w0.heap.size w' (t 12):=by simpa using(hg 12 AL).2
  clear hg;obtain⟨q,e12,hq,hbx⟩:=f12;obtain⟨aD,nD,cD,aU,nU,cU,d11,h1,h2,h3,h4,l1,l2⟩:=f11;have hK':∀ ww,Wr q w' ww->ww.heap[q]?=UI (UP #[UF r.ok,UE UG r.g,UE UG r.t,UD aD nD cD,UD aU nU cU] 63 (0,0))->K _ ww:=λww hw hr=>hK ww undef ⟨q,aD,nD,cD,aU,nU,cU,by simp[Cr];exact e12,hq,hr,h1.wrB hbx hw,h2.wrB hbx hw,h3,h4,l1.mono Cw (by rw[hw.size];exact AY _),l2.mono Cw (by rw[hw.size];exact AY _),hx.below.trans (hw.below hq)⟩
  clear hK;rw[AR AO];refine A8 63 (UT 5) (UT 17) rfl q #[UF r.ok,UE UG r.g,UE UG r.t,UD aD nD cD,UD aU nU cU] e12 d11 63 _ hbx HSR.o rfl (Er _ _ _ _ _ _ _ _ _) ?_;have hK2:=hK' _ (Wr.setRow _ _ _) (AB hbx);clear hK';simpa[Cr,Act.put] using hK2
 case hdone=>
  intro t w2 hf;obtain⟨q,aD,nD,cD,aU,nU,cU,e12,hq,hrow,h1,h2,h3,h4,l1,l2,b2⟩:=hf;have HE2:=Cp (HE0.o.below b2);have HLR:=Cp (Ac h1 (Ac h2 (Ac h3 (Ac h4 (Ac l1 l2)))));have hz0:=HE0.o.lt;have c0:=AA hrow 0;have c1:=AA hrow 1;simp at c0 c1;have HRW:=Cp hrow;dsimp only;rw[e12];clear e12 hrow h1 h2 h3 h4 l1 l2 b2;obtain⟨u0,u1⟩:=HU.o;have hmod:0<=r.g%2/\r.g%2<2:=AK
  cases hok:r.ok with
  |false=>
   have HSF:AP (Gx zs ps ix=Fg):=by show _=_;unfold Gx;rw[show GJ zs ps ix=(Dw zs ps (2*ix:Nat))++(Dw zs ps (2*ix+1:Nat)) from rfl,HDK.o,AS (by rw[hok];simp)]
   rw[hok] at c0;clear hmod u0 u1 c1 HLR HDK HU hok HR0 HR1 HLN HLN2 ew1 ew2
   go_upto_region 3 with fail
   go_wp2_with (first
    |(refine AC 63 (UT 4) (UT 30) (w.heap.size+1) Ce 63 HE2.o.res HSR.o rfl (Er _ _ _ _ _ _ _ _ _) ?_)
    |fail)
   (try simp only[Exit.inBlock,Exit.then])
   exact AZ (v:=UN Ce) (AW rfl _ _ (w.heap.size+1) 63 _ (0,0) _ rfl (AB HE2.o.res) Tryz.underlying63 rfl HSR.o) rfl ⟨_,rfl,by rw[HSF.o];exact I0.no _ _,HE2.o.bel.trans ((Wr.setRow _ _ _).below (Br _))⟩
  |true=>
   rw[hok] at c0;have HRQ:AP (w2.heap[q]?=UI (UP #[UF true,UE UG r.g,UE UG r.t,UD aD nD cD,UD aU nU cU] 63 (0,0))):=by show _=_;have:=HRW.o;rw[hok] at this;exact this
   by_cases he:r.g%2=(ix:Int)
   ·have hne:(r.g%2 != (ix:Int))=false:=by simp[he]
    have HSF:AP (Gx zs ps ix=r):=by show _=_;unfold Gx;rw[show GJ zs ps ix=(Dw zs ps (2*ix:Nat))++(Dw zs ps (2*ix+1:Nat)) from rfl,HDK.o,AR ⟨hok,he⟩]
    have HFV:AP (I0 w.heap.size (w2.setRow (w.heap.size+1) #[UF true,UE UG r.g,UE UG r.t,UD aD nD cD,UD aU nU cU]) (UN #[UF true,UE UG r.g,UE UG r.t,UD aD nD cD,UD aU nU cU]) (Gx zs ps ix)):=by
     have hw:=Wr.setRow (w.heap.size+1) w2 #[UF true,UE UG r.g,UE UG r.t,UD aD nD cD,UD aU nU cU];obtain⟨h1,h2,h3,h4,l1,l2⟩:=HLR.o;show I0 _ _ _ _
     rw[HSF.o,<-hok];exact⟨aD,nD,cD,aU,nU,cU,rfl,h1.keepT (by rw[hok,hw.size];exact AY _) (λad e _=>by rw[hok];exact hw.block _ (AG (l1 ad e).1)),h2.keepT (by rw[hok,hw.size];exact AY _) (λad e _=>by rw[hok];exact hw.block _ (AG (l2 ad e).1)),h3,h4,l1.mono AK (by rw[hok,hw.size];exact AY _),l2.mono AK (by rw[hok,hw.size];exact AY _)⟩
    clear HLR HDK;go_wp2_with (first
     |(refine Ab rfl 63 (UT 5) rfl q rfl 63 _ (0,0) _ HRQ.o Tryz.underlying63 rfl HSR.o ?_)
     |(refine AC 63 (UT 4) (UT 31) (w.heap.size+1) #[UF true,UE UG r.g,UE UG r.t,UD aD nD cD,UD aU nU cU] 63 HE2.o.res HSR.o rfl (Er _ _ _ _ _ _ _ _ _) ?_)
     |fail)
    (try simp only[Exit.inBlock,Exit.then])
    exact AZ (v:=UN #[UF true,UE UG r.g,UE UG r.t,UD aD nD cD,UD aU nU cU]) (AW rfl _ _ (w.heap.size+1) 63 _ (0,0) _ rfl (AB HE2.o.res) Tryz.underlying63 rfl HSR.o) rfl ⟨_,rfl,HFV.o,HE2.o.bel.trans ((Wr.setRow _ _ _).below (Br _))⟩
   ·have hne:(r.g%2 != (ix:Int))=true:=by simp[he]
    have HSF:AP (Gx zs ps ix=Fg):=by show _=_;unfold Gx;rw[AS];rintro⟨_,h⟩;have h':(Fh ((Dw zs ps (2*ix:Nat))++(Dw zs ps (2*ix+1:Nat)))).g%2=(ix:Int):=h;rw[HDK.o] at h';exact he h'
    go_upto_region 3 with fail
    go_wp2_with (first
     |(refine AC 63 (UT 4) (UT 30) (w.heap.size+1) Ce 63 HE2.o.res HSR.o rfl (Er _ _ _ _ _ _ _ _ _) ?_)
     |fail)
    (try simp only[Exit.inBlock,Exit.then])
    exact AZ (v:=UN Ce) (AW rfl _ _ (w.heap.size+1) 63 _ (0,0) _ rfl (AB HE2.o.res) Tryz.underlying63 rfl HSR.o) rfl ⟨_,rfl,by rw[HSF.o];exact I0.no _ _,HE2.o.bel.trans ((Wr.setRow _ _ _).below (Br _))⟩
structure EZ (w:UK) (cs:Array UL) (wr:UK):Prop where
 bel:Below w.heap.size w wr
 dev:wr.heap[w.heap.size]?=UI (UP cs 40 (0,0))
theorem EZ.lt {w wr:UK} {cs:Array UL} (h:EZ w cs wr):w.heap.size<wr.heap.size:=(AQ.1 h.dev).1
theorem EZ.below {w wr w':UK} {cs:Array UL} (h:EZ w cs wr) (b:Below wr.heap.size wr w'):EZ w cs w':=
 ⟨h.bel.trans (b.mono h.bel.size),by rw[b.block _ h.lt];exact h.dev⟩
theorem EZ.start (w:UK) (cs:Array UL):EZ w cs (w.alloc (UP cs 40)):=⟨Cs.alloc Cw _,AV w _⟩
theorem RB (a x:Option Addr) (L c m cx:Nat) (f:Int) (d:Bool) (w:UK) (hL:L<=1048576) :
  Calls Tryz.prog 68 #[UN #[UD a L c,UD x m cx,UE UO f,UF d]] w λe w'=>e=UQ (UE UO ((L/64:Nat):Int))/\Below w.heap.size w w':=by
 have HB:AP (Below w.heap.size w (w.alloc (UP #[UD a L c,UD x m cx,UE UO f,UF d] 40))):=Cs.alloc Cw _;go_enter Tryz.func68,Tryz.ntmps68;go_wp2
 go_ret
 exact⟨AM,HB.o⟩
theorem I5 (a x:Option Addr) (L c m cx:Nat) (f:Int) (d:Bool) (w:UK) (hL:L<=1048576) (h8:8<=L/64) (h256:L/64<=256) :
  Calls Tryz.prog 30 #[UN #[UD a L c,UD x m cx,UE UO f,UF d]] w λe w'=>e=UQ (UE UO ((L/64-4:Nat):Int))/\Below w.heap.size w w':=by
 have HE0:=Cp (EZ.start w #[UD a L c,UD x m cx,UE UO f,UF d]);have HSD:AP ((Tryz.prog.info? 40).map (·.size)=UI 4):=by show _=_;kernel_rfl
 have A:=Cp (λww=>RB a x L c m cx f d ww hL);obtain⟨S,hS⟩:∃ S,L/64=S:=⟨_,rfl⟩
 rw[hS] at A h8 h256 |-;clear hS;go_enter Tryz.func30,Tryz.ntmps30
 go_upto_region 1 with fail
 generalize w.alloc (UP #[UD a L c,UD x m cx,UE UO f,UF d] 40)=w0 at *;go_wp2_with (first
  |(refine Ab rfl 40 (UT 1) rfl w.heap.size rfl 40 _ (0,0) _ HE0.o.dev Tryz.underlying40 rfl HSD.o ?_)
  |fail)
 refine(A.o w0).mono ?_;rintro e w1 ⟨rfl,b1⟩;have HE1:=Cp (HE0.o.below b1);clear A b1 HE0;go_wp2
 go_ret
 exact⟨by simp;omega,HE1.o.bel⟩
theorem Pb (a x:Option Addr) (L c m cx:Nat) (f:Int) (d:Bool) (w:UK) (hL:L<=1048576) (h8:8<=L/64) (h256:L/64<=256) (q:Nat) (hq:q<4294967296) :
  Calls Tryz.prog 73 #[UN #[UD a L c,UD x m cx,UE UO f,UF d],UE UG (q:Int)] w λe w'=>e=UQ (UE UO ((4+q%(L/64-4):Nat):Int))/\Below w.heap.size w w':=by
 have HE0:=Cp (EZ.start w #[UD a L c,UD x m cx,UE UO f,UF d]);have HSD:AP ((Tryz.prog.info? 40).map (·.size)=UI 4):=by show _=_;kernel_rfl
 have A:=Cp (λww=>I5 a x L c m cx f d ww hL h8 h256);obtain⟨J,hJ⟩:∃ J,L/64-4=J:=⟨_,rfl⟩
 have hJ0:((J:Int) == 0)=false:=by simp;omega
 have hJ1:0<J:=AK
 have hJ2:J<=252:=AK
 rw[hJ] at A |-;have hlt:=Nat.mod_lt q hJ1;obtain⟨r,hr⟩:∃ r,q%J=r:=⟨_,rfl⟩
 obtain⟨qi,hqi⟩:∃ t:Int,(q:Int)=t:=⟨_,rfl⟩
 have e1:qi%(J:Int)=(r:Int):=by rw[<-hqi,<-hr];simp
 have e2:qi.tmod (J:Int)=(r:Int):=by rw[CJ AK];exact e1
 have hq0:0<=qi:=AK
 have hq1:qi<4294967296:=AK
 rw[hr] at hlt |-;rw[hqi];clear hJ h8 h256 hr hqi hq;go_enter Tryz.func73,Tryz.ntmps73
 go_upto_region 1 with fail
 generalize w.alloc (UP #[UD a L c,UD x m cx,UE UO f,UF d] 40)=w0 at *;go_wp2_with (first
  |(refine Ab rfl 40 (UT 2) rfl w.heap.size rfl 40 _ (0,0) _ HE0.o.dev Tryz.underlying40 rfl HSD.o ?_)
  |fail)
 refine(A.o w0).mono ?_;rintro e w1 ⟨rfl,b1⟩;have HE1:=Cp (HE0.o.below b1);clear A b1 HE0;go_wp2
 go_ret
 exact⟨AM,HE1.o.bel⟩
def FW (lo:Nat) (w:UK) (v:UL) (F:List Int):Prop:=∃ g m c,v=UD (UI ⟨g,0,UJ⟩) m c/\lo<=g/\F.length=m*4/\m<=c/\g<w.heap.size/\∀ i,i<F.length->w.cell? ⟨g,i,UJ⟩=UI (UE (kF i) (F.getD i 0))
theorem FW.below {lo:Nat} {w w':UK} {v:UL} {F:List Int} (h:FW lo w v F) (b:Below w.heap.size w w'):FW lo w' v F:=by
 obtain⟨g,m,c,e,h1,h2,h3,h4,h5⟩:=h;exact⟨g,m,c,e,h1,h2,h3,Ax h4 b.size,λi hi=>by rw[b.cell (p:=⟨g,i,UJ⟩) h4];exact h5 i hi⟩
theorem FW.mono {lo lo':Nat} {w:UK} {v:UL} {F:List Int} (h:FW lo w v F) (hl:lo'<=lo):FW lo' w v F:=by
 obtain⟨g,m,c,e,h1,h2⟩:=h;exact⟨g,m,c,e,AK,h2⟩
def Rv (lo:Nat) (s kd p y:Int) (w:UK) (v:UL):Prop:=∃ g,v=UD (UI ⟨g,0,UJ⟩) 1 1/\lo<=g/\w.heap[g]?=UI (UP #[UE UG s,UE UO kd,UE UG p,UE UG y] 112 (0,0))
theorem Rv.below {lo:Nat} {s kd p y:Int} {w w':UK} {v:UL} (h:Rv lo s kd p y w v) (b:Below w.heap.size w w'):Rv lo s kd p y w' v:=by
 obtain⟨g,e,h1,h2⟩:=h;exact⟨g,e,h1,by rw[b.block g (AQ.1 h2).1];exact h2⟩
theorem T7 (i:Nat):kF (4+i)=kF i:=by unfold kF;rw[show(4+i)%4=i%4 by omega]
theorem Nt (w:UK) (ty:TypeId) (lo:Nat) (s kd p y:Int) (R:List Int) (v x:UL) (h1:Rv lo s kd p y w v) (h2:FW lo w x R) (hm:R.length<=100000) (hlo:lo<=w.heap.size) :
  ∃ v' w',(Builtin.append_ #[31,31] ty #[v,x]).run Tryz.prog w=.ok v' w'/\FW lo w' v' ([s,kd,p,y]++R)/\Below w.heap.size w w':=by
 obtain⟨i0,hi,hz0,hz1,hz2⟩:=Be Tryz.infoFr;obtain⟨g,rfl,hg,hrow⟩:=h1;obtain⟨h,m,c,rfl,hh,hl,hc,hlt,hcell⟩:=h2;have hnews:∀ j u,(fC R).toList[j]?=UI u->w.cell? ((⟨h,0,UJ⟩:Addr).add j)=UI u:=λj u hu=>by
  rw[Es] at hu;have hj:j<R.length:=by have:=(Af.1 hu).1;simpa using this
  rw[Ay,Ak,hcell j hj];rw[CM,List.getElem?_range hj] at hu;simpa using hu
 have hone:∀ u∈(fC R).toList,u.oneCell'=true:=λu hu=>by
  rw[Es] at hu;obtain⟨j,_,rfl⟩:=List.mem_map.1 hu;rfl
 have hlen:(fC R).toList.length=m*4:=by rw[Es];simpa using hl
 have hsrc:Src Tryz.prog i0.size 31 (UD (UI ⟨h,0,UJ⟩) m c) m (fC R).toList w:=
  Src.ofSlice w Tryz.underlying31 ⟨h,0,UJ⟩ m c _ (by rw[hz1];exact hlen) hnews hone
 have hgl:=(AQ.1 hrow).1;have hc4:∀ j,j<4->w.cell? ⟨g,j,UJ⟩=UI (UE (kF j) (([s,kd,p,y]:List Int).getD j 0)):=λj hj=>by
  rw[AA hrow j];obtain rfl|rfl|rfl|rfl:j=0\/j=1\/j=2\/j=3:=AK
  all_goals rfl
 by_cases hm0:m=0
 ·subst hm0;have hR:R=[]:=Aq AK;subst hR;have hr:=run_append_room_src (P:=Tryz.prog) w 31 31 ty 112 i0 Tryz.underlying31 hi g 0 1 1 _ 0 [] hsrc AL (λj hj=>absurd hj AM) (λj hj=>absurd hj AM);exact⟨_,_,hr,⟨g,1,1,rfl,hg,rfl,AY _,hgl,λi hi'=>hc4 i hi'⟩,Ad _ _⟩
 ·have hold:=run_firstCells_some (P:=Tryz.prog) w.drew i0.size 1 ⟨g,0,UJ⟩ 1 1 [UE UG s,UE UO kd,UE UG p,UE UG y] (by rw[hz1];rfl) (λj u hu=>by
   have hj:j<4:=by have:=(Af.1 hu).1;simpa using this
   rw[Ay,Ak,show w.drew.cell? ⟨g,j,UJ⟩=w.cell? ⟨g,j,UJ⟩ from rfl,hc4 j hj];obtain rfl|rfl|rfl|rfl:j=0\/j=1\/j=2\/j=3:=AK
   all_goals(simp at hu;subst hu;rfl))
  have hcap:=nextslicecap_le (need:=1+m) (old:=1) AK;have hr:=run_append_grow_src (P:=Tryz.prog) w 31 31 ty 112 i0 (UN Co) Tryz.underlying31 hi hz0 (UI ⟨g,0,UJ⟩) 1 1 [UE UG s,UE UO kd,UE UG p,UE UG y] hold _ m (fC R).toList hsrc AK AK (by rw[hz2];omega);have hge:=grownCap_ge w (1+m) 1 112;refine⟨_,_,hr,⟨w.heap.size,1+m,_,rfl,hlo,by rw[Al,hl];simp;omega,hge,AM,λi hi'=>?_⟩,⟨rfl,rfl,rfl,AM,λk hk=>heap_alloc_old w.drew _ hk⟩⟩;rw[Bg _ w.heap.size i _ _ _ (AV w.drew _)];have hi2:i<4+R.length:=by simp at hi';omega
  rw[Array.getElem?_append_left (by simp[hlen];omega)];rw[List.getElem?_toArray];by_cases h4:i<4
  ·rw[A0 (by simpa using h4)];obtain rfl|rfl|rfl|rfl:i=0\/i=1\/i=2\/i=3:=AK
   all_goals rfl
  ·obtain⟨j,rfl⟩:∃ j,i=4+j:=⟨i-4,AK⟩
   have hj:j<R.length:=AK
   rw[Am AM,Es,CM];simp only[List.length_cons,List.length_nil,Nat.add_sub_cancel_left,Nat.zero_add];rw[List.getElem?_range hj,T7,show 4+j=j+4 by omega];simp[List.getD]
theorem Pc (w:UK) {o:Oper} {a:Act} {K:Act->UK->Prop} {Q:Exit->Act->UK->Prop} (sx x:Operand)
  (hop:o.op=Op.call { callee:=Callee.builtin Builtin.append,args:=#[sx,x],argTypes:=#[31,31] }) (lo:Nat) (s kd p y:Int) (R:List Int) (v u:UL) (hs:a.eval sx=v) (hx:a.eval x=u) (h1:Rv lo s kd p y w v) (h2:FW lo w u R) (hm:R.length<=100000) (hlo:lo<=w.heap.size)
  (hK:∀ v' w',FW lo w' v' ([s,kd,p,y]++R)->Below w.heap.size w w'->K (a.put o.dst v') w'):o.wp Tryz.prog a w K Q:=by
 obtain⟨v',w',hr,k1,k2⟩:=Nt w o.type lo s kd p y R v u h1 h2 hm hlo;have hk:=hK v' w' k1 k2;unfold Oper.wp execOp;simp only[hop,resolve,invoke,builtin,Sem.run_bind,Sem.run_pure,Result.andThen_ok,List.map_toArray,List.map_cons,List.map_nil,hs,hx,hr];exact hk
def Sj (lo:Nat) (w:UK) (v:UL):Prop:=∃ q,v=UM (UI ⟨q,0,UJ⟩)/\lo<=q/\w.heap[q]?=UI (UP Cl 114 (0,0))
theorem Sj.below {lo:Nat} {w w':UK} {v:UL} (h:Sj lo w v) (b:Below w.heap.size w w'):Sj lo w' v:=by
 obtain⟨q,e,h1,h2⟩:=h;exact⟨q,e,h1,by rw[b.block q (AQ.1 h2).1];exact h2⟩
def To (p:Nat) (W:UK) (ok:Bool) (s kd p' y:Int) (u:Nat->UL) (w:UK):Prop:=∃ q,u p=UM (UI ⟨q,0,UJ⟩)/\W.heap.size<=q/\w.heap[q]?=UI (UP #[UF ok,UE UG s,UE UO kd,UE UG p',UE UG y] 114 (0,0))/\Below W.heap.size W w
theorem Pd (z:List Int):∃ ok s kd p y,GO z=UN #[UF ok,UE UG s,UE UO kd,UE UG p,UE UG y]/\(ok=true->Gy z=true/\Sh z=[s,kd,p,y]/\DD z 0=s)/\(ok=false->Gy z=false):=by
 cases h:Gy z with
 |true=>exact⟨true,_,_,_,_,Hv h,λ_=>⟨rfl,rfl,rfl⟩,λh=>by cases h⟩
 |false=>exact⟨false,_,_,_,_,Gv h,λh=>(by cases h),λ_=>rfl⟩
theorem Mk (a x:Option Addr) (Ln c m cx:Nat) (f:Int) (d:Bool) (zs:List Int) (ps:List PD) (F:JF Ln c m f zs ps) (hL:Ln<=1048576) (hps:∀ i,(ps.getD i (0,[])).2.length<=1048576):∀(n q:Nat) (w:UK),n<=252->q<4294967296->At .u8 w a zs->FY w x ps->
  Calls Tryz.prog 29 #[UN #[UD a Ln c,UD x m cx,UE UO f,UF d],UE UG (q:Int),UE UO (n:Int)] w λe w'=>∃ v,e=UQ v/\FW w.heap.size w' v (Fa zs ps (Ln/64-4) q n)/\Below w.heap.size w w'
 |0,q,w,hn,hq,hA,hP=>by
  have HE0:=Cp (EZ.start w #[UD a Ln c,UD x m cx,UE UO f,UF d]);obtain⟨qi,hqi⟩:∃ t:Int,(q:Int)=t:=⟨_,rfl⟩
  rw[hqi,show((0:Nat):Int)=0 from rfl];have HN:=Cp (IS (zs:=zs) (ps:=ps) (J:=Ln/64-4) (q:=q) (n:=0) (.inl rfl));clear F hps hA hP hqi hq;go_enter Tryz.func29,Tryz.ntmps29
  go_upto_region 1 with fail
  generalize w.alloc (UP #[UD a Ln c,UD x m cx,UE UO f,UF d] 40)=w0 at *;have HBB:AP (Below w.heap.size w (w0.alloc (UP #[] 112))):=HE0.o.bel.trans ((Cs.alloc Cw _).mono HE0.o.bel.size);have HFE:AP (FW w.heap.size (w0.alloc (UP #[] 112)) (UD (UI ⟨w0.heap.size,0,UJ⟩) 0 0) []):=⟨w0.heap.size,0,0,rfl,HE0.o.bel.size,rfl,AY _,AM,λi hi=>absurd hi AM⟩
  go_wp2
  go_ret
  refine⟨_,rfl,?_,HBB.o⟩;rw[HN.o];exact HFE.o
 |n+1,q,w,hn,hq,hA,hP=>by
  have HE0:=Cp (EZ.start w #[UD a Ln c,UD x m cx,UE UO f,UF d]);have HSD:AP ((Tryz.prog.info? 40).map (·.size)=UI 4):=by show _=_;kernel_rfl
  have HSR:AP ((Tryz.prog.info? 114).map (·.size)=UI 5):=by show _=_;kernel_rfl
  have HSF:AP ((Tryz.prog.info? 112).map (·.size)=UI 4):=by show _=_;kernel_rfl
  have hb:=F.base;obtain⟨qi,hqi⟩:∃ t:Int,(q:Int)=t:=⟨_,rfl⟩
  obtain⟨ni,hni⟩:∃ t:Int,((n+1:Nat):Int)=t:=⟨_,rfl⟩
  obtain⟨si,hsi⟩:∃ t:Int,((4+q%(Ln/64-4):Nat):Int)=t:=⟨_,rfl⟩
  have hn0:0<ni:=AK
  have hn1:ni<=252:=AK
  have hnz:(ni == 0)=false:=by simp;omega
  have hq0:0<=qi:=AK
  have hq1:qi<4294967296:=AK
  rw[hqi,hni];by_cases hlt:qi<4000000000
  ·have hqn:q<4000000000:=AK
   have HS:AP (∀ ww,Calls Tryz.prog 73 #[UN #[UD a Ln c,UD x m cx,UE UO f,UF d],UE UG qi] ww λe w'=>e=UQ (UE UO si)/\Below ww.heap.size ww w'):=λww=>by
    have:=Pb a x Ln c m cx f d ww hL AK AK q hq;rw[hqi,hsi] at this;exact this
   have HR:AP (∀ ww,Below w.heap.size w ww->Calls Tryz.prog 71 #[UN #[UD a Ln c,UD x m cx,UE UO f,UF d],UE UO si] ww λe w'=>∃ v,e=UQ v/\Cy w' v (KN zs ps (Ln/64-4) q)/\Below ww.heap.size ww w'):=λww b=>by
    have:=SJ (d:=d) (cx:=cx) F (hA.below b) (hP.below b) hL hps (4+q%(Ln/64-4)) (by have:=Nat.mod_lt q (show 0<Ln/64-4 by omega);omega);rw[<-hsi];exact this
   have HI:AP (∀ ww,Below w.heap.size w ww->Calls Tryz.prog 29 #[UN #[UD a Ln c,UD x m cx,UE UO f,UF d],UE UG (qi+1),UE UO (ni-1)] ww λe w'=>∃ v,e=UQ v/\FW ww.heap.size w' v (Fa zs ps (Ln/64-4) (q+1) n)/\Below ww.heap.size ww w'):=λww b=>by
    have:=Mk a x Ln c m cx f d zs ps F hL hps n (q+1) ww AK AK (hA.below b) (hP.below b);rw[show((q+1:Nat):Int)=qi+1 by omega,show((n:Nat):Int)=ni-1 by omega] at this;exact this
   have HZ:=Cp (F.jr q);obtain⟨ok,s,kd,p,y,hdv,hy,hno⟩:=Pd (KN zs ps (Ln/64-4) q);have HDV:=Cp hdv;have HYS0:AP (ok=true->s=qi->Fa zs ps (Ln/64-4) q (n+1)=s::kd::p::y::Fa zs ps (Ln/64-4) (q+1) n):=λh1 h2=>by
    obtain⟨k1,k2,k3⟩:=hy h1;rw[J9 hqn (by unfold I3;rw[k1,k3,h2,BJ hqi.symm];rfl),k2];rfl
   have HNO:AP (ok=false\/¬ s=qi->Fa zs ps (Ln/64-4) q (n+1)=[]):=λh1=>IS (.inr (.inr (by
    unfold I3;cases ok with
    |false=>rw[hno rfl];rfl
    |true=>
     obtain⟨k1,k2,k3⟩:=hy rfl;rw[k3,Ar (by rw[hqi];exact h1.resolve_left AL)];simp)))
   have HRL:AP ((Fa zs ps (Ln/64-4) (q+1) n).length<=100000):=by
    obtain⟨k,hk,e⟩:=Gw zs ps (Ln/64-4) n (q+1);show _<=_;omega
   have ew1:IntKind.u32.wrap (qi+1)=qi+1:=by rw[IntKind.wrap_u32];omega
   have ew2:IntKind.i64.wrap (ni-1)=ni-1:=by rw[As];omega
   clear hy hno hdv hqn hb hsi;generalize Fa zs ps (Ln/64-4) (q+1) n=R at *;generalize Fa zs ps (Ln/64-4) q (n+1)=R1 at *;generalize KN zs ps (Ln/64-4) q=z at *;clear F hA hP hps hqi hni hq hn;go_enter Tryz.func29,Tryz.ntmps29
   go_upto_region 1 with fail
   generalize w.alloc (UP #[UD a Ln c,UD x m cx,UE UO f,UF d] 40)=w0 at *
   go_upto_region 3 with fail
   refine Ae AN ?_;refine DF 7 (λ_ a b=>Below a.heap.size a b) (frame:=(λ(a b c d e f g h i j k l m n o p q r s u v w x y z A B C D E F G H I J:UL)=>λ(t:Nat->UL)=>({ tmps:=List.toArray [a,b,c,d,e,f,g,t 6,h,i,j,k,l,m,n,t 0,t 1,t 2,t 3,t 4,t 5,o,p,q,r,s,u,v,w,x,y,z,A,B,C,D,E,F,G,H,I,J],defers:=[] }:Act)) _ _ _ _ _ _ _ _ _ _ _ _ _ _ _ _ _ _ _ _ _ _ _ _ _ _ _ _ _ _ _ _ _ _ _)
    (Ext:=λL u w'=>Fo w0 [] L u w') (Good:=λi L w' v=>if i=0 then v=UN #[UD a Ln c,UD x m cx,UE UO f,UF d] else if i=1 then v=UN #[UD a Ln c,UD x m cx,UE UO f,UF d] else if i=2 then v=UE UG qi else if i=3 then v=UE UO si else if i=4 then Cy w' v z else if i=5 then v=UN #[UF ok,UE UG s,UE UO kd,UE UG p,UE UG y] else if i=6 then Sj w0.heap.size w' v else True) (Fin:=To 6 w0 ok s kd p y) rfl AN ?hstab AN ?hop ?hend ?hdone _ _ ((λ(x0 x1 x2 x3 x4 x5 x6:UL)=>λ(i:Nat)=>if i=0 then x0 else if i=1 then x1 else if i=2 then x2 else if i=3 then x3 else if i=4 then x4 else if i=5 then x5 else if i=6 then x6 else undef) _ _ _ _ _ _ _) _ AM ?none ?ext AM
   case none=>exact λ_=>FJ
   case ext=>exact Fo.start w0 [] _ _ (λ_=>FJ) ⟨rfl,rfl,rfl,AY _,λ_ _=>rfl⟩
   case hstab=>
    intro j L w9 w' i v _ hM _ _ h;by_cases h4:j=4
    ·subst h4;simp at h |-;exact h.below hM
    by_cases h6:j=6
    ·subst h6;simp at h |-;exact h.below hM
    simp only[if_neg h4,if_neg h6] at h |-;exact h
   case hop=>
    intro i o L t w' hi ho hLi hx hdep K hK;obtain rfl|rfl|rfl|rfl|rfl|rfl|rfl:i=0\/i=1\/i=2\/i=3\/i=4\/i=5\/i=6:=AK
    all_goals(simp at ho;subst ho)
    ·clear hdep;have hr:w'.heap[w.heap.size]?=UI (UP #[UD a Ln c,UD x m cx,UE UO f,UF d] 40 (0,0)):=by rw[hx.below.block _ (AG HE0.o.lt)];exact HE0.o.dev
     have hK':=hK w' (UN #[UD a Ln c,UD x m cx,UE UO f,UF d]) AM (hx.step 0 _ Cs C7) Cs;clear hK;rw[AR AO];refine BL 40 (UT 3) rfl (w.heap.size) rfl 40 _ (0,0) _ hr Tryz.underlying40 rfl HSD.o ?_;simpa[Cr,Act.put] using hK'
    ·clear hdep;have hr:w'.heap[w.heap.size]?=UI (UP #[UD a Ln c,UD x m cx,UE UO f,UF d] 40 (0,0)):=by rw[hx.below.block _ (AG HE0.o.lt)];exact HE0.o.dev
     have hK':=hK w' (UN #[UD a Ln c,UD x m cx,UE UO f,UF d]) AM (hx.step 1 _ Cs C7) Cs;clear hK;rw[AR AO];refine BL 40 (UT 3) rfl (w.heap.size) rfl 40 _ (0,0) _ hr Tryz.underlying40 rfl HSD.o ?_;simpa[Cr,Act.put] using hK'
    ·clear hdep;have hK':=hK w' (UE UG qi) AM (hx.step 2 _ Cs C7) Cs;clear hK;rw[AR AO];go_simp;simpa[Cr] using hK'
    ·have d1:t 1=UN #[UD a Ln c,UD x m cx,UE UO f,UF d]:=by simpa using(hdep ⟨1,UR⟩ AM rfl).2
     have d2:t 2=UE UG qi:=by simpa using(hdep ⟨2,UR⟩ AM rfl).2
     clear hdep;have A:=HS.o w';have hK':∀ ww,Below w'.heap.size w' ww->K _ ww:=λww hb=>hK ww (UE UO si) AM (hx.step 3 _ hb C7) hb
     clear hK;rw[AR AO];go_simp;try simp only[d1,d2]
     refine A.mono ?_;rintro e w9 ⟨rfl,hb9⟩;have hK2:=hK' w9 hb9;clear hK' A hb9;go_simp;simpa[Cr,d1,d2] using hK2
    ·have d0:t 0=UN #[UD a Ln c,UD x m cx,UE UO f,UF d]:=by simpa using(hdep ⟨0,UR⟩ AM rfl).2
     have d3:t 3=UE UO si:=by simpa using(hdep ⟨3,UR⟩ AM rfl).2
     clear hdep;have bw:Below w.heap.size w w':=HE0.o.bel.trans (hx.below.mono HE0.o.bel.size);have A:=HR.o w' bw;have hK':∀ ww v,Cy ww v z->Below w'.heap.size w' ww->K _ ww:=λww v hv hb=>hK ww v (by simpa using hv) (hx.step 4 v hb C7) hb
     clear hK;rw[AR AO];go_simp;try simp only[d0,d3]
     refine A.mono ?_;rintro e w9 ⟨v9,rfl,p9,hb9⟩;have hK2:=hK' w9 v9 p9 hb9;clear hK' A p9 hb9;go_simp;simpa[Cr,d0,d3] using hK2
    ·have f4:Cy w' (t 4) z:=by simpa using(hdep ⟨4,UR⟩ AM rfl).2
     clear hdep;refine Exists.elim f4 λg4 hh=>?_
     obtain⟨o4,c4,d4,q1,q2⟩:=hh;rw[HZ.o.1] at d4;have A:=PV (UI ⟨g4,o4,UJ⟩) 64 c4 z w' HZ.o.1 AL HZ.o.2 (.inr ⟨g4,o4,rfl,q1,q2⟩);rw[HDV.o] at A;have hK':∀ ww,Below w'.heap.size w' ww->K _ ww:=λww hb=>hK ww (UN #[UF ok,UE UG s,UE UO kd,UE UG p,UE UG y]) AM (hx.step 5 _ hb C7) hb
     clear hK q2;rw[AR AO];go_simp;try simp only[d4]
     refine A.mono ?_;rintro e w9 ⟨rfl,hb9⟩;have hK2:=hK' w9 hb9;clear hK' A hb9;go_simp;simpa[Cr,d4] using hK2
    ·clear hdep;have hsz:w0.heap.size<=w'.heap.size:=hx.below.size;have bb:Below w'.heap.size w' (w'.alloc (UP Cl 114)):=Cs.alloc Cw _;have hnw:Sj w0.heap.size (w'.alloc (UP Cl 114)) (UM (UI ⟨w'.heap.size,0,UJ⟩)):=⟨w'.heap.size,rfl,hsz,AV w' _⟩
     have hK':=hK (w'.alloc (UP Cl 114)) (UM (UI ⟨w'.heap.size,0,UJ⟩)) (by simpa using hnw) (hx.step 6 _ bb C7) bb;clear hK bb hnw;rw[AR AO];go_simp;simpa[Cr] using hK'
   case hend=>
    intro o L t w' ho hx hg K hK;simp at ho;subst ho;have d5:t 5=UN #[UF ok,UE UG s,UE UO kd,UE UG p,UE UG y]:=by simpa using(hg 5 AL).2
    have f6:Sj w0.heap.size w' (t 6):=by simpa using(hg 6 AL).2
    clear hg;obtain⟨g,e6,hq,hbx⟩:=f6;have hK':∀ ww,Wr g w' ww->ww.heap[g]?=UI (UP #[UF ok,UE UG s,UE UO kd,UE UG p,UE UG y] 114 (0,0))->K _ ww:=λww hw hr=>hK ww undef ⟨g,by simp[Cr];exact e6,hq,hr,hx.below.trans (hw.below hq)⟩
    clear hK;rw[AR AO];refine A8 114 (UT 7) (UT 20) rfl g #[UF ok,UE UG s,UE UO kd,UE UG p,UE UG y] e6 d5 114 _ hbx HSR.o rfl (J7 _ _ _ _ _) ?_;have hK2:=hK' _ (Wr.setRow _ _ _) (AB hbx);clear hK';simpa[Cr,Act.put] using hK2
   case hdone=>
    intro t w2 hf;obtain⟨g,e6,hq,hrow,b2⟩:=hf;have HE2:=Cp (HE0.o.below b2);have c0:=AA hrow 0;have c1:=AA hrow 1;simp at c0 c1;have HGL:=Cp (AQ.1 hrow).1;have HRW:=Cp hrow;dsimp only;rw[e6];clear e6 hrow b2 HR HS HZ;cases ok with
    |false=>
     have HN:=Cp (HNO.o (.inl rfl));clear HNO HYS0 HI c1 HRW;have HBB:AP (Below w.heap.size w (w2.alloc (UP #[] 112))):=HE2.o.bel.trans ((Cs.alloc Cw _).mono HE2.o.bel.size);have HFE:AP (FW w.heap.size (w2.alloc (UP #[] 112)) (UD (UI ⟨w2.heap.size,0,UJ⟩) 0 0) []):=⟨w2.heap.size,0,0,rfl,HE2.o.bel.size,rfl,AY _,AM,λi hi=>absurd hi AM⟩
     go_wp2
     go_ret
     refine⟨_,rfl,?_,HBB.o⟩;rw[HN.o];exact HFE.o
    |true=>
     by_cases he:s=qi
     ·have hne:(s != qi)=false:=by simp[he]
      have HYS:=Cp (HYS0.o rfl he);clear HNO HYS0 he
      go_upto_region 6 with fail
      refine Ae AN ?_;refine C3 (λ_ a b=>Below a.heap.size a b) (frame:=(λ(a b c d e f g h i j k l m n o p q r s u v w x y z A B C D E F:UL)=>λ(t:Nat->UL)=>({ tmps:=List.toArray [a,b,c,d,e,f,t 10,g,h,i,j,k,l,m,n,o,p,q,r,s,u,v,w,x,y,z,A,B,C,D,E,F,t 0,t 1,t 2,t 3,t 4,t 5,t 6,t 7,t 8,t 9],defers:=[] }:Act)) _ _ _ _ _ _ _ _ _ _ _ _ _ _ _ _ _ _ _ _ _ _ _ _ _ _ _ _ _ _ _)
       (Ext:=λL u w'=>IV w2 [] L u w') (Good:=λi L w' v=>if i=0 then v=UM (UI ⟨g,1,UJ⟩) else if i=1 then v=UN #[UE UG s,UE UO kd,UE UG p,UE UG y] else if i=2 then Rv w.heap.size s kd p y w' v else if i=3 then v=UN #[UD a Ln c,UD x m cx,UE UO f,UF d] else if i=4 then v=UE UG qi else if i=5 then v=UE UG (qi+1) else if i=6 then v=UE UO ni else if i=7 then v=UE UO (ni-1) else if i=8 then FW w.heap.size w' v R else if i=9 then FW w.heap.size w' v (s::kd::p::y::R) else if i=10 then FW w.heap.size w' v (s::kd::p::y::R) else True) ?hstab AN ?hop ?hdone _ _ ((λ(x0 x1 x2 x3 x4 x5 x6 x7 x8 x9 x10:UL)=>λ(i:Nat)=>if i=0 then x0 else if i=1 then x1 else if i=2 then x2 else if i=3 then x3 else if i=4 then x4 else if i=5 then x5 else if i=6 then x6 else if i=7 then x7 else if i=8 then x8 else if i=9 then x9 else if i=10 then x10 else undef) _ _ _ _ _ _ _ _ _ _ _) _ AM ?ext ?start AM
      case start=>intro i hi h;exact absurd h E0
      case ext=>exact(IV.start w2 [] _ _ (λ_=>FJ)).drew
      case hstab=>
       intro j L w9 w' i v hM _ _ h;by_cases h2:j=2
       ·subst h2;simp at h |-;exact h.below hM
       by_cases h8:j=8
       ·subst h8;simp at h |-;exact h.below hM
       by_cases h9:j=9
       ·subst h9;simp at h |-;exact h.below hM
       by_cases h10:j=10
       ·subst h10;simp at h |-;exact h.below hM
       simp only[if_neg h2,if_neg h8,if_neg h9,if_neg h10] at h |-;exact h
      case hop=>
       intro i o L t w' ho hLi hx hdep K hK;have hi:i<11:=(AQ.1 ho).1;obtain rfl|rfl|rfl|rfl|rfl|rfl|rfl|rfl|rfl|rfl|rfl:i=0\/i=1\/i=2\/i=3\/i=4\/i=5\/i=6\/i=7\/i=8\/i=9\/i=10:=AK
       all_goals(simp at ho;subst ho)
       ·clear hdep;have hK':=hK w' (UM (UI ⟨g,1,UJ⟩)) AM (hx.step 0 _ Cs C7) Cs;clear hK;rw[AR AO];go_simp;simpa[Cr,ew1,ew2] using hK'
       ·have d0:t 0=UM (UI ⟨g,1,UJ⟩):=by simpa using(hdep ⟨0,UR⟩ AM rfl).2
        clear hdep;have hr:w'.heap[g]?=UI (UP #[UF true,UE UG s,UE UO kd,UE UG p,UE UG y] 114 (0,0)):=by rw[hx.below.block _ HGL.o];exact HRW.o
        have hra:w'.rangeAt g 1 [UE UG s,UE UO kd,UE UG p,UE UG y]:=λj v hj=>by
         have hj4:j<4:=by have:=(Af.1 hj).1;simpa using this
         rw[AA hr (1+j)];obtain rfl|rfl|rfl|rfl:j=0\/j=1\/j=2\/j=3:=AK
         all_goals(simp at hj;subst hj;rfl)
        have hK':=hK w' (UN #[UE UG s,UE UO kd,UE UG p,UE UG y]) AM (hx.step 1 _ Cs C7) Cs;clear hK;rw[AR AO];refine wp_load_mid 112 (UT 32) rfl g 1 d0 [UE UG s,UE UO kd,UE UG p,UE UG y] _ hra Tryz.underlying112 rfl HSF.o ?_;simpa[Cr,Act.put,d0] using hK'
       ·have d1:t 1=UN #[UE UG s,UE UO kd,UE UG p,UE UG y]:=by simpa using(hdep ⟨1,UR⟩ AM rfl).2
        clear hdep;have bw:Below w.heap.size w w':=HE2.o.bel.trans (hx.below.mono HE2.o.bel.size);have hsz:=bw.size;have bb:Below w'.heap.size w' (w'.alloc (UP #[UE UG s,UE UO kd,UE UG p,UE UG y] 112)):=Cs.alloc Cw _;have hf1:Rv w.heap.size s kd p y (w'.alloc (UP #[UE UG s,UE UO kd,UE UG p,UE UG y] 112)) (UD (UI ⟨w'.heap.size,0,UJ⟩) 1 1):=⟨w'.heap.size,rfl,hsz,AV w' _⟩
        have hK':=hK (w'.alloc (UP #[UE UG s,UE UO kd,UE UG p,UE UG y] 112)) (UD (UI ⟨w'.heap.size,0,UJ⟩) 1 1) (by simpa using hf1) (hx.step 2 _ bb C7) bb;clear hK bb hf1;rw[AR AO];go_simp;simpa[Cr,d1] using hK'
       ·clear hdep;have hr:w'.heap[w.heap.size]?=UI (UP #[UD a Ln c,UD x m cx,UE UO f,UF d] 40 (0,0)):=by rw[hx.below.block _ (AG HE2.o.lt)];exact HE2.o.dev
        have hK':=hK w' (UN #[UD a Ln c,UD x m cx,UE UO f,UF d]) AM (hx.step 3 _ Cs C7) Cs;clear hK;rw[AR AO];refine BL 40 (UT 3) rfl (w.heap.size) rfl 40 _ (0,0) _ hr Tryz.underlying40 rfl HSD.o ?_;simpa[Cr,Act.put] using hK'
       ·clear hdep;have hK':=hK w' (UE UG qi) AM (hx.step 4 _ Cs C7) Cs;clear hK;rw[AR AO];go_simp;simpa[Cr,ew1,ew2] using hK'
       ·have d4:t 4=UE UG qi:=by simpa using(hdep ⟨4,UR⟩ AM rfl).2
        clear hdep;have hK':=hK w' (UE UG (qi+1)) AM (hx.step 5 _ Cs C7) Cs;clear hK;rw[AR AO];go_simp;simpa[Cr,d4,ew1,ew2] using hK'
       ·clear hdep;have hK':=hK w' (UE UO ni) AM (hx.step 6 _ Cs C7) Cs;clear hK;rw[AR AO];go_simp;simpa[Cr,ew1,ew2] using hK'
       ·have d6:t 6=UE UO ni:=by simpa using(hdep ⟨6,UR⟩ AM rfl).2
        clear hdep;have hK':=hK w' (UE UO (ni-1)) AM (hx.step 7 _ Cs C7) Cs;clear hK;rw[AR AO];go_simp;simpa[Cr,d6,ew1,ew2] using hK'
       ·have d3:t 3=UN #[UD a Ln c,UD x m cx,UE UO f,UF d]:=by simpa using(hdep ⟨3,UR⟩ AM rfl).2
        have d5:t 5=UE UG (qi+1):=by simpa using(hdep ⟨5,UR⟩ AM rfl).2
        have d7:t 7=UE UO (ni-1):=by simpa using(hdep ⟨7,UR⟩ AM rfl).2
        clear hdep;have bw:Below w.heap.size w w':=HE2.o.bel.trans (hx.below.mono HE2.o.bel.size);have A:=HI.o w' bw;have hK':∀ ww v,FW w.heap.size ww v R->Below w'.heap.size w' ww->K _ ww:=λww v hv hb=>hK ww v (by simpa using hv) (hx.step 8 v hb C7) hb
        clear hK;rw[AR AO];go_simp;try simp only[d3,d5,d7]
        refine A.mono ?_;rintro e w9 ⟨v9,rfl,p9,hb9⟩;have hK2:=hK' w9 v9 (p9.mono bw.size) hb9;clear hK' A p9 hb9;go_simp;simpa[Cr,d3,d5,d7,ew1,ew2] using hK2
       ·have f2:Rv w.heap.size s kd p y w' (t 2):=by simpa using(hdep ⟨2,UR⟩ AM rfl).2
        have f8:FW w.heap.size w' (t 8) R:=by simpa using(hdep ⟨8,UR⟩ AM rfl).2
        clear hdep;have bw:Below w.heap.size w w':=HE2.o.bel.trans (hx.below.mono HE2.o.bel.size);have hsz:=bw.size;have hK':∀ ww v,FW w.heap.size ww v (s::kd::p::y::R)->Below w'.heap.size w' ww->K _ ww:=λww v hv hb=>hK ww v (by simpa using hv) (hx.step 9 _ hb C7) hb
        clear hK;rw[AR AO];refine Pc w' (UT 34) (UT 40) rfl w.heap.size s kd p y R (t 2) (t 8) rfl rfl f2 f8 HRL.o hsz ?_;intro v9 w9 p9 hb9;have hK2:=hK' w9 v9 p9 hb9;clear hK' p9 hb9;simpa[Cr,Act.put] using hK2
       ·have f9:FW w.heap.size w' (t 9) (s::kd::p::y::R):=by simpa using(hdep ⟨9,UR⟩ AM rfl).2
        clear hdep;have hK':=hK w' (t 9) (by simpa using f9) (hx.step 10 _ Cs C7) Cs;clear hK;rw[AR AO];go_simp;simpa[Cr,ew1,ew2] using hK'
      case hdone=>
       intro L t w3 hx hg;have f10:FW w.heap.size w3 (t 10) (s::kd::p::y::R):=by simpa using hg 10 AL
       have HF:=Cp f10;have HBB:=Cp (HE2.o.below hx.below).bel;dsimp only;generalize t 10=vv at *;clear f10 hx hg;go_wp2
       go_ret
       refine⟨_,rfl,?_,HBB.o⟩;rw[HYS.o];exact HF.o
     ·have hne:(s != qi)=true:=by simp[he]
      have HN:=Cp (HNO.o (.inr he));clear HNO HYS0 HI HRW;have HBB:AP (Below w.heap.size w (w2.alloc (UP #[] 112))):=HE2.o.bel.trans ((Cs.alloc Cw _).mono HE2.o.bel.size);have HFE:AP (FW w.heap.size (w2.alloc (UP #[] 112)) (UD (UI ⟨w2.heap.size,0,UJ⟩) 0 0) []):=⟨w2.heap.size,0,0,rfl,HE2.o.bel.size,rfl,AY _,AM,λi hi=>absurd hi AM⟩
      go_wp2
      go_ret
      refine⟨_,rfl,?_,HBB.o⟩;rw[HN.o];exact HFE.o
  ·have HN:=Cp (IS (zs:=zs) (ps:=ps) (J:=Ln/64-4) (q:=q) (n:=n+1) (.inr (.inl AK)));clear F hps hA hP hqi hq hni hn hb;have hge:4000000000<=qi:=AK
   go_enter Tryz.func29,Tryz.ntmps29
   go_upto_region 1 with fail
   generalize w.alloc (UP #[UD a Ln c,UD x m cx,UE UO f,UF d] 40)=w0 at *;have HBB:AP (Below w.heap.size w (w0.alloc (UP #[] 112))):=HE0.o.bel.trans ((Cs.alloc Cw _).mono HE0.o.bel.size);have HFE:AP (FW w.heap.size (w0.alloc (UP #[] 112)) (UD (UI ⟨w0.heap.size,0,UJ⟩) 0 0) []):=⟨w0.heap.size,0,0,rfl,HE0.o.bel.size,rfl,AY _,AM,λi hi=>absurd hi AM⟩
   go_wp2
   go_ret
   refine⟨_,rfl,?_,HBB.o⟩;rw[HN.o];exact HFE.o
end Go.Proofs.YthmeoilbmfdhfaaGreat
