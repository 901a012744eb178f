import Derived.Test.YtjdhhgaelgemcaaGreatDoorMSvC
open Go.Proofs.Tryz renaming prog->tP
open Go.Proofs.Tryz
open Go.Value renaming slice->Z7,int->Z8,pointer->aF,bool->aG,agg->aH
open Go.IntKind renaming i64->aI,u8->Z9
open Go.Obj renaming cells->aJ
open Go.Ending renaming returned->aK
open Option renaming some->aE,none->aA
open Go renaming World->aC,Value->aB
set_option maxHeartbeats 8000000
set_option maxRecDepth 100000
namespace Go.Proofs.YtjdhhgaelgemcaaGreatDoor
open Go.ChangeShapes Go.WideShapes Go.ChangeAt Go.RowKit
set_option linter.unusedVariables false
def MG (w w':aC) (v:aB):Prop:=∀ k,v.ownBlock=aE k->w.heap.size<=k/\k<w'.heap.size
def Xj (w:aC) (v:aB):Prop:=∀ k,v.ownBlock=aE k->k<w.heap.size
def Yo (x y:aB):Prop:=∀ k,x.ownBlock=aE k->y.ownBlock≠aE k
structure JC (W:aC) (ps:List Nat) (L:Nat->Bool) (u:Nat->aB) (w:aC):Prop where
 below:Below W.heap.size W w
 blt:∀ p,p∈ps->L p=true->Xj w (u p)
 ap:∀ p,p∈ps->∀ q,q∈ps->p≠q->L p=true->L q=true->Yo (u p) (u q)
theorem JC.start (W:aC) (ps:List Nat) (L:Nat->Bool) (u:Nat->aB) (h:∀ i,L i=false):JC W ps L u W:=
 ⟨A9 _ _,λp _ hp=>(by rw[h] at hp;cases hp),λp _ q _ _ hp=>(by rw[h] at hp;cases hp)⟩
theorem JC.step {W:aC} {ps:List Nat} {L:Nat->Bool} {u:Nat->aB} {w w':aC} (h:JC W ps L u w) (i:Nat) (v:aB) (b:Below w.heap.size w w') (hv:i∈ps->MG w w' v):JC W ps (Cf L i) (Ce u i v) w':=by
 refine⟨h.below.trans (b.mono h.below.size),λp hp hl=>?_,λp hp q hq hne hlp hlq=>?_⟩
 ·by_cases e:p=i
  ·subst e;simp only[Ce,if_true];exact λk hk=>(hv hp k hk).2
  ·simp only[Cf,if_neg e] at hl;simp only[Ce,if_neg e];exact λk hk=>As (h.blt p hp hl k hk) b.size
 ·by_cases e:p=i
  ·subst e;have e2:¬ q=p:=λh=>hne h.symm
   simp only[Cf,if_neg e2] at hlq;simp only[Ce,if_true,if_neg e2];intro k hk hk';have h1:=(hv hp k hk).1;have h2:=h.blt q hq hlq k hk';omega
  ·by_cases e2:q=i
   ·subst e2;simp only[Cf,if_neg e] at hlp;simp only[Ce,if_true,if_neg e];intro k hk hk';have h1:=(hv hq k hk').1;have h2:=h.blt p hp hlp k hk;omega
   ·simp only[Cf,if_neg e,if_neg e2] at hlp hlq;simp only[Ce,if_neg e,if_neg e2];exact h.ap p hp q hq hne hlp hlq
theorem JC.drew {W:aC} {ps:List Nat} {L:Nat->Bool} {u:Nat->aB} {w:aC} (h:JC W ps L u w):JC W ps L u w.drew:=⟨⟨h.below.os,h.below.tape,h.below.output,h.below.size,h.below.block⟩,h.blt,h.ap⟩
structure NE (w:aC) (R last:Nat) (T:TypeId) (ZS:Array aB) (Fin:aC->Array aB->Prop) (ps:List Nat) (L:Nat->Bool) (u:Nat->aB) (w':aC):Prop where
 ax:JC w ps L u w'
 pre:L last=false->w'.heap[R]?=aE (aJ ZS T (0,0))
 fin:L last=true->∃ cs,w'.heap[R]?=aE (aJ cs T (0,0))/\Fin w' cs
section
variable {w:aC} {R last:Nat} {T:TypeId} {ZS:Array aB} {Fin:aC->Array aB->Prop} {ps:List Nat} {L:Nat->Bool} {u:Nat->aB} {w' w'':aC}
theorem NE.lt (h:NE w R last T ZS Fin ps L u w'):R<w'.heap.size:=by
 cases hl:L last with
 |false=>exact(AR.1 (h.pre hl)).1
 |true=>obtain⟨cs,h1,_⟩:=h.fin hl;exact(AR.1 h1).1
theorem NE.step (h:NE w R last T ZS Fin ps L u w') (stab:∀ a b cs,Below a.heap.size a b->Fin a cs->Fin b cs) (i:Nat) (hi:i≠last) (v:aB) (b:Below w'.heap.size w' w'') (hv:i∈ps->MG w' w'' v):NE w R last T ZS Fin ps (Cf L i) (Ce u i v) w'':=by
 have hlt:=h.lt;have e:Cf L i last=L last:=by unfold Cf;rw[AQ (λh=>hi h.symm)]
 refine⟨h.ax.step i v b hv,λhl=>?_,λhl=>?_⟩
 ·rw[b.block R hlt];exact h.pre (e ▸ hl)
 ·obtain⟨cs,h1,h2⟩:=h.fin (e ▸ hl);exact⟨cs,by rw[b.block R hlt];exact h1,stab _ _ _ b h2⟩
theorem NE.put (h:NE w R last T ZS Fin ps L u w') (hR:w.heap.size<=R) (hl:last∉ps) (v:aB) {cs:Array aB} (hw:Wr R w' w'') (hr:w''.heap[R]?=aE (aJ cs T (0,0))) (hf:Fin w'' cs):NE w R last T ZS Fin ps (Cf L last) (Ce u last v) w'':=by
 have hk:∀ p,p∈ps->p≠last:=λp hp e=>hl (e ▸ hp)
 refine⟨⟨h.ax.below.trans (hw.below hR),λp hp hlp=>?_,λp hp q hq hne hlp hlq=>?_⟩,λhx=>?_,λ_=>⟨cs,hr,hf⟩⟩
 ·simp only[Cf,if_neg (hk p hp)] at hlp;simp only[Ce,if_neg (hk p hp)];exact λk hk'=>by rw[hw.size];exact h.ax.blt p hp hlp k hk'
 ·simp only[Cf,if_neg (hk p hp)] at hlp;simp only[Cf,if_neg (hk q hq)] at hlq;simp only[Ce,if_neg (hk p hp),if_neg (hk q hq)];exact h.ax.ap p hp q hq hne hlp hlq
 ·unfold Cf at hx;simp at hx
theorem NE.start {wb:aC} (ax:JC w ps L u wb) (h:∀ i,L i=false) (hr:wb.heap[R]?=aE (aJ ZS T (0,0))):NE w R last T ZS Fin ps L u wb:=⟨ax,λ_=>hr,λhl=>(by rw[h] at hl;cases hl)⟩
end
theorem Tryz.infoI64:(tP.info? 2).map (λi=>(i.zero,i.size,i.bytes))=aE (aE (Z8 aI 0),1,8):=AM
def Hd (left:Int) (n:Nat):Int:=if left<n then -1 else left-n
theorem Og (a a':Option Addr) (n cap cap':Nat) (zs:List Int) (w:aC) (hn:zs.length=n) (hm:n<=1048576) (ha:At aI w a zs) (ha':At aI w a' zs) :
  Calls tP 33 #[Z7 a n cap,Z7 a' n cap'] w λe w'=>e=aK (aG true)/\∃ q,w'=w.drewN q:=by
 have h0:((n:Int) != (n:Int))=false:=AL
 go_enter func33,ntmps33;go_wp2
 go_loopw [5] (λi wr=>∃ k q:Nat,k<=n/\i=Z8 aI k/\wr=w.drewN q) (λi _=>n-(intOf i).toNat)
 case atStart=>exact⟨0,0,Au _,rfl,rfl⟩
 case round=>
  obtain⟨k,q,hk,rfl,rfl⟩:=hrel;by_cases hlt:k<n
  ·obtain⟨b,off,rfl,hb,hc⟩:=ha.get AJ;obtain⟨b',off',rfl,hb',hc'⟩:=ha'.get AJ;have g1:=hc k AJ;have g2:=hc' k AJ;generalize zs.getD k 0=x at *;have hx:(x != x)=false:=AL
   have hlt':(k:Int)<(n:Int):=AJ
   clear hc hc' ha ha';go_wp2
   go_quiet (fail)
   go_wp2;go_roundw
   case rel=>exact⟨k+1,_,AJ,by go_num,rfl⟩
   case measure=>simp[intOf];omega
  ·go_wp2
   go_ret
   exact⟨rfl,q,rfl⟩
theorem RK (s nw:Int) (w:aC):Calls tP 54 #[aH #[Z8 aI s,Z8 aI nw],aH #[Z8 aI s,Z8 aI nw]] w λe w'=>e=aK (aG true)/\Below w.heap.size w w':=by
 have HB:AO (Below w.heap.size w ((w.alloc (aJ #[Z8 aI s,Z8 aI nw] 77)).alloc (aJ #[Z8 aI s,Z8 aI nw] 77))):=(Cg.alloc Cl _).alloc AL _;go_enter func54,ntmps54;go_wp2
 go_ret
 exact⟨rfl,HB.o⟩
theorem RL (a a':Option Addr) (n c c':Nat) (T:List Int) (w:aC) (hl:T.length=n*2) (hn:n<=1048576) (ha:At aI w a T) (ha':At aI w a' T) :
  Calls tP 34 #[Z7 a n c,Z7 a' n c'] w λe w'=>e=aK (aG true)/\Below w.heap.size w w':=by
 have h0:((n:Int) != (n:Int))=false:=AL
 have HLT:AO (T.length=n*2):=hl;have HA:AO (At aI w a T):=ha;have HA':AO (At aI w a' T):=ha';clear hl ha ha';go_enter func34,ntmps34;go_wp2
 go_loopw [5] (λi wr=>∃ k:Nat,k<=n/\i=Z8 aI k/\Below w.heap.size w wr) (λi _=>n-(intOf i).toNat)
 case atStart=>exact⟨0,Au _,rfl,A9 _ _⟩
 case round=>
  obtain⟨k,hk,rfl,hbel⟩:=hrel;have HB:AO (Below w.heap.size w wr):=hbel;by_cases hlt:k<n
  ·have hlt':(k:Int)<n:=AJ
   obtain⟨b,o,ea,hb,hc⟩:=(HA.o.below hbel).get (AG HLT.o);obtain⟨b',o',ea',hb',hc'⟩:=(HA'.o.below hbel).get (AG HLT.o);have t0:=hc (k*2) (AG HLT.o);have t1:=hc (k*2+1) (AG HLT.o);have u0:=hc' (k*2) (AG HLT.o);have u1:=hc' (k*2+1) (AG HLT.o);rw[<-Ax] at t1 u1;subst ea ea';clear hc hc' hbel;generalize T.getD (k*2) 0=s at *;generalize T.getD (k*2+1) 0=nw at *;have HC1:AO (b<wr.heap.size/\wr.cell? ⟨b,o+k*2,aA⟩=aE (Z8 aI s)/\wr.cell? ⟨b,o+k*2+1,aA⟩=aE (Z8 aI nw)):=⟨hb,t0,t1⟩
   have HC2:AO (b'<wr.heap.size/\wr.cell? ⟨b',o'+k*2,aA⟩=aE (Z8 aI s)/\wr.cell? ⟨b',o'+k*2+1,aA⟩=aE (Z8 aI nw)):=⟨hb',u0,u1⟩
   clear hb hb' t0 t1 u0 u1;go_wp2_with fail;refine Ag AM ?_;refine DE (λ_ _ _=>True) (frame:=(λ(a b c d e f g h i j k l m n o p q:aB)=>λ(t:Nat->aB)=>({ tmps:=List.toArray [a,b,c,d,e,f,g,h,i,j,k,l,m,n,o,p,q,t 0,t 1,t 2,t 3,t 4,t 5,t 6,t 7,t 8,t 9],defers:=[] }:Act)) _ _ _ _ _ _ _ _ _ _ _ _ _ _ _ _ _)
    (Ext:=λL w'=>Below wr.heap.size wr w') (Good:=λi L w' v=>if i=0 then v=Z7 (aE ⟨b,o,aA⟩) n c else if i=1 then v=Z8 aI k else if i=2 then v=aF (aE ⟨b,o+k*2,aA⟩) else if i=3 then v=aH #[Z8 aI s,Z8 aI nw] else if i=4 then v=Z7 (aE ⟨b',o',aA⟩) n c' else if i=5 then v=Z8 aI k else if i=6 then v=aF (aE ⟨b',o'+k*2,aA⟩) else if i=7 then v=aH #[Z8 aI s,Z8 aI nw] else if i=8 then v=aG true else if i=9 then v=aG false else True) (λj L w9 w' i v _ _ _ h=>h) AM ?hop ?hdone _ _ ((λ(x0 x1 x2 x3 x4 x5 x6 x7 x8 x9:aB)=>λ(i:Nat)=>if i=0 then x0 else if i=1 then x1 else if i=2 then x2 else if i=3 then x3 else if i=4 then x4 else if i=5 then x5 else if i=6 then x6 else if i=7 then x7 else if i=8 then x8 else if i=9 then x9 else undef) _ _ _ _ _ _ _ _ _ _) _ AL ?ext ?start AL
   case start=>intro i hi h;exact absurd h Et
   case ext=>exact⟨rfl,rfl,rfl,Ac _,λ_ _=>rfl⟩
   case hop=>
    intro i o L t w' ho hLi hx hdep K hK;have hi:i<10:=(AR.1 ho).1;obtain rfl|rfl|rfl|rfl|rfl|rfl|rfl|rfl|rfl|rfl:i=0\/i=1\/i=2\/i=3\/i=4\/i=5\/i=6\/i=7\/i=8\/i=9:=AJ
    all_goals(simp at ho;subst ho)
    ·clear hdep;have hK':=hK w' (Z7 (aE ⟨b,o,aA⟩) n c) AL hx trivial;clear hK;rw[AP AN];go_simp;simpa[Ce] using hK'
    ·clear hdep;have hK':=hK w' (Z8 aI k) AL hx trivial;clear hK;rw[AP AN];go_simp;simpa[Ce] using hK'
    ·have d0:t 0=Z7 (aE ⟨b,o,aA⟩) n c:=by simpa using hdep ⟨0,.data⟩ AL rfl
     have d1:t 1=Z8 aI k:=by simpa using hdep ⟨1,.data⟩ AL rfl
     clear hdep;have hK':=hK w' (aF (aE ⟨b,o+k*2,aA⟩)) AL hx trivial;clear hK;rw[AP AN];go_simp;simpa[Ce,d0,d1] using hK'
    ·have d2:t 2=aF (aE ⟨b,o+k*2,aA⟩):=by simpa using hdep ⟨2,.data⟩ AL rfl
     clear hdep;have q0:w'.cell? ⟨b,o+k*2,aA⟩=aE (Z8 aI s):=by rw[hx.cell (p:=⟨b,o+k*2,aA⟩) HC1.o.1];exact HC1.o.2.1
     have q1:w'.cell? ⟨b,o+k*2+1,aA⟩=aE (Z8 aI nw):=by rw[hx.cell (p:=⟨b,o+k*2+1,aA⟩) HC1.o.1];exact HC1.o.2.2
     have hK':=hK w' (aH #[Z8 aI s,Z8 aI nw]) AL hx trivial;clear hK;rw[AP AN];go_simp;simpa[Ce,d2] using hK'
    ·clear hdep;have hK':=hK w' (Z7 (aE ⟨b',o',aA⟩) n c') AL hx trivial;clear hK;rw[AP AN];go_simp;simpa[Ce] using hK'
    ·clear hdep;have hK':=hK w' (Z8 aI k) AL hx trivial;clear hK;rw[AP AN];go_simp;simpa[Ce] using hK'
    ·have d4:t 4=Z7 (aE ⟨b',o',aA⟩) n c':=by simpa using hdep ⟨4,.data⟩ AL rfl
     have d5:t 5=Z8 aI k:=by simpa using hdep ⟨5,.data⟩ AL rfl
     clear hdep;have hK':=hK w' (aF (aE ⟨b',o'+k*2,aA⟩)) AL hx trivial;clear hK;rw[AP AN];go_simp;simpa[Ce,d4,d5] using hK'
    ·have d6:t 6=aF (aE ⟨b',o'+k*2,aA⟩):=by simpa using hdep ⟨6,.data⟩ AL rfl
     clear hdep;have q0:w'.cell? ⟨b',o'+k*2,aA⟩=aE (Z8 aI s):=by rw[hx.cell (p:=⟨b',o'+k*2,aA⟩) HC2.o.1];exact HC2.o.2.1
     have q1:w'.cell? ⟨b',o'+k*2+1,aA⟩=aE (Z8 aI nw):=by rw[hx.cell (p:=⟨b',o'+k*2+1,aA⟩) HC2.o.1];exact HC2.o.2.2
     have hK':=hK w' (aH #[Z8 aI s,Z8 aI nw]) AL hx trivial;clear hK;rw[AP AN];go_simp;simpa[Ce,d6] using hK'
    ·have d3:t 3=aH #[Z8 aI s,Z8 aI nw]:=by simpa using hdep ⟨3,.data⟩ AL rfl
     have d7:t 7=aH #[Z8 aI s,Z8 aI nw]:=by simpa using hdep ⟨7,.data⟩ AL rfl
     clear hdep;have A:=RK s nw w';have hK':∀ ww,Below w'.heap.size w' ww->K _ ww:=λww hb=>hK ww (aG true) AL (hx.trans (hb.mono hx.size)) trivial
     clear hK;rw[AP AN];go_simp;try simp only[d3,d7]
     refine A.mono ?_;rintro e w9 ⟨rfl,hb⟩;have hK2:=hK' w9 hb;clear hK' A hb;go_simp;simpa[Ce,d3,d7] using hK2
    ·have d8:t 8=aG true:=by simpa using hdep ⟨8,.data⟩ AL rfl
     clear hdep;have hK':=hK w' (aG false) AL hx trivial;clear hK;rw[AP AN];go_simp;simpa[Ce,d8] using hK'
   case hdone=>
    intro L t w' hx hg;have d9:t 9=aG false:=by simpa using hg 9 AK
    clear hg;have HBW:AO (Below w.heap.size w w'):=HB.o.trans (hx.mono HB.o.size);simp only[d9];clear hx d9;go_wp2;go_roundw
    case rel=>exact⟨k+1,AJ,by go_num,HBW.o⟩
    case measure=>simp[intOf];omega
  ·have hlt':¬ ((k:Int)<n):=AJ
   clear hbel;go_wp2
   go_ret
   exact⟨rfl,HB.o⟩
def DZ (w:aC) (g:Nat) (t:TypeId) (cs:Array aB):Prop:=w.heap[g]?=aE (aJ cs t (0,0))
theorem DZ.lt {w:aC} {g:Nat} {t:TypeId} {cs:Array aB} (h:DZ w g t cs):g<w.heap.size:=(AR.1 h).1
theorem DZ.below {w w':aC} {g:Nat} {t:TypeId} {cs:Array aB} (h:DZ w g t cs) (b:Below w.heap.size w w'):DZ w' g t cs:=by unfold DZ;rw[b.block g h.lt];exact h
theorem DZ.wr {w w':aC} {g V:Nat} {t:TypeId} {cs:Array aB} (h:DZ w g t cs) (hw:Wr V w w') (hne:V<g):DZ w' g t cs:=by unfold DZ;rw[hw.block g AJ];exact h
def iC (xs:List Int):Array aB:=(xs.map (Value.int aI)).toArray
theorem DZ.i64 {w:aC} {g:Nat} {t:TypeId} {xs:List Int} (h:DZ w g t (iC xs)):At aI w (aE ⟨g,0,aA⟩) xs:=
 .inr ⟨g,0,rfl,h.lt,λi hi=>by rw[Aq,AA h i];simp[iC,hi]⟩
theorem DZ.fz {w:aC} {g:Nat} {t:TypeId} {cs:Array aB} (h:DZ w g t cs) (i:Nat):w.frozen? ⟨g,i,aA⟩=false:=Ar w g i _ _ h
theorem DZ.of_owns {w:aC} {B g n:Nat} {xs:List Int} (h:w.ownsRow B 2 1 (Z7 (aE ⟨g,0,aA⟩) n n) n (xs.map (Value.int aI))):DZ w g 2 (iC xs):=by
 rcases h.2 with⟨h',_⟩|⟨g',cap,cur,h',hb,hh,hc,hm,hs,ht⟩
 ·cases h'
 ·cases h';unfold DZ;rw[hh];have:cur=iC xs:=by
   apply Array.toList_inj.1;rw[Ad (by rw[Array.length_toList,hs];exact Ac _)] at ht;rw[ht];simp[iC]
  rw[this]
theorem RO {cur:Array aB} {xs:List Int} {m:Nat} (hs:cur.size=m) (hl:xs.length=m) (h:∀ i,i<m->cur[i]?=aE (Z8 aI (xs.getD i 0))):cur=iC xs:=by
 apply Array.ext_getElem?;intro i;by_cases hi:i<m
 ·rw[h i hi];simp[iC,show i<xs.length by omega]
 ·rw[Array.getElem?_eq_none AJ,Array.getElem?_eq_none (by simp[iC];omega)]
structure NU (w:aC) (sc:Array aB) (wr:aC):Prop where
 below:Below w.heap.size w wr
 box:wr.heap[w.heap.size]?=aE (aJ sc 33 (0,0))
theorem NU.lt {w wr:aC} {sc:Array aB} (h:NU w sc wr):w.heap.size<wr.heap.size:=(AR.1 h.box).1
theorem NU.call {w wr w':aC} {sc:Array aB} (h:NU w sc wr) (b:Below wr.heap.size wr w'):NU w sc w':=⟨h.below.trans (b.mono h.below.size),by rw[b.block _ h.lt];exact h.box⟩
theorem NU.drew {w wr:aC} {sc:Array aB} (h:NU w sc wr) (q:Nat):NU w sc (wr.drewN q):=⟨EG h.below q,h.box⟩
theorem Oh (aD aU aT:Option Addr) (nD cD nU cU nT cT:Nat) (D U:List Int) (k:Int) (T:List Int) (w:aC) (hD:D.length=nD) (hU:U.length=nU) (hT:T.length=nT*2) (mD:nD<=1048576) (mU:nU<=1048576) (mT:nT<=1048576)
  (haD:At aI w aD D) (haU:At aI w aU U) (haT:At aI w aT T) (hk0:-9223372036854775808<=k) (hk1:k<9223372036854775808) :
  Calls tP 23 #[aH #[Z7 aD nD cD,Z7 aU nU cU,Z8 aI k,Z7 aT nT cT]] w λe w'=>e=aK (aG (FL D U k T nT))/\Below w.heap.size w w':=by
 have HE0:AO (NU w #[Z7 aD nD cD,Z7 aU nU cU,Z8 aI k,Z7 aT nT cT] (w.alloc (aJ #[Z7 aD nD cD,Z7 aU nU cU,Z8 aI k,Z7 aT nT cT] 33))):=⟨Cg.alloc Cl _,AX w _⟩
 have HAD:AO (At aI w aD D):=haD;have HAU:AO (At aI w aU U):=haU;have HAT:AO (At aI w aT T):=haT;have HLT:AO (T.length=nT*2):=hT;have HLN:AO (D.length=nD/\U.length=nU):=⟨hD,hU⟩
 have HKB:AO (-9223372036854775808<=k/\k<9223372036854775808):=⟨hk0,hk1⟩
 clear haD haU haT hT hD hU hk0 hk1;go_enter func23,ntmps23;go_wp2_with fail;generalize (w.alloc (aJ #[Z7 aD nD cD,Z7 aU nU cU,Z8 aI k,Z7 aT nT cT] 33))=w0 at *;refine(It aD nD cD D _ HLN.o.1 mD (HAD.o.below HE0.o.below)).mono ?_;rintro e w1' ⟨rfl,q1,rfl⟩;have HE1:AO (NU w #[Z7 aD nD cD,Z7 aU nU cU,Z8 aI k,Z7 aT nT cT] (w0.drewN q1)):=HE0.o.drew q1;clear HE0;generalize w0.drewN q1=w1 at *;have HB:AO (Below w.heap.size w w1):=HE1.o.below;have c0:w1.cell? ⟨w.heap.size,0,aA⟩=aE (Z7 aD nD cD):=by rw[AA HE1.o.box 0];rfl
 have c1:w1.cell? ⟨w.heap.size,1,aA⟩=aE (Z7 aU nU cU):=by rw[AA HE1.o.box 1];rfl
 cases hsD:Hl D with
 |false=>
  have HPD:AO (¬ Dk D):=λh=>by rw[Fv h] at hsD;cases hsD
  have HFB:AO (FL D U k T nT=false):=EQ (λh=>HPD.o h.1);go_wp2
  go_ret
  exact⟨by rw[HFB.o];rfl,HB.o⟩
 |true=>
 have HPD:AO (Dk D):=(IJ D).1 hsD;by_cases h16:nD<=16
 ·have h16':decide ((16:Int)<(nD:Int))=false:=Af AJ;go_wp2_with fail;refine(It aU nU cU U _ HLN.o.2 mU (HAU.o.below HE1.o.below)).mono ?_;rintro e w2' ⟨rfl,q2,rfl⟩;have HE2:AO (NU w #[Z7 aD nD cD,Z7 aU nU cU,Z8 aI k,Z7 aT nT cT] (w1.drewN q2)):=HE1.o.drew q2;clear HE1 HB c0 c1;generalize w1.drewN q2=w2 at *;have HB:AO (Below w.heap.size w w2):=HE2.o.below;have c1:w2.cell? ⟨w.heap.size,1,aA⟩=aE (Z7 aU nU cU):=by rw[AA HE2.o.box 1];rfl
  have c2:w2.cell? ⟨w.heap.size,2,aA⟩=aE (Z8 aI k):=by rw[AA HE2.o.box 2];rfl
  have c3:w2.cell? ⟨w.heap.size,3,aA⟩=aE (Z7 aT nT cT):=by rw[AA HE2.o.box 3];rfl
  cases hsU:Hl U with
  |false=>
   have HPU:AO (¬ Dk U):=λh=>by rw[Fv h] at hsU;cases hsU
   have HFB:AO (FL D U k T nT=false):=EQ (λh=>HPU.o h.2.2.1);go_wp2
   go_ret
   exact⟨by rw[HFB.o];rfl,HB.o⟩
  |true=>
  have HPU:AO (Dk U):=(IJ U).1 hsU;by_cases hk:k<0
  ·have HK9:AO (k<0):=hk;have hkb:decide (k<0)=true:=Al hk;clear hk c1 c3;have HFB:AO (FL D U k T nT=false):=EQ (λh=>AH h.2.2.2.1 HK9.o);go_wp2
   go_ret
   exact⟨by rw[HFB.o];rfl,HB.o⟩
  ·have HK9:AO (0<=k):=by show _<=_;omega
   have hkb:decide (k<0)=false:=Af hk;by_cases hka:k+(nT:Int)=nU
   ·have HKA:AO (k+nT=U.length):=by show _=_;rw[HLN.o.2];exact hka
    have hwr:IntKind.i64.wrap (k+(nT:Int))=(nU:Int):=by rw[An];omega
    have hwr2:wrap64 (k+(nT:Int))=(nU:Int):=by unfold wrap64;omega
    clear hka hk;go_wp2_with fail;clear HB c1 c2 c3 hwr hwr2 hkb h16' hsD hsU
    go_loopw [3] (λi wr=>∃ m:Nat,m<=nT/\i=Z8 aI m/\NU w #[Z7 aD nD cD,Z7 aU nU cU,Z8 aI k,Z7 aT nT cT] wr/\AO (∀ j,j<m->Pg U T j)) (λi _=>nT-(intOf i).toNat)
    case atStart=>exact⟨0,Au _,rfl,HE2.o,λj hj=>AJ⟩
    case round=>
     clear HE2;obtain⟨m,hm,rfl,hE,hno⟩:=hrel;have c1:wr.cell? ⟨w.heap.size,1,aA⟩=aE (Z7 aU nU cU):=by rw[AA hE.box 1];rfl
     have c3:wr.cell? ⟨w.heap.size,3,aA⟩=aE (Z7 aT nT cT):=by rw[AA hE.box 3];rfl
     have HE:AO (NU w #[Z7 aD nD cD,Z7 aU nU cU,Z8 aI k,Z7 aT nT cT] wr):=hE;clear hE;by_cases hlt:m<nT
     ·have hlt':(m:Int)<nT:=AJ
      obtain⟨b,off,ea,hb,hc⟩:=(HAT.o.below HE.o.below).get (AG HLT.o);have t0:=hc (m*2) (AG HLT.o);have t1:=hc (m*2+1) (AG HLT.o);rw[<-Ax] at t1;subst ea;have HCT:AO (∀ j,j<nT->wr.cell? ⟨b,off+j*2,aA⟩=aE (Z8 aI (T.getD (j*2) 0))):=λj hj=>hc (j*2) (AG HLT.o)
      have HBL:AO (b<wr.heap.size):=hb;have HTI:AO (Pg U T m↔(T.getD (m*2) 0∈U/\(0<=T.getD (m*2+1) 0/\T.getD (m*2+1) 0<=4294967295)/\∀ j,j<m->T.getD (j*2) 0≠T.getD (m*2) 0)):=Iff.rfl;generalize T.getD (m*2) 0=s at *;generalize T.getD (m*2+1) 0=nw at *;have b1:Below wr.heap.size wr (wr.alloc (aJ #[Z8 aI s,Z8 aI nw] 77)):=Cg.alloc Cl _;have HEW:AO (NU w #[Z7 aD nD cD,Z7 aU nU cU,Z8 aI k,Z7 (aE ⟨b,off,aA⟩) nT cT] (wr.alloc (aJ #[Z8 aI s,Z8 aI nw] 77))):=HE.o.call b1;have HBW:AO (Below w.heap.size w (wr.alloc (aJ #[Z8 aI s,Z8 aI nw] 77))):=HEW.o.below;have HRT:AO ((wr.alloc (aJ #[Z8 aI s,Z8 aI nw] 77)).heap[wr.heap.size]?=aE (aJ #[Z8 aI s,Z8 aI nw] 77 (0,0))):=AX wr _;have HCW:AO (∀ j,j<nT->(wr.alloc (aJ #[Z8 aI s,Z8 aI nw] 77)).cell? ⟨b,off+j*2,aA⟩=aE (Z8 aI (T.getD (j*2) 0))):=λj hj=>by rw[b1.cell (p:=⟨b,off+j*2,aA⟩) HBL.o];exact HCT.o j hj
      have d1:(wr.alloc (aJ #[Z8 aI s,Z8 aI nw] 77)).cell? ⟨w.heap.size,1,aA⟩=aE (Z7 aU nU cU):=by rw[AA HEW.o.box 1];rfl
      have d3:(wr.alloc (aJ #[Z8 aI s,Z8 aI nw] 77)).cell? ⟨w.heap.size,3,aA⟩=aE (Z7 (aE ⟨b,off,aA⟩) nT cT):=by rw[AA HEW.o.box 3];rfl
      clear hc hb b1 HCT;by_cases hn0:nw<0
      ·have hn0':decide (nw<0)=true:=Al hn0;have HX:AO (nw<0):=hn0;clear hn0;have HFB:AO (FL D U k T nT=false):=EQ (λh=>AH (HTI.o.1 (h.2.2.2.2.2 m hlt)).2.1.1 HX.o);go_wp2
       go_ret
       exact⟨by rw[HFB.o];rfl,HBW.o⟩
      ·have hn0':decide (nw<0)=false:=Af hn0;by_cases hn1:4294967295<nw
       ·have hn1':decide (4294967295<nw)=true:=Al hn1;have HX:AO (4294967295<nw):=hn1;clear hn1 hn0;have HFB:AO (FL D U k T nT=false):=EQ (λh=>AH (HTI.o.1 (h.2.2.2.2.2 m hlt)).2.1.2 HX.o);go_wp2
        go_ret
        exact⟨by rw[HFB.o];rfl,HBW.o⟩
       ·have hn1':decide (4294967295<nw)=false:=Af hn1;have HNW:AO (0<=nw/\nw<=4294967295):=⟨AJ,AJ⟩
        clear hn0 hn1;go_wp2_with fail;refine(Dd aU nU cU U s _ HLN.o.2 mU (HAU.o.below HBW.o)).mono ?_;rintro e w5 ⟨rfl,rfl⟩;by_cases hin:s∈U
        ·rw[Fb hin];have HIN:AO (s∈U):=hin;clear hin;have d0:(wr.alloc (aJ #[Z8 aI s,Z8 aI nw] 77)).cell? ⟨wr.heap.size,0,aA⟩=aE (Z8 aI s):=by rw[AA HRT.o 0];rfl
         have t0':=HCW.o m hlt;clear t0 t1 t0' c1 c3;go_wp2_with fail;generalize wr.alloc (aJ #[Z8 aI s,Z8 aI nw] 77)=W at *
         go_loopw [5] (λi wq=>∃ j:Nat,j<=m/\i=Z8 aI j/\AO (∃ p,wq=W.drewN p)/\AO (∀ l,l<j->T.getD (l*2) 0≠s)) (λi _=>m-(intOf i).toNat)
         case atStart=>exact⟨0,Au _,rfl,⟨0,rfl⟩,λl hl=>AJ⟩
         case round=>
          obtain⟨j,hj,rfl,hwp,hne⟩:=hrel;obtain⟨p,rfl⟩:=hwp.o;clear hwp;by_cases hjm:j<m
          ·have hjm':(j:Int)<m:=AJ
           have hjn:(j:Int)<nT:=AJ
           have tj:=HCW.o j AJ;by_cases hes:T.getD (j*2) 0=s
           ·have HX:AO (T.getD (j*2) 0=s):=hes;have HBQ:AO (∀ n,Below w.heap.size w ((W.drewN p).drewN n)):=λn=>EG (EG HBW.o p) n
            rw[hes] at tj;clear hes;have HFB:AO (FL D U k T nT=false):=EQ (λh=>(HTI.o.1 (h.2.2.2.2.2 m hlt)).2.2 j hjm HX.o);go_wp2_with fail
            go_quiet (fail)
            go_wp2
            go_ret
            exact⟨by rw[HFB.o];rfl,by first|exact HBQ.o _|exact EG HBW.o _⟩
           ·have HN:AO (∀ l,l<j+1->T.getD (l*2) 0≠s):=λl hl=>by
             by_cases hlj:l<j
             ·exact hne.o l hlj
             ·have:l=j:=AJ
              rw[this];exact hes
            have hes':(T.getD (j*2) 0 == s)=false:=by simpa using hes
            clear hes hne;generalize T.getD (j*2) 0=y at *;go_wp2_with fail
            go_quiet (fail)
            go_wp2;go_roundw
            case rel=>exact⟨j+1,AJ,by go_num,by first|exact⟨_,rfl⟩|exact⟨_,dN _ _ _⟩,HN⟩
            case measure=>simp[intOf];omega
          ·have hjm':¬ ((j:Int)<m):=AJ
           have HN:AO (∀ l,l<m+1->Pg U T l):=λl hl=>by
            by_cases hlm:l<m
            ·exact hno.o l hlm
            ·have e:l=m:=AJ
             subst e;exact HTI.o.2 ⟨HIN.o,HNW.o,λl' hl'=>hne.o l' AJ⟩
           have HEQ:AO (NU w #[Z7 aD nD cD,Z7 aU nU cU,Z8 aI k,Z7 (aE ⟨b,off,aA⟩) nT cT] (W.drewN p)):=HEW.o.drew p;go_wp2;go_roundw
           case rel=>exact⟨m+1,AJ,by go_num,HEQ.o,HN⟩
           case measure=>simp[intOf];omega
        ·rw[Hc hin];have HIN:AO (¬ s∈U):=hin;clear hin;have HFB:AO (FL D U k T nT=false):=EQ (λh=>HIN.o (HTI.o.1 (h.2.2.2.2.2 m hlt)).1);go_wp2
         go_ret
         exact⟨by rw[HFB.o];rfl,HBW.o⟩
     ·have hlt':¬ ((m:Int)<nT):=AJ
      have HYE:AO (FL D U k T nT=true):=Oe ⟨HPD.o,by rw[HLN.o.1];exact h16,HPU.o,HK9.o,HKA.o,λi hi=>hno.o i AJ⟩;have HBW:AO (Below w.heap.size w wr):=HE.o.below;go_wp2
      go_ret
      exact⟨by rw[HYE.o];rfl,HBW.o⟩
   ·have HKN:AO (¬ k+(nT:Int)=nU):=hka;have hwr:(IntKind.i64.wrap (k+(nT:Int)) == (nU:Int))=false:=by
     have:=HKB.o;simp only[beq_eq_false_iff_ne,ne_eq];rw[An];omega
    have hwr2:(wrap64 (k+(nT:Int)) == (nU:Int))=false:=by
     have:=HKB.o;simp only[beq_eq_false_iff_ne,ne_eq];unfold wrap64;omega
    clear hka hk;have HFB:AO (FL D U k T nT=false):=EQ (λh=>by have:=h.2.2.2.2.1;rw[HLN.o.2] at this;exact HKN.o this);go_wp2
    go_ret
    exact⟨by rw[HFB.o];rfl,HB.o⟩
 ·have h16':decide ((16:Int)<(nD:Int))=true:=Al AJ;have HFB:AO (FL D U k T nT=false):=EQ (λh=>by have:=h.2.1;rw[HLN.o.1] at this;omega);go_wp2
  go_ret
  exact⟨by rw[HFB.o];rfl,HB.o⟩
end Go.Proofs.YtjdhhgaelgemcaaGreatDoor
namespace Go.Proofs.YtjdhhgaelgemcaaGreatDoor
open Go.ChangeShapes Go.WideShapes Go.ChangeAt Go.RowKit
set_option linter.unusedVariables false
theorem JD (d u:List Int) (k:Int) (v:aB) (i:Nat):(Fn d u k v)[i]?=(d.map (Value.int Z9)++u.map (Value.int Z9)++[Z8 aI k,v])[i]?:=by unfold Fn;simp
theorem Xk {d u:List Int} (hd:d.length=32) (hu:u.length=32) (k:Int) (v:aB) (i:Nat) (hi:i<32):(Fn d u k v)[i]?=aE (Z8 Z9 (d.getD i 0)):=by
 rw[JD,List.append_assoc,BQ (by simp[hd,hi])];simp[hd,hi]
theorem Xl {d u:List Int} (hd:d.length=32) (hu:u.length=32) (k:Int) (v:aB) (i:Nat) (hi:i<32):(Fn d u k v)[32+i]?=aE (Z8 Z9 (u.getD i 0)):=by
 rw[JD,BQ (by simp[hd,hu];omega),BO (by simp[hd])];simp[hd,hu,hi]
theorem Xm {d u:List Int} (hd:d.length=32) (hu:u.length=32) (k:Int) (v:aB):(Fn d u k v)[64]?=aE (Z8 aI k):=by
 rw[JD,BO (by simp[hd,hu])];simp[hd,hu]
theorem Xn {d u:List Int} (hd:d.length=32) (hu:u.length=32) (k:Int) (v:aB):(Fn d u k v)[65]?=aE v:=by
 rw[JD,BO (by simp[hd,hu])];simp[hd,hu]
theorem KR {d u:List Int} (hd:d.length=32) (k:Int) (v:aB) (i:Nat) (hi:i<32) (x:Int):(Fn d u k v).setIfInBounds i (Z8 Z9 x)=Fn (d.set i x) u k v:=by
 unfold Fn;rw[B0,List.append_assoc,List.set_append_left _ _ (by simp[hd,hi]),<-List.append_assoc,<-List.map_set]
theorem Pp {d u:List Int} (hd:d.length=32) (hu:u.length=32) (k:Int) (v:aB) (i:Nat) (hi:i<32) (x:Int):(Fn d u k v).setIfInBounds (32+i) (Z8 Z9 x)=Fn d (u.set i x) k v:=by
 unfold Fn;rw[B0,List.set_append_left _ _ (by simp[hd,hu];omega),Bz _ _ (by simp[hd]),Bn,hd,Nat.add_sub_cancel_left,<-List.map_set]
theorem Pq {d u:List Int} (hd:d.length=32) (hu:u.length=32) (k:Int) (v:aB) (k':Int):(Fn d u k v).setIfInBounds 64 (Z8 aI k')=Fn d u k' v:=by
 unfold Fn;rw[B0,Bz _ _ (by simp[hd,hu])];simp[hd,hu]
theorem Pr {d u:List Int} (hd:d.length=32) (hu:u.length=32) (k:Int) (v v':aB):(Fn d u k v).setIfInBounds 65 v'=Fn d u k v':=by
 unfold Fn;rw[B0,Bz _ _ (by simp[hd,hu])];simp[hd,hu]
structure Bk (w:aC) (g:Nat) (d u:List Int) (k:Int) (v:aB):Prop where
 row:w.heap[g]?=aE (aJ (Fn d u k v) 67 (0,0))
 ld:d.length=32
 lu:u.length=32
 bd:Ci d
 bu:Ci u
variable {w w':aC} {g:Nat} {d u:List Int} {k:Int} {v:aB}
theorem Bk.lt (h:Bk w g d u k v):g<w.heap.size:=(AR.1 h.row).1
theorem Bk.batd (h:Bk w g d u k v):NP w g 0 d:=⟨h.ld,h.bd,λi hi=>by
 rw[Aq];exact⟨(AA h.row _).trans (Xk h.ld h.lu k v i hi),Ar _ _ _ _ _ h.row⟩⟩
theorem Bk.batu (h:Bk w g d u k v):NP w g 32 u:=⟨h.lu,h.bu,λi hi=>⟨(AA h.row _).trans (Xl h.ld h.lu k v i hi),Ar _ _ _ _ _ h.row⟩⟩
theorem Bk.ck (h:Bk w g d u k v):w.cell? ⟨g,64,aA⟩=aE (Z8 aI k):=(AA h.row _).trans (Xm h.ld h.lu k v)
theorem Bk.cv (h:Bk w g d u k v):w.cell? ⟨g,65,aA⟩=aE v:=(AA h.row _).trans (Xn h.ld h.lu k v)
theorem Bk.fz (h:Bk w g d u k v) (i:Nat):w.frozen? ⟨g,i,aA⟩=false:=Ar _ _ _ _ _ h.row
theorem Bk.below (h:Bk w g d u k v) {B:Nat} (b:Below B w w') (hg:g<B):Bk w' g d u k v:=⟨by rw[b.block g hg];exact h.row,h.ld,h.lu,h.bd,h.bu⟩
theorem Bk.drew (h:Bk w g d u k v) (q:Nat):Bk (w.drewN q) g d u k v:=⟨h.row,h.ld,h.lu,h.bd,h.bu⟩
theorem MH (bs:List Int) (i:Nat):(Ds bs i).length=bs.length:=by unfold Ds;simp
theorem RP (bs:List Int) (i:Nat):(FD bs i).length=bs.length:=by unfold FD;simp
theorem KU {bs:List Int} (h:Ci bs) (i:Nat):Ci (Ds bs i):=by
 have hx:=h.get (i/8);obtain⟨a,b,c⟩:=KL _ (i%8) hx.1 hx.2 AJ;exact II h _ _ a b
theorem Ps {bs:List Int} (h:Ci bs) (i:Nat):Ci (FD bs i):=by
 have hx:=h.get (i/8);obtain⟨a,b,c⟩:=JT _ (i%8) hx.1 hx.2 AJ;exact II h _ _ a b
theorem KV (bs:List Int) (i:Nat) (h:i/8<bs.length):bs.set (i/8) ((Ds bs i).getD (i/8) 0)=Ds bs i:=by
 unfold Ds;rw[ES _ _ _ _ h,AP rfl]
theorem Pu (bs:List Int) (i:Nat) (h:i/8<bs.length):bs.set (i/8) ((FD bs i).getD (i/8) 0)=FD bs i:=by
 unfold FD;rw[ES _ _ _ _ h,AP rfl]
theorem Bk.addD (h:Bk w g d u k v) (i:Nat) (hi:i<256):Bk (w.setCell ⟨g,0+i/8,aA⟩ (Z8 Z9 ((Ds d i).getD (i/8) 0))) g (Ds d i) u k v:=
 ⟨by rw[Aq,A8 _ _ _ _ _ _ h.row,KR h.ld _ _ _ AJ,KV _ _ (AG h.ld)],by rw[MH];exact h.ld,h.lu,KU h.bd i,h.bu⟩
theorem Bk.remD (h:Bk w g d u k v) (i:Nat) (hi:i<256):Bk (w.setCell ⟨g,0+i/8,aA⟩ (Z8 Z9 ((FD d i).getD (i/8) 0))) g (FD d i) u k v:=
 ⟨by rw[Aq,A8 _ _ _ _ _ _ h.row,KR h.ld _ _ _ AJ,Pu _ _ (AG h.ld)],by rw[RP];exact h.ld,h.lu,Ps h.bd i,h.bu⟩
theorem Bk.addU (h:Bk w g d u k v) (i:Nat) (hi:i<256):Bk (w.setCell ⟨g,32+i/8,aA⟩ (Z8 Z9 ((Ds u i).getD (i/8) 0))) g d (Ds u i) k v:=
 ⟨by rw[A8 _ _ _ _ _ _ h.row,Pp h.ld h.lu _ _ _ AJ,KV _ _ (AG h.lu)],h.ld,by rw[MH];exact h.lu,h.bd,KU h.bu i⟩
theorem Bk.setK (h:Bk w g d u k v) (k':Int):Bk (w.setCell ⟨g,64,aA⟩ (Z8 aI k')) g d u k' v:=
 ⟨by rw[A8 _ _ _ _ _ _ h.row,Pq h.ld h.lu],h.ld,h.lu,h.bd,h.bu⟩
theorem Bk.setV (h:Bk w g d u k v) (v':aB):Bk (w.setCell ⟨g,65,aA⟩ v') g d u k v':=
 ⟨by rw[A8 _ _ _ _ _ _ h.row,Pr h.ld h.lu],h.ld,h.lu,h.bd,h.bu⟩
theorem LB (a:Option Addr) (n c:Nat) (hb:Bk w g d u k (Z7 a n c)) (h0:0<=k) (h1:k<=1048576) (hn:n<=1048576) :
  Calls tP 68 #[aF (aE ⟨g,0,aA⟩)] w λe w'=>e=aK (Z8 aI (k+n))/\∃ q,w'=w.drewN q:=by
 have c0:=hb.ck;have c1:=hb.cv;clear hb;go_enter func68,ntmps68;go_wp2_with fail
 go_region
 go_wp2
 go_ret
 exact⟨rfl,1,rfl⟩
theorem MI (hb:Bk w g d u k v) :
  Calls tP 67 #[aF (aE ⟨g,0,aA⟩)] w λe w'=>e=aK (aG (decide (GB d 32=16)))/\w'=w:=by
 have HB:AO (NP w g 0 d):=hb.batd;clear hb;go_enter func67,ntmps67;go_wp2_with fail;refine(RH g 0 d _ HB.o).mono ?_;rintro e w2 ⟨rfl,rfl⟩;clear HB;by_cases hs:GB d 32=16
 ·have HD:AO (decide (GB d 32=16)=true):=Al hs;rw[hs];go_wp2
  go_ret
  exact⟨by rw[HD.o];rfl,rfl⟩
 ·have HD:AO (decide (GB d 32=16)=false):=Af hs;have HE:AO ((((GB d 32:Nat):Int) == 16)=false):=by
   show _=_
   have:¬ (((GB d 32:Nat):Int)=16):=AJ
   simpa using this
  clear hs;go_wp2
  go_ret
  exact⟨by rw[HD.o,<-HE.o];rfl,rfl⟩
end Go.Proofs.YtjdhhgaelgemcaaGreatDoor
namespace Go.Proofs.YtjdhhgaelgemcaaGreatDoor
open Go.ChangeShapes Go.WideShapes Go.ChangeAt Go.RowKit
set_option linter.unusedVariables false
variable {w w':aC} {g:Nat} {d u:List Int} {k:Int} {v:aB}
theorem RQ (hb:Bk w g d u k (Z7 aA 0 0)) (h0:0<=k) (h1:k<=1048576) :
  Calls tP 69 #[aF (aE ⟨g,0,aA⟩),Z8 aI k] w λe w'=>e=aK (.tuple #[])/\∃ q,w'=(((w.setCell ⟨g,65,aA⟩ (Z7 aA 0 0)).drewN q).setCell ⟨g,64,aA⟩ (Z8 aI k)):=by
 have c0:=hb.ck;have c1:=hb.cv;have f0:=hb.fz 64;have f1:=hb.fz 65;have hb2:=hb.setV (Z7 aA 0 0);have c2:=hb2.ck;have f2:=hb2.fz 64;clear hb hb2;go_enter func69,ntmps69;go_wp2_with fail
 go_region
 go_wp2
 go_end0
 exact⟨rfl,1,rfl⟩
def NV (t o n c m:Nat):aB:=Z7 (if c=m then aE ⟨t,o,aA⟩ else aE ⟨t,o+m*2,aA⟩) (n-m:Nat) (c-m:Nat)
theorem RT (t o n c m:Nat) (hb:Bk w g d u k (Z7 (aE ⟨t,o,aA⟩) n c)) (h0:0<=k) (h1:k<=1048576) (hm:m<=n) (hc:n<=c) (hn:n<=1048576) (hcm:c<=9223372036854775807) :
  Calls tP 69 #[aF (aE ⟨g,0,aA⟩),Z8 aI (k+m)] w λe w'=>e=aK (.tuple #[])/\∃ q,w'=(((w.setCell ⟨g,65,aA⟩ (NV t o n c m)).drewN q).setCell ⟨g,64,aA⟩ (Z8 aI (k+m))):=by
 have c0:=hb.ck;have c1:=hb.cv;have f0:=hb.fz 64;have f1:=hb.fz 65;have hb2:=hb.setV (NV t o n c m);have c2:=hb2.ck;have f2:=hb2.fz 64;have HK:AO ((k+(m:Int)-k).toNat=m):=by show _=_;omega
 have HV:AO (Z7 (if c=m then aE ⟨t,o,aA⟩ else aE ⟨t,o+m*2,aA⟩) (n-m:Nat) (c-m:Nat)=NV t o n c m):=rfl;clear hb hb2;go_enter func69,ntmps69;go_wp2_with fail
 go_region
 rw[HK.o,HV.o];clear HK HV;go_wp2
 go_end0
 exact⟨rfl,1,rfl⟩
end Go.Proofs.YtjdhhgaelgemcaaGreatDoor
namespace Go.Proofs.YtjdhhgaelgemcaaGreatDoor
open Go.ChangeShapes Go.WideShapes Go.ChangeAt Go.RowKit
set_option linter.unusedVariables false
variable {w w':aC} {g:Nat} {d u:List Int} {k:Int} {v:aB}
def NF (g:Nat) (v:aB):Prop:=∀ t,v.ownBlock=aE t->t≠g
def Du (B:Nat) (w:aC) (v:aB) (T:List Int) (n:Nat):Prop:=
 T.length=n*2/\((v=Z7 aA 0 0/\n=0)\/
  ∃ t o c,v=Z7 (aE ⟨t,o,aA⟩) n c/\B<=t/\t<w.heap.size/\n<=c/\c<=9223372036854775807/\(∀ i,i<n*2->w.cell? ⟨t,o+i,aA⟩=aE (Z8 aI (T.getD i 0))/\w.frozen? ⟨t,o+i,aA⟩=false)/\∃ cs,w.heap[t]?=aE (aJ cs 77 (0,0))/\o+c*2<=cs.size)
theorem C7.tapV {B:Nat} {T:List Int} {n:Nat} (h:C7 B w v T n):Du B w v T n:=by
 have hT:T.length=n*2:=by simpa using h.1
 refine⟨hT,?_⟩;rcases h.2 with⟨h1,h2⟩|⟨t,c,cur,h1,h2,h3,h4,h5,h6,h7⟩
 ·exact .inl ⟨h1,h2⟩
 ·refine .inr ⟨t,0,c,h1,h2,(AR.1 h3).1,h4,by unfold maxLen at h5;omega,λi hi=>?_,cur,h3,AJ⟩;rw[Aq];refine⟨?_,Ar _ _ _ _ _ h3⟩;subst h1;rw[World.ownsRow.cellAt h i hi];simp[show i<T.length by omega]
theorem Du.block {B:Nat} {T:List Int} {n:Nat} (h:Du B w v T n) (hs:w.heap.size<=w'.heap.size) (hb:∀ t,v.ownBlock=aE t->t<w.heap.size->w'.heap[t]?=w.heap[t]?):Du B w' v T n:=by
 obtain⟨h1,h2|⟨t,o,c,e,hB,ht,hc,hm,hx,cs,hcs,hsz⟩⟩:=h
 ·exact⟨h1,.inl h2⟩
 ·have hk:=hb t (by rw[e];rfl) ht;refine⟨h1,.inr ⟨t,o,c,e,hB,AJ,hc,hm,λi hi=>?_,cs,by rw[hk];exact hcs,hsz⟩⟩;rw[Ai (a:=⟨t,o+i,aA⟩) (w:=w) hk,World.frozen?_of_block (a:=⟨t,o+i,aA⟩) (w:=w) hk];exact hx i hi
theorem Du.drop {B t o c:Nat} {T:List Int} {n:Nat} (h:Du B w (Z7 (aE ⟨t,o,aA⟩) n c) T n) (m:Nat) (hm:m<=n):Du B w (NV t o n c m) (T.drop (m*2)) (n-m):=by
 obtain⟨h1,⟨h2,_⟩|⟨t',o',c',e,hB,ht,hc,hx,hy,cs,hcs,hsz⟩⟩:=h
 ·cases h2
 ·cases e;refine⟨by rw[BJ];omega,.inr ?_⟩;unfold NV;by_cases he:c=m
  ·rw[AP he];exact⟨t,o,c-m,rfl,hB,ht,AJ,AJ,λi hi=>AJ,cs,hcs,AJ⟩
  ·rw[AQ he];refine⟨t,o+m*2,c-m,rfl,hB,ht,AJ,AJ,λi hi=>?_,cs,hcs,AJ⟩;have:=hy (m*2+i) AJ;rw[<-Ax] at this;rw[show(T.drop (m*2)).getD i 0=T.getD (m*2+i) 0 by simp[List.getD]];exact this
def I4 (k a:Int):Nat:=(max a k-k).toNat
theorem RU {B H:Nat} {T:List Int} {n m q:Nat} {v':aB} {k':Int} (hb:Bk w g d u k v) (hH:H<=g) (hgB:NF g v') (hv:Du B w v' T n) :
  Bk (((w.setCell ⟨g,65,aA⟩ v').drewN q).setCell ⟨g,64,aA⟩ (Z8 aI k')) g d u k' v'/\Below H w (((w.setCell ⟨g,65,aA⟩ v').drewN q).setCell ⟨g,64,aA⟩ (Z8 aI k'))/\
   Du B (((w.setCell ⟨g,65,aA⟩ v').drewN q).setCell ⟨g,64,aA⟩ (Z8 aI k')) v' T n:=by
 have hw:Wr g w (((w.setCell ⟨g,65,aA⟩ v').drewN q).setCell ⟨g,64,aA⟩ (Z8 aI k')):=(((Wr.refl _ _).setCell _ _).drewN _).setCell _ _;refine⟨((hb.setV v').drew q).setK k',hw.below hH,hv.block (by rw[hw.size];exact Ac _) (λt ht _=>hw.block t (hgB t ht))⟩
end Go.Proofs.YtjdhhgaelgemcaaGreatDoor
namespace Go.Proofs.YtjdhhgaelgemcaaGreatDoor
open Go.ChangeShapes Go.WideShapes Go.ChangeAt Go.RowKit
set_option linter.unusedVariables false
variable {w w':aC} {g:Nat} {d u:List Int} {k:Int} {v:aB} {D U:Nat->Prop} {T:List Int} {n H B:Nat}
theorem UB (m:Nat) (hb:Bk w g d u k v) (hv:Du B w v T n) (h0:0<=k) (h1:k<=1048576) (hm:m<=n) (hn:n<=1048576) (hH:H<=g) (hgB:NF g v) :
  Calls tP 69 #[aF (aE ⟨g,0,aA⟩),Z8 aI (k+m)] w λe w'=>e=aK (.tuple #[])/\Below H w w'/\∃ v',Bk w' g d u (k+m) v'/\Du B w' v' (T.drop (m*2)) (n-m)/\NF g v':=by
 have hv0:=hv;obtain⟨hl,⟨rfl,hn0⟩|⟨t,o,c,rfl,hB,ht,hc,hx,hy⟩⟩:=hv
 ·have hm0:m=0:=AJ
  subst hm0;rw[show k+((0:Nat):Int)=k by omega];refine(RQ hb h0 h1).mono ?_;rintro e w1 ⟨rfl,q,rfl⟩;obtain⟨r1,r2,r3⟩:=RU (q:=q) (k':=k) (m:=0) hb hH hgB hv0;exact⟨rfl,r2,_,r1,by simpa using r3,hgB⟩
 ·refine(RT t o n c m hb h0 h1 hm hc hn hx).mono ?_;rintro e w1 ⟨rfl,q,rfl⟩;have hne:NF g (NV t o n c m):=λx hx=>hgB x (by unfold NV at hx;split at hx<;>exact hx)
  obtain⟨r1,r2,r3⟩:=RU (q:=q) (k':=k+m) (m:=m) hb hH hne (hv0.drop m hm);exact⟨rfl,r2,_,r1,r3,hne⟩
theorem Du.slice (h:Du B w v T n):∃ a c,v=Z7 a n c:=by
 obtain⟨hl,⟨h1,h2⟩|⟨t,o,c,h1,_⟩⟩:=h
 ·exact⟨aA,0,by rw[h1,h2]⟩
 ·exact⟨_,c,h1⟩
theorem Du.drew (h:Du B w v T n) (q:Nat):Du B (w.drewN q) v T n:=h.block Cl (λt _ _=>rfl)
end Go.Proofs.YtjdhhgaelgemcaaGreatDoor
namespace Go.Proofs.YtjdhhgaelgemcaaGreatDoor
open Go.ChangeShapes Go.WideShapes Go.ChangeAt Go.RowKit
set_option linter.unusedVariables false
variable {w w':aC} {g:Nat} {d u:List Int} {k:Int} {v:aB} {D U:Nat->Prop} {T:List Int} {n H B:Nat}
theorem Oi {s:Nat} (h:s<256):FY (s:Int)=true:=Al ⟨AJ,AJ⟩
theorem NW {o:Nat} (s:Nat) (hb:NP w g o d) (hd:Dg d D) (hin:s<256/\D s):Calls tP 61 #[aF (aE ⟨g,o,aA⟩),Z8 aI s] w λe w'=>e=aK (aG true)/\w'=w:=
 Fu g o s d D true w hb hd (by
  rw[Bq];exact⟨λ_=>⟨AJ,AJ,hin.2⟩,λh=>rfl⟩)
theorem KW {o:Nat} (s:Nat) (hb:NP w g o d) (hd:Dg d D) (hin:¬ (s<256/\D s)):Calls tP 61 #[aF (aE ⟨g,o,aA⟩),Z8 aI s] w λe w'=>e=aK (aG false)/\w'=w:=
 Fu g o s d D false w hb hd (by
  rw[Bq];exact⟨λh=>(by cases h),λh=>absurd ⟨AJ,h.2.2⟩ hin⟩)
theorem Du.wr (h:Du B w v T n) (hw:Wr g w w') (hg:NF g v):Du B w' v T n:=h.block (by rw[hw.size];exact Ac _) (λt ht _=>hw.block t (hg t ht))
end Go.Proofs.YtjdhhgaelgemcaaGreatDoor
