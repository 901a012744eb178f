import Derived.Test.YthmeoilbmfdhfaaGreatMMkB
open Go.Value renaming slice->UD,int->UE,pointer->UM,bool->UF,agg->UN
open Go.IntKind renaming i64->UO
open Option renaming some->UI,none->UJ
open Go renaming World->UK,Value->UL
namespace Go.Proofs.YthmeoilbmfdhfaaGreat
set_option maxHeartbeats 2000000
set_option maxRecDepth 100000
open Go.ChangeShapes Go.WideShapes Go.ChangeAt Go.RowKit
set_option linter.unusedVariables false
def R6 (x:Int):Prop:=-9223372036854775808<=x/\x<=9223372036854775807
theorem R6.of_wf {x:Int} (h:(Lit.int UO x).wf=true):R6 x:=by
 simp[Lit.wf,IntKind.min,IntKind.max,IntKind.signed,IntKind.bits] at h;exact⟨AK,AK⟩
section
variable {H:Type} {enc:TypeId×UL->H} {W:UK}
theorem Is {fuel:Nat} {v:UL} {y:DataW H×List MemPlace} (h:DataW.trod enc Tryz.prog W 0 (λ_=>true) true fuel 22 [v]=UI y) :
  ∃ a n cap zs,v=UD a n cap/\zs.length=n/\n<=9223372036854775807/\Cu zs/\At .u8 W a zs:=by
 rcases open_ints Tryz.underlying22 Tryz.underlying5 AN h with⟨hcs,_⟩|⟨x,l,c,zs,hcs,_,hl,hm,hz,_,hcell,hwz⟩
 ·simp at hcs;exact⟨UJ,0,0,[],hcs,rfl,AK,by simp[Cu],.inl rfl⟩
 ·simp at hcs;have hz':zs.length=c:=by simpa using hz
  refine⟨UI x,l,c,zs.take l,hcs,by simp;omega,by unfold maxLen at hm;omega,λn hn=>?_,?_⟩
  ·have:=hwz n (Bi hn);simp[Lit.wf,IntKind.min,IntKind.max,IntKind.signed,IntKind.bits] at this;omega
  ·by_cases h0:l=0
   ·left;simp[h0]
   ·right;obtain⟨b,off,spot⟩:=x;have hc0:=hcell 0 AK;have hs:spot=none:=by simpa[Addr.add] using World.cell?_spot hc0
    subst hs;refine⟨b,off,rfl,block_lt_of_cell (a:=(⟨b,off,UJ⟩:Addr).add 0) hc0,λi hi=>?_⟩;have hi':i<l:=by simp at hi;omega
    have:=hcell i AK;rw[Ay] at this;rw[this];simp[List.getD,hi']
def Su (ps:List PD):Prop:=∀ i,R6 (ps.getD i (0,[])).1/\Cu (ps.getD i (0,[])).2
theorem OL {fuel:Nat} {v:UL} {y:DataW H×List MemPlace} (h:DataW.trod enc Tryz.prog W 0 (λ_=>true) true fuel 23 [v]=UI y) :
  ∃ a n cap ps,v=UD a n cap/\ps.length=n/\n<=9223372036854775807/\FY W a ps/\(∀ i,(ps.getD i (0,[])).2.length<=9223372036854775807)/\Su ps:=by
 rcases Go.Deep.open_slice_pairs Tryz.underlying23 Tryz.underlying105 AN rfl rfl AN AN h with⟨hcs,_⟩|⟨x,l,c,m,nn,V0,V1,D0,D1,P0,P1,hcs,_,hl,hm,hmm,_,hx⟩
 ·simp at hcs;refine⟨UJ,0,0,[],hcs,rfl,AK,.inl rfl,λi=>AM,λi=>⟨⟨AM,AM⟩,by simp[Cu]⟩⟩
 ·simp at hcs hmm;subst hmm;have each:∀ i,i<m->∃ q:PD×Option Addr×Nat,V0 i=UE UO q.1.1/\V1 i=UD q.2.1 q.1.2.length q.2.2/\At .u8 W q.2.1 q.1.2/\q.1.2.length<=9223372036854775807/\R6 q.1.1/\Cu q.1.2:=by
   intro i hi;obtain⟨h1,h2,h3,h4⟩:=hx i hi;obtain⟨s,e1,_,hw⟩:=DataW.trod_int (k:=UO) Tryz.underlying2 h3;obtain⟨a,n,cap,zs,e2,hn,hn2,hb,ha⟩:=Is h4;simp at e1;exact⟨((s,zs),a,cap),e1,by rw[e2,hn],ha,by show zs.length<=_;omega,R6.of_wf hw,hb⟩
  obtain⟨q,hq⟩:=Go.Deep.choose_lt each;have hget:∀ i,i<l->(((List.range l).map λi=>(q i).1).getD i (0,[]))=(q i).1:=λi hi=>by simp[List.getD,hi]
  have hout:∀ i,¬ i<l->(((List.range l).map λi=>(q i).1).getD i (0,[]))=(0,[]):=λi hi=>by
   rw[Ao,B5 (by simp;omega)];rfl
  refine⟨UI x,l,m,(List.range l).map λi=>(q i).1,hcs,AM,by unfold maxLen at hm;omega,?_,λi=>?_,λi=>?_⟩
  ·by_cases h0:l=0
   ·left;simp[h0]
   ·right;obtain⟨b,off,spot⟩:=x;have hc0:=(hx 0 AK).1;have hs:spot=none:=by simpa[Addr.add] using World.cell?_spot hc0
    subst hs;refine⟨b,off,rfl,block_lt_of_cell (a:=(⟨b,off,UJ⟩:Addr).add (0*2)) hc0,λi hi=>?_⟩;have hi':i<l:=by simpa using hi
    obtain⟨h1,h2,_,_⟩:=hx i AK;obtain⟨g1,g2,g3,_,_,_⟩:=hq i AK;rw[Ay] at h1 h2;rw[hget i hi'];exact⟨(q i).2.1,(q i).2.2,by rw[h1,g1],by rw[Ap,h2,g2],g3⟩
  ·by_cases hi:i<l
   ·rw[hget i hi];exact(hq i AK).2.2.2.1
   ·rw[hout i hi];simp
  ·by_cases hi:i<l
   ·rw[hget i hi];exact(hq i AK).2.2.2.2
   ·rw[hout i hi];exact⟨⟨AM,AM⟩,by simp[Cu]⟩
def Tb (W:UK) (v:UL):Prop:=
 ∃(a:Option Addr) (n cap:Nat) (a':Option Addr) (n' cap':Nat) (zs:List Int) (ps:List PD) (f:Int) (d:Bool),v=UN #[UD a n cap,UD a' n' cap',UE UO f,UF d]/\zs.length=n/\ps.length=n'/\
  n<=9223372036854775807/\n'<=9223372036854775807/\At .u8 W a zs/\FY W a' ps/\(∀ i,(ps.getD i (0,[])).2.length<=9223372036854775807)/\Cu zs/\Su ps/\R6 f
theorem R7 {r:Reach} {b0:Nat} {v:UL} {d:DataW H} {p:List MemPlace} (hv:Value.okWide Tryz.prog W r b0 25 v) (h:DataW.Trod enc Tryz.prog W 0 (λ_=>true) true 25 v d p):Tb W v:=by
 obtain⟨v0,v1,v2,v3,y0,y1,y2,y3,n,rfl,_,_,h0,h1,h2,h3⟩:=Go.Joins.open_agg4 Tryz.underlying25 AN AN hv h;obtain⟨a,n,cap,zs,rfl,hn,hn2,hb,ha⟩:=Is h0;obtain⟨a',n',cap',ps,rfl,hn',hn2',ha',hps,hpi⟩:=OL h1;obtain⟨f,e2,_,hf⟩:=DataW.trod_int (k:=UO) Tryz.underlying2 h2;obtain⟨b,e3,_⟩:=DataW.trod_bool Tryz.underlying4 h3;simp at e2 e3;subst e2 e3;exact⟨a,n,cap,a',n',cap',zs,ps,f,b,rfl,hn,hn',hn2,hn2',ha,ha',hps,hb,hpi,R6.of_wf hf⟩
end
def Kf (w w':UK) (v:UL):Prop:=∀ k,v.ownBlock=UI k->w.heap.size<=k/\k<w'.heap.size
def Sv (w:UK) (v:UL):Prop:=∀ k,v.ownBlock=UI k->k<w.heap.size
def Se (x y:UL):Prop:=∀ k,x.ownBlock=UI k->y.ownBlock≠UI k
structure IV (W:UK) (ps:List Nat) (L:Nat->Bool) (u:Nat->UL) (w:UK):Prop where
 below:Below W.heap.size W w
 blt:∀ p,p∈ps->L p=true->Sv w (u p)
 ap:∀ p,p∈ps->∀ q,q∈ps->p≠q->L p=true->L q=true->Se (u p) (u q)
theorem IV.start (W:UK) (ps:List Nat) (L:Nat->Bool) (u:Nat->UL) (h:∀ i,L i=false):IV W ps L u W:=
 ⟨Ad _ _,λp _ hp=>(by rw[h] at hp;cases hp),λp _ q _ _ hp=>(by rw[h] at hp;cases hp)⟩
theorem IV.step {W:UK} {ps:List Nat} {L:Nat->Bool} {u:Nat->UL} {w w':UK} (h:IV W ps L u w) (i:Nat) (v:UL) (b:Below w.heap.size w w') (hv:i∈ps->Kf w w' v):IV W ps (Ct L i) (Cr u i v) w':=by
 refine⟨h.below.trans (b.mono h.below.size),λp hp hl=>?_,λp hp q hq hne hlp hlq=>?_⟩
 ·by_cases e:p=i
  ·subst e;simp only[Cr,if_true];exact λk hk=>(hv hp k hk).2
  ·simp only[Ct,if_neg e] at hl;simp only[Cr,if_neg e];exact λk hk=>Ax (h.blt p hp hl k hk) b.size
 ·by_cases e:p=i
  ·subst e;have e2:¬ q=p:=λh=>hne h.symm
   simp only[Ct,if_neg e2] at hlq;simp only[Cr,if_true,if_neg e2];intro k hk hk';have h1:=(hv hp k hk).1;have h2:=h.blt q hq hlq k hk';omega
  ·by_cases e2:q=i
   ·subst e2;simp only[Ct,if_neg e] at hlp;simp only[Cr,if_true,if_neg e];intro k hk hk';have h1:=(hv hq k hk').1;have h2:=h.blt p hp hlp k hk;omega
   ·simp only[Ct,if_neg e,if_neg e2] at hlp hlq;simp only[Cr,if_neg e,if_neg e2];exact h.ap p hp q hq hne hlp hlq
theorem IV.drew {W:UK} {ps:List Nat} {L:Nat->Bool} {u:Nat->UL} {w:UK} (h:IV W ps L u w):IV W ps L u w.drew:=⟨⟨h.below.os,h.below.tape,h.below.output,h.below.size,h.below.block⟩,h.blt,h.ap⟩
structure LZ (w:UK) (R last:Nat) (T:TypeId) (ZS:Array UL) (Fin:UK->Array UL->Prop) (ps:List Nat) (L:Nat->Bool) (u:Nat->UL) (w':UK):Prop where
 ax:IV w ps L u w'
 pre:L last=false->w'.heap[R]?=UI (.cells ZS T (0,0))
 fin:L last=true->∃ cs,w'.heap[R]?=UI (.cells cs T (0,0))/\Fin w' cs
section
variable {w:UK} {R last:Nat} {T:TypeId} {ZS:Array UL} {Fin:UK->Array UL->Prop} {ps:List Nat} {L:Nat->Bool} {u:Nat->UL} {w' w'':UK}
theorem LZ.lt (h:LZ w R last T ZS Fin ps L u w'):R<w'.heap.size:=by
 cases hl:L last with
 |false=>exact(AQ.1 (h.pre hl)).1
 |true=>obtain⟨cs,h1,_⟩:=h.fin hl;exact(AQ.1 h1).1
theorem LZ.step (h:LZ w R last T ZS Fin ps L u w') (stab:∀ a b cs,Below a.heap.size a b->Fin a cs->Fin b cs) (i:Nat) (hi:i≠last) (v:UL) (b:Below w'.heap.size w' w'') (hv:i∈ps->Kf w' w'' v):LZ w R last T ZS Fin ps (Ct L i) (Cr u i v) w'':=by
 have hlt:=h.lt;have e:Ct L i last=L last:=by unfold Ct;rw[AS (λh=>hi h.symm)]
 refine⟨h.ax.step i v b hv,λhl=>?_,λhl=>?_⟩
 ·rw[b.block R hlt];exact h.pre (e ▸ hl)
 ·obtain⟨cs,h1,h2⟩:=h.fin (e ▸ hl);exact⟨cs,by rw[b.block R hlt];exact h1,stab _ _ _ b h2⟩
theorem LZ.put (h:LZ w R last T ZS Fin ps L u w') (hR:w.heap.size<=R) (hl:last∉ps) (v:UL) {cs:Array UL} (hw:Wr R w' w'') (hr:w''.heap[R]?=UI (.cells cs T (0,0))) (hf:Fin w'' cs):LZ w R last T ZS Fin ps (Ct L last) (Cr u last v) w'':=by
 have hk:∀ p,p∈ps->p≠last:=λp hp e=>hl (e ▸ hp)
 refine⟨⟨h.ax.below.trans (hw.below hR),λp hp hlp=>?_,λp hp q hq hne hlp hlq=>?_⟩,λhx=>?_,λ_=>⟨cs,hr,hf⟩⟩
 ·simp only[Ct,if_neg (hk p hp)] at hlp;simp only[Cr,if_neg (hk p hp)];exact λk hk'=>by rw[hw.size];exact h.ax.blt p hp hlp k hk'
 ·simp only[Ct,if_neg (hk p hp)] at hlp;simp only[Ct,if_neg (hk q hq)] at hlq;simp only[Cr,if_neg (hk p hp),if_neg (hk q hq)];exact h.ax.ap p hp q hq hne hlp hlq
 ·unfold Ct at hx;simp at hx
theorem LZ.start {wb:UK} (ax:IV w ps L u wb) (h:∀ i,L i=false) (hr:wb.heap[R]?=UI (.cells ZS T (0,0))):LZ w R last T ZS Fin ps L u wb:=⟨ax,λ_=>hr,λhl=>(by rw[h] at hl;cases hl)⟩
end
theorem Tryz.infoI64:(Tryz.prog.info? 2).map (λi=>(i.zero,i.size,i.bytes))=UI (UI (UE UO 0),1,8):=AN
theorem Id (a a':Option Addr) (n cap cap':Nat) (zs:List Int) (w:UK) (hn:zs.length=n) (hm:n<=1048576) (ha:At UO w a zs) (ha':At UO w a' zs) :
  Calls Tryz.prog 88 #[UD a n cap,UD a' n cap'] w λe w'=>e=.returned (UF true)/\∃ q,w'=w.drewN q:=by
 have h0:((n:Int) != (n:Int))=false:=AM
 go_enter Tryz.func88,Tryz.ntmps88;go_wp2
 go_loopw [5] (λi wr=>∃ k q:Nat,k<=n/\i=UE UO k/\wr=w.drewN q) (λi _=>n-(intOf i).toNat)
 case atStart=>exact⟨0,0,Aj _,rfl,rfl⟩
 case round=>
  obtain⟨k,q,hk,rfl,rfl⟩:=hrel;by_cases hlt:k<n
  ·obtain⟨b,off,rfl,hb,hc⟩:=ha.get AK;obtain⟨b',off',rfl,hb',hc'⟩:=ha'.get AK;have g1:=hc k AK;have g2:=hc' k AK;generalize zs.getD k 0=x at *;have hx:(x != x)=false:=AM
   have hlt':(k:Int)<(n:Int):=AK
   clear hc hc' ha ha';go_wp2
   go_quiet (fail)
   go_wp2;go_roundw
   case rel=>exact⟨k+1,_,AK,by go_num,rfl⟩
   case measure=>simp[intOf];omega
  ·go_wp2
   go_ret
   exact⟨rfl,q,rfl⟩
theorem OM (s nw:Int) (w:UK):Calls Tryz.prog 143 #[UN #[UE UO s,UE UO nw],UN #[UE UO s,UE UO nw]] w λe w'=>e=.returned (UF true)/\Below w.heap.size w w':=by
 have HB:AP (Below w.heap.size w ((w.alloc (.cells #[UE UO s,UE UO nw] 133)).alloc (.cells #[UE UO s,UE UO nw] 133))):=(Cs.alloc Cw _).alloc AM _;go_enter Tryz.func143,Tryz.ntmps143;go_wp2
 go_ret
 exact⟨rfl,HB.o⟩
theorem ON (a a':Option Addr) (n c c':Nat) (T:List Int) (w:UK) (hl:T.length=n*2) (hn:n<=1048576) (ha:At UO w a T) (ha':At UO w a' T) :
  Calls Tryz.prog 90 #[UD a n c,UD a' n c'] w λe w'=>e=.returned (UF true)/\Below w.heap.size w w':=by
 have h0:((n:Int) != (n:Int))=false:=AM
 have HLT:AP (T.length=n*2):=hl;have HA:AP (At UO w a T):=ha;have HA':AP (At UO w a' T):=ha';clear hl ha ha';go_enter Tryz.func90,Tryz.ntmps90;go_wp2
 go_loopw [5] (λi wr=>∃ k:Nat,k<=n/\i=UE UO k/\Below w.heap.size w wr) (λi _=>n-(intOf i).toNat)
 case atStart=>exact⟨0,Aj _,rfl,Ad _ _⟩
 case round=>
  obtain⟨k,hk,rfl,hbel⟩:=hrel;have HB:AP (Below w.heap.size w wr):=hbel;by_cases hlt:k<n
  ·have hlt':(k:Int)<n:=AK
   obtain⟨b,o,ea,hb,hc⟩:=(HA.o.below hbel).get (AG HLT.o);obtain⟨b',o',ea',hb',hc'⟩:=(HA'.o.below hbel).get (AG HLT.o);have t0:=hc (k*2) (AG HLT.o);have t1:=hc (k*2+1) (AG HLT.o);have u0:=hc' (k*2) (AG HLT.o);have u1:=hc' (k*2+1) (AG HLT.o);rw[<-Ap] at t1 u1;subst ea ea';clear hc hc' hbel;generalize T.getD (k*2) 0=s at *;generalize T.getD (k*2+1) 0=nw at *;have HC1:AP (b<wr.heap.size/\wr.cell? ⟨b,o+k*2,UJ⟩=UI (UE UO s)/\wr.cell? ⟨b,o+k*2+1,UJ⟩=UI (UE UO nw)):=⟨hb,t0,t1⟩
   have HC2:AP (b'<wr.heap.size/\wr.cell? ⟨b',o'+k*2,UJ⟩=UI (UE UO s)/\wr.cell? ⟨b',o'+k*2+1,UJ⟩=UI (UE UO nw)):=⟨hb',u0,u1⟩
   clear hb hb' t0 t1 u0 u1;go_wp2_with fail;refine Ae AN ?_;refine He (λ_ _ _=>True) (frame:=(λ(a b c d e f g h i j k l m n o p q:UL)=>λ(t:Nat->UL)=>({ tmps:=List.toArray [a,b,c,d,e,f,g,h,i,j,k,l,m,n,o,p,q,t 0,t 1,t 2,t 3,t 4,t 5,t 6,t 7,t 8,t 9],defers:=[] }:Act)) _ _ _ _ _ _ _ _ _ _ _ _ _ _ _ _ _)
    (Ext:=λL w'=>Below wr.heap.size wr w') (Good:=λi L w' v=>if i=0 then v=UD (UI ⟨b,o,UJ⟩) n c else if i=1 then v=UE UO k else if i=2 then v=UM (UI ⟨b,o+k*2,UJ⟩) else if i=3 then v=UN #[UE UO s,UE UO nw] else if i=4 then v=UD (UI ⟨b',o',UJ⟩) n c' else if i=5 then v=UE UO k else if i=6 then v=UM (UI ⟨b',o'+k*2,UJ⟩) else if i=7 then v=UN #[UE UO s,UE UO nw] else if i=8 then v=UF true else if i=9 then v=UF false else True) (λj L w9 w' i v _ _ _ h=>h) AN ?hop ?hdone _ _ ((λ(x0 x1 x2 x3 x4 x5 x6 x7 x8 x9:UL)=>λ(i:Nat)=>if i=0 then x0 else if i=1 then x1 else if i=2 then x2 else if i=3 then x3 else if i=4 then x4 else if i=5 then x5 else if i=6 then x6 else if i=7 then x7 else if i=8 then x8 else if i=9 then x9 else undef) _ _ _ _ _ _ _ _ _ _) _ AM ?ext ?start AM
   case start=>intro i hi h;exact absurd h E0
   case ext=>exact⟨rfl,rfl,rfl,AY _,λ_ _=>rfl⟩
   case hop=>
    intro i o L t w' ho hLi hx hdep K hK;have hi:i<10:=(AQ.1 ho).1;obtain rfl|rfl|rfl|rfl|rfl|rfl|rfl|rfl|rfl|rfl:i=0\/i=1\/i=2\/i=3\/i=4\/i=5\/i=6\/i=7\/i=8\/i=9:=AK
    all_goals(simp at ho;subst ho)
    ·clear hdep;have hK':=hK w' (UD (UI ⟨b,o,UJ⟩) n c) AM hx trivial;clear hK;rw[AR AO];go_simp;simpa[Cr] using hK'
    ·clear hdep;have hK':=hK w' (UE UO k) AM hx trivial;clear hK;rw[AR AO];go_simp;simpa[Cr] using hK'
    ·have d0:t 0=UD (UI ⟨b,o,UJ⟩) n c:=by simpa using hdep ⟨0,.data⟩ AM rfl
     have d1:t 1=UE UO k:=by simpa using hdep ⟨1,.data⟩ AM rfl
     clear hdep;have hK':=hK w' (UM (UI ⟨b,o+k*2,UJ⟩)) AM hx trivial;clear hK;rw[AR AO];go_simp;simpa[Cr,d0,d1] using hK'
    ·have d2:t 2=UM (UI ⟨b,o+k*2,UJ⟩):=by simpa using hdep ⟨2,.data⟩ AM rfl
     clear hdep;have q0:w'.cell? ⟨b,o+k*2,UJ⟩=UI (UE UO s):=by rw[hx.cell (p:=⟨b,o+k*2,UJ⟩) HC1.o.1];exact HC1.o.2.1
     have q1:w'.cell? ⟨b,o+k*2+1,UJ⟩=UI (UE UO nw):=by rw[hx.cell (p:=⟨b,o+k*2+1,UJ⟩) HC1.o.1];exact HC1.o.2.2
     have hK':=hK w' (UN #[UE UO s,UE UO nw]) AM hx trivial;clear hK;rw[AR AO];go_simp;simpa[Cr,d2] using hK'
    ·clear hdep;have hK':=hK w' (UD (UI ⟨b',o',UJ⟩) n c') AM hx trivial;clear hK;rw[AR AO];go_simp;simpa[Cr] using hK'
    ·clear hdep;have hK':=hK w' (UE UO k) AM hx trivial;clear hK;rw[AR AO];go_simp;simpa[Cr] using hK'
    ·have d4:t 4=UD (UI ⟨b',o',UJ⟩) n c':=by simpa using hdep ⟨4,.data⟩ AM rfl
     have d5:t 5=UE UO k:=by simpa using hdep ⟨5,.data⟩ AM rfl
     clear hdep;have hK':=hK w' (UM (UI ⟨b',o'+k*2,UJ⟩)) AM hx trivial;clear hK;rw[AR AO];go_simp;simpa[Cr,d4,d5] using hK'
    ·have d6:t 6=UM (UI ⟨b',o'+k*2,UJ⟩):=by simpa using hdep ⟨6,.data⟩ AM rfl
     clear hdep;have q0:w'.cell? ⟨b',o'+k*2,UJ⟩=UI (UE UO s):=by rw[hx.cell (p:=⟨b',o'+k*2,UJ⟩) HC2.o.1];exact HC2.o.2.1
     have q1:w'.cell? ⟨b',o'+k*2+1,UJ⟩=UI (UE UO nw):=by rw[hx.cell (p:=⟨b',o'+k*2+1,UJ⟩) HC2.o.1];exact HC2.o.2.2
     have hK':=hK w' (UN #[UE UO s,UE UO nw]) AM hx trivial;clear hK;rw[AR AO];go_simp;simpa[Cr,d6] using hK'
    ·have d3:t 3=UN #[UE UO s,UE UO nw]:=by simpa using hdep ⟨3,.data⟩ AM rfl
     have d7:t 7=UN #[UE UO s,UE UO nw]:=by simpa using hdep ⟨7,.data⟩ AM rfl
     clear hdep;have A:=OM s nw w';have hK':∀ ww,Below w'.heap.size w' ww->K _ ww:=λww hb=>hK ww (UF true) AM (hx.trans (hb.mono hx.size)) trivial
     clear hK;rw[AR AO];go_simp;try simp only[d3,d7]
     refine A.mono ?_;rintro e w9 ⟨rfl,hb⟩;have hK2:=hK' w9 hb;clear hK' A hb;go_simp;simpa[Cr,d3,d7] using hK2
    ·have d8:t 8=UF true:=by simpa using hdep ⟨8,.data⟩ AM rfl
     clear hdep;have hK':=hK w' (UF false) AM hx trivial;clear hK;rw[AR AO];go_simp;simpa[Cr,d8] using hK'
   case hdone=>
    intro L t w' hx hg;have d9:t 9=UF false:=by simpa using hg 9 AL
    clear hg;have HBW:AP (Below w.heap.size w w'):=HB.o.trans (hx.mono HB.o.size);simp only[d9];clear hx d9;go_wp2;go_roundw
    case rel=>exact⟨k+1,AK,by go_num,HBW.o⟩
    case measure=>simp[intOf];omega
  ·have hlt':¬ ((k:Int)<n):=AK
   clear hbel;go_wp2
   go_ret
   exact⟨rfl,HB.o⟩
end Go.Proofs.YthmeoilbmfdhfaaGreat
namespace Go.Proofs.YthmeoilbmfdhfaaGreat
set_option linter.unusedVariables false
def Sw (xs:List Int):Prop:=xs.Pairwise (·<·)
theorem QQ:∀(xs ys:List Int),Sw xs->Sw ys->(∀ z,z∈xs↔z∈ys)->xs=ys:=by
 intro xs
 induction xs with
 |nil=>
  intro ys _ _ h;cases ys with
  |nil=>rfl
  |cons y ys=>exact absurd ((h y).2 AM) AM
 |cons x xs ih=>
  intro ys hx hy h;cases ys with
  |nil=>exact absurd ((h x).1 AM) AM
  |cons y ys=>
   have hx':=List.pairwise_cons.1 hx;have hy':=List.pairwise_cons.1 hy;have e:x=y:=by
    rcases CE.1 ((h x).1 AM) with h1|h1
    ·exact h1
    ·rcases CE.1 ((h y).2 AM) with h2|h2
     ·exact h2.symm
     ·have:=hy'.1 x h1;have:=hx'.1 y h2;omega
   subst e;rw[ih ys hx'.2 hy'.2 (λz=>?_)];constructor
   ·intro hz;rcases CE.1 ((h z).1 (List.mem_cons_of_mem _ hz)) with h1|h1
    ·have:=hx'.1 z hz;omega
    ·exact h1
   ·intro hz;rcases CE.1 ((h z).2 (List.mem_cons_of_mem _ hz)) with h1|h1
    ·have:=hy'.1 z hz;omega
    ·exact h1
theorem F7 {xs:List Int} {i:Nat} (h:i<xs.length):xs.getD i 0=xs[i]:=by simp[List.getD,h]
theorem Dj.asc {xs:List Int} (h:Dj xs):Sw xs:=by
 have q:∀ d i,i+d+1<xs.length->xs.getD i 0<xs.getD (i+d+1) 0:=by
  intro d
  induction d with
  |zero=>intro i hi;exact(h (i+0+1) hi).2.2 AK
  |succ d ih=>
   intro i hi;have h1:=ih i AK;have h2:=(h (i+(d+1)+1) hi).2.2 AK;rw[show i+(d+1)+1-1=i+d+1 by omega] at h2;omega
 refine List.pairwise_iff_getElem.2 (λi j hi hj hij=>?_);have:=q (j-i-1) i AK;rw[show i+(j-i-1)+1=j by omega,F7 hi,F7 hj] at this;exact this
theorem Dj.range {xs:List Int} (h:Dj xs) {z:Int} (hz:z∈xs):0<=z/\z<256:=by
 obtain⟨i,hi,rfl⟩:=CP hz;have:=h i hi;unfold QL at this;rw[F7 hi] at this;exact⟨this.1,this.2.1⟩
theorem Dj.of_asc {xs:List Int} (h:Sw xs) (hr:∀ z∈xs,0<=z/\z<256):Dj xs:=by
 intro i hi;have:=hr _ (Ba hi);refine⟨by rw[F7 hi];exact this.1,by rw[F7 hi];exact this.2,λh0=>?_⟩;rw[F7 hi,F7 (by omega:i-1<xs.length)];exact List.pairwise_iff_getElem.1 h (i-1) i AK hi AK
def Dg (P:Nat->Bool) (k:Nat):List Int:=((List.range k).filter P).map Int.ofNat
theorem EI (P:Nat->Bool) (k:Nat):Dg P (k+1)=if P k=true then Dg P k++[(k:Int)] else Dg P k:=by
 unfold Dg;rw[CW,List.filter_append,BY];by_cases h:P k=true
 ·rw[AR h];simp[h]
 ·rw[AS h];simp[h]
theorem Hl {P:Nat->Bool} {k:Nat} {z:Int}:z∈Dg P k↔∃ v:Nat,v<k/\P v=true/\z=v:=by
 unfold Dg;simp only[List.mem_map,List.mem_filter,List.mem_range];constructor
 ·rintro⟨v,⟨h1,h2⟩,rfl⟩;exact⟨v,h1,h2,rfl⟩
 ·rintro⟨v,h1,h2,rfl⟩;exact⟨v,⟨h1,h2⟩,rfl⟩
theorem Kg (P:Nat->Bool) (k:Nat):Sw (Dg P k):=by
 induction k with
 |zero=>exact List.Pairwise.nil
 |succ k ih=>
  rw[EI];split
  ·refine List.pairwise_append.2 ⟨ih,List.pairwise_singleton _ _,λa ha b hb=>?_⟩;obtain⟨v,hv,_,rfl⟩:=Hl.1 ha;rw[List.mem_singleton.1 hb];omega
  ·exact ih
theorem Fu (P:Nat->Bool) (k:Nat):(Dg P k).length<=k:=by
 unfold Dg;rw[BI];exact BC (List.length_filter_le _ _) (by rw[List.length_range];exact AY _)
theorem OO (P:Nat->Bool):Dj (Dg P 256):=Dj.of_asc (Kg P 256) (λz hz=>by
 obtain⟨v,hv,_,rfl⟩:=Hl.1 hz;omega)
theorem Dj.eq_upTo {xs:List Int} (h:Dj xs) (P:Nat->Bool) (hP:∀ v,v<256->(P v=true↔(v:Int)∈xs)):Dg P 256=xs:=by
 refine QQ _ _ (Kg P 256) h.asc (λz=>?_);rw[Hl];constructor
 ·rintro⟨v,hv,hp,rfl⟩;exact(hP v hv).1 hp
 ·intro hz;have hr:=h.range hz;obtain⟨v,rfl⟩:=Ai hr.1;exact⟨v,AK,(hP v AK).2 hz,rfl⟩
def IY (x:Nat):Nat:=((List.range 8).filter (λj=>x/2^j%2 == 1)).length
def FK (bs:List Int) (k:Nat):Nat:=((List.range k).map (λi=>IY (bs.getD i 0).toNat)).sum
theorem JU (bs:List Int) (k:Nat):FK bs (k+1)=FK bs k+IY (bs.getD k 0).toNat:=by
 unfold FK;rw[CW,BY,List.sum_append];simp
theorem OP (P:Nat->Bool) (k n:Nat):(Dg P (k+n)).length=(Dg P k).length+((List.range n).filter (λj=>P (k+j))).length:=by
 induction n with
 |zero=>simp
 |succ n ih=>
  rw[<-Ap,EI,CW,List.filter_append,Al,<-Ap,<-ih];by_cases h:P (k+n)=true
  ·rw[AR h];simp[h]
  ·rw[AS h];simp[h]
theorem M8 {bs:List Int} {Q:Nat->Prop} (hs:DV bs Q) (P:Nat->Bool) (hP:∀ v,v<256->(P v=true↔Q v)) (k:Nat) (hk:k<=32):FK bs k=(Dg P (k*8)).length:=by
 induction k with
 |zero=>rfl
 |succ k ih=>
  rw[JU,ih AK,show(k+1)*8=k*8+8 by omega,OP]
  congr 1
  unfold IY
  congr 1
  refine List.filter_congr (λj hj=>?_);have hj':=BV.1 hj;have h3:=hs.2.2 (k*8+j) AK;rw[show(k*8+j)/8=k by omega,show(k*8+j)%8=j by omega] at h3;have h0:=(hs.2.1.get k).1;obtain⟨x,hx⟩:=Ai h0;rw[hx] at h3;rw[hx,Bw];have e:((x:Int)/2^j%2=1)↔(x/2^j%2=1):=by
   rw[show((2:Int)^j)=((2^j:Nat):Int) by simp,<-Int.natCast_ediv];omega
  rw[e] at h3;have:=h3.trans (hP (k*8+j) AK).symm;by_cases hp:P (k*8+j)=true
  ·rw[hp];simpa using this.2 hp
  ·have h4:¬ (x/2^j%2=1):=λh=>hp (this.1 h)
   rw[Bool.not_eq_true] at hp;rw[hp];simpa using h4
theorem QR {bs D:List Int} (hs:DV bs (λv=>(v:Int)∈D)) (hD:Dj D):FK bs 32=D.length:=by
 have h:=M8 hs (λv=>decide ((v:Int)∈D)) (λv _=>AM) 32 AK;rw[h,hD.eq_upTo _ (λv _=>AM)]
theorem Kh {D:List Int} (hD:Dj D) (x:Int):Dj (D.filter (λz=>z != x)):=
 Dj.of_asc (List.Pairwise.filter _ hD.asc) (λz hz=>hD.range (Bp.1 hz).1)
end Go.Proofs.YthmeoilbmfdhfaaGreat
