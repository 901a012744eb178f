import Derived.Test.YthmeoilbmfdhfaaGreatMSwJa
open Go.Value renaming slice->UD
open Option renaming some->UI,none->UJ
open Go renaming World->UK,Value->UL
namespace Go.Proofs.YthmeoilbmfdhfaaGreat
open Go.ChangeShapes Go.WideShapes Go.ChangeAt Go.RowKit
set_option linter.unusedVariables false
structure LV (w w':UK) (C:Array UL):Prop where
 below:Below w.heap.size w w'
 box:w'.heap[w.heap.size]?=UI (.cells C 25 (0,0))
theorem LV.grow {w w' w'':UK} {C:Array UL} (h:LV w w' C) (hb:Below w'.heap.size w' w''):LV w w'' C:=
 ⟨h.below.trans (hb.mono h.below.size),by rw[hb.block _ (AQ.1 h.box).1];exact h.box⟩
theorem LV.cells {w w':UK} {a0 a1 a2 a3:UL} (h:LV w w' #[a0,a1,a2,a3]) :
  w'.cell? ⟨w.heap.size,0,UJ⟩=UI a0/\w'.cell? ⟨w.heap.size,1,UJ⟩=UI a1/\w'.cell? ⟨w.heap.size,2,UJ⟩=UI a2/\w'.cell? ⟨w.heap.size,3,UJ⟩=UI a3:=
 ⟨AA h.box _,AA h.box _,AA h.box _,AA h.box _⟩
theorem Ek {w:UK} {g:Nat} {t:TypeId} {a0 a1 a2 a3:UL} (h:w.heap[g]?=UI (.cells #[a0,a1,a2,a3] t (0,0))) :
  w.cell? ⟨g,0,UJ⟩=UI a0/\w.cell? ⟨g,1,UJ⟩=UI a1/\w.cell? ⟨g,2,UJ⟩=UI a2/\w.cell? ⟨g,3,UJ⟩=UI a3:=
 ⟨AA h _,AA h _,AA h _,AA h _⟩
def TU (zs:List Int) (ps:List PD) (f:Int) (d:Bool) (x arg:UL):Nat->UK->UL->Prop
 |0,_,v=>v=x
 |1,_,v=>v=arg
 |2,w,v=>Ei w v zs ps f d
 |3,_,v=>v=.bool true
 |_,_,v=>v=.bool false
theorem Ei.mono {w w':UK} {v:UL} {zs:List Int} {ps:List PD} {f:Int} {d:Bool} (h:Ei w v zs ps f d) (hm:DJ w w'):Ei w' v zs ps f d:=by
 obtain⟨da,dc,ca,cc,hv,h1,h2,h3⟩:=h;have Gp:∀ {x:Option Addr} {zs:List Int},At .u8 w x zs->At .u8 w' x zs:=fun {x zs} h=>by
  rcases h with h|⟨b,off,rfl,hl,hc⟩
  ·exact .inl h
  ·exact .inr ⟨b,off,rfl,AG hm.size,λi hi=>by rw[hm.cell ⟨b,off+i,UJ⟩ hl];exact hc i hi⟩
 refine⟨da,dc,ca,cc,hv,Gp h1,?_,h3⟩;rcases h2 with h|⟨b,off,rfl,hl,hc⟩
 ·exact .inl h
 ·exact .inr ⟨b,off,rfl,AG hm.size,λi hi=>by
   obtain⟨x,c,p1,p2,p3⟩:=hc i hi;exact⟨x,c,by rw[hm.cell ⟨b,off+i*2,UJ⟩ hl];exact p1,by rw[hm.cell ⟨b,off+i*2+1,UJ⟩ hl];exact p2,Gp p3⟩⟩
theorem PI (zs:List Int) (ps:List PD) (f:Int) (d:Bool) (x arg:UL) (i:Nat) (w w':UK) (v:UL) (hm:DJ w w') (h:TU zs ps f d x arg i w v):TU zs ps f d x arg i w' v:=by
 unfold TU at *;split at h<;>first|exact h|exact Ei.mono h hm
structure JF (L c m:Nat) (f:Int) (zs:List Int) (ps:List PD):Prop where
 hl:zs.length=L
 hm:ps.length=m
 hv:C5 L ps f=true
 hc:L<=c
 bz:Cu zs
 bp:∀ i,Cu (ps.getD i (0,[])).2
theorem JF.base {L c m:Nat} {f:Int} {zs:List Int} {ps:List PD} (h:JF L c m f zs ps):L%64=0/\8<=L/64/\L/64<=256/\m<=1000:=by
 have:=h.hv;unfold C5 at this;rw[CF] at this;have h1:EA L ps.length f:=(by simpa using this.1);unfold EA at h1;rw[h.hm] at h1;exact⟨h1.1,h1.2.1,h1.2.2.1,h1.2.2.2.1⟩
theorem JF.len {L c m:Nat} {f:Int} {zs:List Int} {ps:List PD} (h:JF L c m f zs ps) (i:Nat) (hi:i<m):(ps.getD i (0,[])).2.length=64:=by
 have:=h.hv;unfold C5 at this;rw[CF,BM] at this;have hi':i<ps.length:=by rw[h.hm];exact hi
 have h2:=this.2 ps[i] (Ba hi');have h3:OA (L/64) ps[i]:=(by simpa using h2);rw[show ps.getD i (0,[])=ps[i] by simp[List.getD,hi']];exact h3.2.2
theorem NY {ps:List PD} {s:Int} (k:Nat):∀ z,Ev ps s k=UI z->∃ i,i<k/\z=(ps.getD i (0,[])).2:=by
 induction k with
 |zero=>intro z hz;simp[Ev] at hz
 |succ k ih=>
  intro z hz;unfold Ev at hz;split at hz
  ·exact⟨k,Nat.lt_succ_self k,(CT hz).symm⟩
  ·obtain⟨i,hi,e⟩:=ih z hz;exact⟨i,AK,e⟩
theorem JF.rd {L c m:Nat} {f:Int} {zs:List Int} {ps:List PD} (h:JF L c m f zs ps) (s:Nat) (hs:s*64+64<=L):(Dw zs ps s).length=64/\Cu (Dw zs ps s):=by
 unfold Dw;cases e:Ev ps s ps.length with
 |none=>
  simp only[Option.getD_none];refine⟨?_,λz hz=>h.bz z (List.mem_of_mem_drop (Bi hz))⟩;rw[Az,Bj,h.hl];simp;omega
 |some z=>
  simp only[Option.getD_some];obtain⟨i,hi,rfl⟩:=NY _ z e;exact⟨h.len i (by rw[<-h.hm];exact hi),h.bp i⟩
def GJ (zs:List Int) (ps:List PD) (i:Nat):List Int:=Dw zs ps (2*i:Nat)++Dw zs ps (2*i+1:Nat)
theorem JF.sl {L c m:Nat} {f:Int} {zs:List Int} {ps:List PD} (h:JF L c m f zs ps) (i:Nat) (hi:i<2):(GJ zs ps i).length=128/\Cu (GJ zs ps i):=by
 obtain⟨b1,b2,b3,b4⟩:=h.base;obtain⟨l1,y1⟩:=h.rd (2*i) AK;obtain⟨l2,y2⟩:=h.rd (2*i+1) AK;unfold GJ;refine⟨by rw[Al,l1,l2],λz hz=>?_⟩;rcases CV.1 hz with q|q
 ·exact y1 z q
 ·exact y2 z q
open Classical in
noncomputable def Gx (zs:List Int) (ps:List PD) (i:Nat):K6:=if(Fh (GJ zs ps i)).ok=true/\(Fh (GJ zs ps i)).g%2=(i:Int) then Fh (GJ zs ps i) else Fg
open Classical in
noncomputable def Eb (zs:List Int) (ps:List PD):Nat->K6
 |0=>Fg
 |k+1=>if(Gx zs ps k).ok=true/\((Eb zs ps k).ok=false\/(Eb zs ps k).g<(Gx zs ps k).g) then Gx zs ps k else Eb zs ps k
theorem Qs (P Q:Nat->Bool) (a:Nat) (ha:P a=false) (hQ:∀ v,Q v=(P v || decide (v=a))) (k:Nat):(Dg Q k).length=(Dg P k).length+(if a<k then 1 else 0):=by
 induction k with
 |zero=>rfl
 |succ k ih=>
  rw[EI,EI];by_cases hk:a=k
  ·subst hk;rw[hQ,ha,AR AM,AS AM,Al,ih,AS (Nat.lt_irrefl _),AR (Nat.lt_succ_self _)];simp
  ·have e:Q k=P k:=by rw[hQ,Ar (λh=>hk h.symm)];simp
   rw[e];have e2:(if a<k+1 then 1 else 0)=(if a<k then 1 else 0):=by
    by_cases h:a<k
    ·rw[AR h,AR AK]
    ·rw[AS h,AS AK]
   rw[e2];split
   ·rw[Al,Al,ih];simp;omega
   ·exact ih
open Classical in
theorem Jg {U:List Int} {a:Nat} (hU:Dj U) (ha:a<256) (hn:¬ (a:Int)∈U):(Dy U a).length=U.length+1:=by
 have e:=Dj.eq_upTo hU (λv=>decide ((v:Int)∈U)) (λv _=>AM);have:=Qs (λv=>decide ((v:Int)∈U)) (λv=>decide ((v:Int)∈U\/v=a)) a (Ar hn) (λv=>by by_cases h1:(v:Int)∈U<;>by_cases h2:v=a<;>simp[h1,h2]) 256;rw[AR ha] at this;unfold Dy;rw[this]
 conv=>rhs;rw[<-e]
theorem NZ {U:List Int} {a:Nat} (hU:Dj U) {z:Int} (h:z∈U):z∈Dy U a:=by
 obtain⟨h0,h1⟩:=hU.range h;obtain⟨v,rfl⟩:=Ai h0;exact(Gq AK).1 (.inl h)
theorem SF {D U:List Int} {k:Int} {T:List Int} {n:Nat} {kind:Int} {a b:Nat} (h:JE D U k T n) (hT:T.length=n*2) (hb:b<4294967296) (ho:(Ea D U k T n kind a b).ok=true) :
  JE (Ea D U k T n kind a b).D (Ea D U k T n kind a b).U (Ea D U k T n kind a b).k (Ea D U k T n kind a b).T (Ea D U k T n kind a b).n/\(Ea D U k T n kind a b).T.length=(Ea D U k T n kind a b).n*2:=by
 obtain⟨sD,sU⟩:=Qp (k:=k) (T:=T) (n:=n) (kind:=kind) (a:=a) (b:=b) h.1 h.2.2.1;obtain⟨h1,h2,h3,h4,h5,h6⟩:=h;unfold Ea at ho sD sU |-;by_cases k1:kind=1
 ·rw[AR k1] at ho sD sU |-;by_cases hc:a<256/\¬ (a:Int)∈U/\¬ (a:Int)∈D
  ·rw[AR hc] at sD sU |-;have hl:=Jg h3 hc.1 hc.2.1;refine⟨⟨sD,h2,sU,h4,by show k+((n+1:Nat):Int)=((Dy U a).length:Int);rw[hl];omega,λi hi=>?_⟩,by show(T++_).length=(n+1)*2;rw[Al,hT];simp;omega⟩;show Jq (Dy U a) (T++[(a:Int),(b:Int)]) i
   have hgl:∀ j,j<n*2->(T++[(a:Int),(b:Int)]).getD j 0=T.getD j 0:=λj hj=>by
    rw[List.getD,List.getD,A0 AK]
   by_cases hin:i<n
   ·obtain⟨t1,t2,t3⟩:=h6 i hin;refine⟨by rw[hgl _ AK];exact NZ h3 t1,by rw[hgl _ AK];exact t2,λj hj=>?_⟩;rw[hgl _ AK,hgl _ AK];exact t3 j hj
   ·obtain rfl:i=n:=by have:i<n+1:=hi;omega
    have e0:(T++[(a:Int),(b:Int)]).getD (i*2) 0=(a:Int):=by rw[List.getD,Am AK,hT,Nat.sub_self];rfl
    have e1:(T++[(a:Int),(b:Int)]).getD (i*2+1) 0=(b:Int):=by rw[List.getD,Am AK,hT,Bt];rfl
    refine⟨by rw[e0];exact(Gq hc.1).1 (.inr rfl),by rw[e1];omega,λj hj=>?_⟩;rw[hgl _ AK,e0];intro e;exact hc.2.1 (e ▸ (h6 j hj).1)
  ·rw[AS hc] at ho;cases ho
 ·rw[AS k1] at ho sD sU |-;by_cases k2:kind=2
  ·rw[AR k2] at ho sD sU |-;by_cases hc:b=1/\a<256/\¬ (a:Int)∈D/\¬ D.length=16
   ·rw[AR hc] at sD sU |-;have hl:=Jg h1 hc.2.1 hc.2.2.1;exact⟨⟨sD,by show(Dy D a).length<=16;rw[hl];omega,sU,h4,h5,h6⟩,hT⟩
   ·rw[AS hc] at ho sD sU |-;by_cases hc2:b=0/\a<256/\(a:Int)∈D
    ·rw[AR hc2] at sD sU |-;exact⟨⟨sD,BC (List.length_filter_le _ _) h2,sU,h4,h5,h6⟩,hT⟩
    ·rw[AS hc2] at ho;cases ho
  ·rw[AS k2] at ho sD sU |-;by_cases k3:kind=3
   ·rw[AR k3] at ho sD sU |-;by_cases hc:b=0/\(a:Int)<=k+n
    ·rw[AR hc] at sD sU |-;have hm:Do k a<=n:=by unfold Do;omega
     have hmk:(Do k a:Int)=max (a:Int) k-k:=by unfold Do;omega
     refine⟨⟨sD,h2,sU,by show 0<=max (a:Int) k;omega,by show max (a:Int) k+((n-Do k a:Nat):Int)=(U.length:Int);rw[<-h5,Int.ofNat_sub hm,hmk];generalize max (a:Int) k=mx;omega,λi hi=>?_⟩,by show(T.drop _).length=(n-Do k a)*2;rw[Bj,hT];omega⟩;have hi':i<n-Do k a:=hi;have e:∀ j,(T.drop (Do k a*2)).getD j 0=T.getD (Do k a*2+j) 0:=λj=>by simp[List.getD]
     obtain⟨t1,t2,t3⟩:=h6 (Do k a+i) AK;show Jq U (T.drop (Do k a*2)) i
     unfold Jq;rw[e,e,show Do k a*2+i*2=(Do k a+i)*2 by omega,show Do k a*2+(i*2+1)=(Do k a+i)*2+1 by omega];refine⟨t1,t2,λj hj=>?_⟩;rw[e,show Do k a*2+j*2=(Do k a+j)*2 by omega];exact t3 _ AK
    ·rw[AS hc] at ho;cases ho
   ·rw[AS k3] at ho;cases ho
open Classical in
noncomputable def EE (r:GN) (F:List Int):Nat->GN
 |0=>r
 |i+1=>if(EE r F i).ok=true then Ea (EE r F i).D (EE r F i).U (EE r F i).k (EE r F i).T (EE r F i).n (F.getD (i*4+1) 0) (F.getD (i*4+2) 0).toNat (F.getD (i*4+3) 0).toNat else EL
theorem J4 {r:GN} {F:List Int} {i:Nat} (h:(EE r F i).ok=true):EE r F (i+1)=Ea (EE r F i).D (EE r F i).U (EE r F i).k (EE r F i).T (EE r F i).n (F.getD (i*4+1) 0) (F.getD (i*4+2) 0).toNat (F.getD (i*4+3) 0).toNat:=by
 show(if _ then _ else _)=_
 rw[AR h]
theorem Ht {r:GN} {F:List Int} {i:Nat} (h:(EE r F i).ok=false):EE r F (i+1)=EL:=by
 show(if _ then _ else _)=_
 rw[AS (by rw[h];simp)]
theorem J5 {r:GN} {F:List Int} {i:Nat} (h:(EE r F i).ok=false):∀ j,EE r F (i+1+j)=EL
 |0=>Ht h
 |j+1=>by rw[<-Ap];exact Ht (by rw[J5 h j];rfl)
def QB (F:List Int):Prop:=∀ i,i*4+3<F.length->(0<=F.getD (i*4+2) 0/\F.getD (i*4+2) 0<4294967296)/\(0<=F.getD (i*4+3) 0/\F.getD (i*4+3) 0<4294967296)
theorem Gj {r:GN} {F:List Int} (hF:QB F) (hr:JE r.D r.U r.k r.T r.n) (hT:r.T.length=r.n*2):∀ i,i*4<=F.length->(EE r F i).ok=true->JE (EE r F i).D (EE r F i).U (EE r F i).k (EE r F i).T (EE r F i).n/\(EE r F i).T.length=(EE r F i).n*2
 |0,_,_=>⟨hr,hT⟩
 |i+1,hi,ho=>by
  cases h:(EE r F i).ok with
  |false=>rw[Ht h] at ho;cases ho
  |true=>
   obtain⟨h1,h2⟩:=Gj hF hr hT i AK h;rw[J4 h] at ho |-;exact SF h1 h2 (by have:=hF i AK;omega) ho
theorem Jh (tS tE:TypeId) (z:UL) (size bytes:Nat) (hinfo:(Tryz.prog.info? tE).map (λi=>(i.zero,i.size,i.bytes))=UI (UI z,size,bytes)) (hu:Tryz.prog.underlying tS=UI (.slice tE))
  (w:UK) (ty:TypeId) (v:Addr) (x:Option Addr) (c:Nat):(Builtin.append_ #[tS,tS] ty #[UD (UI v) 0 0,UD x 0 c]).run Tryz.prog w=.ok (UD (UI v) 0 0) w:=by
 obtain⟨i0,hi,hz0,hz1,hz2⟩:=Be hinfo;have hf:=λad=>run_firstCells_some (P:=Tryz.prog) w i0.size 0 ad 0 c [] AM (λj v hv=>by simp at hv)
 have hs:∀ p,(storeCells p []).run Tryz.prog w=.ok () w:=λ_=>rfl
 cases x with
 |none=>simp[Builtin.append_,run_underlying hu,sizeOf,typeInfo,zeroValue,hi,hz0,Builtin.lenOf,run_firstCells_none,hs]
 |some ad=>simp[Builtin.append_,run_underlying hu,sizeOf,typeInfo,zeroValue,hi,hz0,Builtin.lenOf,hf,hs]
def E3 (lo:Nat) (tE:TypeId) (w:UK) (v:UL):Prop:=∃ g,v=UD (UI ⟨g,0,UJ⟩) 0 0/\lo<=g/\w.heap[g]?=UI (.cells #[] tE (0,0))
theorem E3.below {lo:Nat} {tE:TypeId} {w w':UK} {v:UL} (h:E3 lo tE w v) (b:Below w.heap.size w w'):E3 lo tE w' v:=by
 obtain⟨g,e,h1,h2⟩:=h;exact⟨g,e,h1,by rw[b.block g (AQ.1 h2).1];exact h2⟩
theorem E3.wr {lo R:Nat} {tE:TypeId} {w w':UK} {v:UL} (h:E3 lo tE w v) (hw:Wr R w w') (hR:R<lo):E3 lo tE w' v:=by
 obtain⟨g,e,h1,h2⟩:=h;exact⟨g,e,h1,by rw[hw.block g AK];exact h2⟩
theorem E3.new {lo:Nat} (tE:TypeId) (w:UK) (h:lo<=w.heap.size):E3 lo tE (w.alloc (.cells #[] tE)) (UD (UI ⟨w.heap.size,0,UJ⟩) 0 0):=⟨_,rfl,h,AV w _⟩
theorem E3.owns {lo:Nat} {tE:TypeId} {w:UK} {g:Nat} (size:Nat) (h1:lo<=g) (h2:w.heap[g]?=UI (.cells #[] tE (0,0))):w.ownsRow lo tE size (UD (UI ⟨g,0,UJ⟩) 0 0) 0 []:=
 ⟨AM,.inr ⟨g,0,#[],rfl,h1,h2,AY _,by simp[maxLen],AM,AM⟩⟩
theorem E4 (tS tE:TypeId) (z:UL) (size bytes:Nat) (hinfo:(Tryz.prog.info? tE).map (λi=>(i.zero,i.size,i.bytes))=UI (UI z,size,bytes)) (hu:Tryz.prog.underlying tS=UI (.slice tE)) (hzs:z.cells.size=size) (hsz:0<size) (hby:bytes<=64)
  (w:UK) {o:Oper} {a:Act} {K:Act->UK->Prop} {Q:Exit->Act->UK->Prop} (s x:Operand) (hop:o.op=Op.call { callee:=Callee.builtin Builtin.append,args:=#[s,x],argTypes:=#[tS,tS] })
  (S:Nat) (v:UL) (hs:a.eval s=v) (hem:E3 S tE w v) (xa:Option Addr) (n c:Nat) (zs:List Int) (hx:a.eval x=UD xa n c) (hl:zs.length=n*size) (hA:At .i64 w xa zs) (hb:n<=1048576) (hSw:S<=w.heap.size)
  (h:∀ v' w',w'.ownsRow S tE size v' n (zs.map (Value.int .i64))->Below w.heap.size w w'->K (a.put o.dst v') w'):o.wp Tryz.prog a w K Q:=by
 obtain⟨B,rfl,hB,hrow⟩:=hem;have hown:=E3.owns size hB hrow;by_cases h0:n=0
 ·subst h0;have hz:zs=[]:=Aq AK;have hk:=h (UD (UI ⟨B,0,UJ⟩) 0 0) w (by rw[hz];exact hown) Cs;have hr:=Jh tS tE z size bytes hinfo hu w o.type ⟨B,0,UJ⟩ xa c;unfold Oper.wp execOp;simp only[hop,resolve,invoke,builtin,Sem.run_bind,Sem.run_pure,Result.andThen_ok,List.map_toArray,List.map_cons,List.map_nil,hs,hx,hr];exact hk
 ·have hz0':0<zs.length:=by rw[hl];exact Nat.mul_pos AK hsz
  obtain⟨b,off,rfl,hbl,hc⟩:=hA.get hz0';obtain⟨i0,hi,hz0,hz1,hz2⟩:=Be hinfo;have hnews:∀ j u,(zs.map (Value.int .i64))[j]?=UI u->w.cell? ((⟨b,off,UJ⟩:Addr).add j)=UI u:=by
   intro j u hu;have hj:j<zs.length:=by have:=(Af.1 hu).1;simpa using this
   rw[Ay,hc j hj];simp[hj] at hu;simp[hj,hu]
  have hle:n*bytes<=1048576*64:=Nat.mul_le_mul hb hby;have hfit:Builtin.nextslicecap (0+n) 0*i0.bytes<=281474976710656:=by rw[Ak,nextslicecap_zero AK,hz2];omega
  have hg:=run_append_grow (P:=Tryz.prog) w tS o.type tE i0 z hu hi hz0 ⟨B,0,UJ⟩ 0 0 [] AM (λj v hv=>by simp at hv) ⟨b,off,UJ⟩ n c (zs.map (Value.int .i64)) (by simp[hz1,hl]) hnews AK AK hfit;obtain⟨v',w',hr,h2,h3,h4⟩:=run_append_own (P:=Tryz.prog) w S tS o.type tE i0 z size bytes hu hi hz0 hz1 hz2 hzs hsz _ 0 [] hown ⟨b,off,UJ⟩ n c (zs.map (Value.int .i64)) (by simp[hl]) hnews (Bb _ _) (by unfold maxLen;omega) (by rw[Ak];omega) hSw;have he:=hr.symm.trans hg;injection he with e1 e2
  have hBl:Below w.heap.size w w':=by rw[e2];exact Cs.drew.alloc Cw _
  have hk:=h v' w' (by simpa using h2) hBl;unfold Oper.wp execOp;simp only[hop,resolve,invoke,builtin,Sem.run_bind,Sem.run_pure,Result.andThen_ok,List.map_toArray,List.map_cons,List.map_nil,hs,hx,hr];exact hk
theorem K9 (tS tE:TypeId) (z:UL) (size bytes:Nat) (hinfo:(Tryz.prog.info? tE).map (λi=>(i.zero,i.size,i.bytes))=UI (UI z,size,bytes)) (hu:Tryz.prog.underlying tS=UI (.slice tE)) (hzs:z.cells.size=size) (hsz:0<size) (hby:bytes<=64)
  (w:UK) {ops:Array Oper} {rest:List Oper} {o:Oper} {a:Act} {Q:Exit->Act->UK->Prop} (hgd:o.guard=UJ) (s x:Operand) (hop:o.op=Op.call { callee:=Callee.builtin Builtin.append,args:=#[s,x],argTypes:=#[tS,tS] })
  (S:Nat) (v:UL) (hs:a.eval s=v) (hem:E3 S tE w v) (xa:Option Addr) (n c:Nat) (zs:List Int) (hx:a.eval x=UD xa n c) (hl:zs.length=n*size) (hA:At .i64 w xa zs) (hb:n<=1048576) (hSw:S<=w.heap.size)
  (h:∀ v' w',w'.ownsRow S tE size v' n (zs.map (Value.int .i64))->Below w.heap.size w w'->wpList Tryz.prog ops Q rest (a.put o.dst v') w'):wpList Tryz.prog ops Q (o::rest) a w:=
 wpList_plain hgd λ_ hK=>E4 tS tE z size bytes hinfo hu hzs hsz hby w s x hop S v hs hem xa n c zs hx hl hA hb hSw λv' w' h1 h2=>hK _ _ (h v' w' h1 h2)
end Go.Proofs.YthmeoilbmfdhfaaGreat
