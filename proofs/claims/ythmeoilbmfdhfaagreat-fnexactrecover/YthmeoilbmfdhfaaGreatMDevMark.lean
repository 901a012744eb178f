import Derived.Test.YthmeoilbmfdhfaaGreatMSec
import Derived.Test.YthmeoilbmfdhfaaGreatMSvQ
import Derived.Test.YthmeoilbmfdhfaaGreatMSvS
import Derived.Test.YthmeoilbmfdhfaaGreatMDevEq
open Go.Value renaming slice->UD,int->UE,pointer->UM,bool->UF,agg->UN
open Go.IntKind renaming i64->UO,u32->UG,u8->UH
open Go.Obj renaming cells->UP
open Go.Ending renaming returned->UQ
open Option renaming some->UI,none->UJ
open Go renaming World->UK,Value->UL
namespace Go.Proofs.YthmeoilbmfdhfaaGreat
set_option maxHeartbeats 2000000
set_option maxRecDepth 100000
open Go.ChangeShapes Go.WideShapes Go.ChangeAt Go.RowKit
set_option linter.unusedVariables false
structure Ch (B U:Nat) (w w':UK):Prop where
 os:w'.os=w.os
 tape:w'.tape=w.tape
 output:w'.output=w.output
 size:w.heap.size<=w'.heap.size
 block:∀ k,k<w.heap.size->(k<B\/U<=k)->w'.heap[k]?=w.heap[k]?
theorem Ch.refl (B U:Nat) (w:UK):Ch B U w w:=⟨rfl,rfl,rfl,AY _,λ_ _ _=>rfl⟩
theorem Ch.trans {B U:Nat} {a b c:UK} (h:Ch B U a b) (k:Ch B U b c):Ch B U a c:=
 ⟨k.os.trans h.os,k.tape.trans h.tape,k.output.trans h.output,BC h.size k.size,λi hi hb=>(k.block i (AG h.size) hb).trans (h.block i hi hb)⟩
theorem Ch.of_below {B U:Nat} {w w':UK} (h:Below w.heap.size w w'):Ch B U w w':=⟨h.os,h.tape,h.output,h.size,λk hk _=>h.block k hk⟩
theorem Ch.setCell {B U:Nat} {w w':UK} (h:Ch B U w w') (g o:Nat) (v:UL) (hB:B<=g) (hU:g<U):Ch B U w (w'.setCell ⟨g,o,UJ⟩ v):=
 ⟨h.os,h.tape,h.output,by simp only[World.setCell,Array.size_modify];exact h.size,λk hk hb=>(Ah w' ⟨g,o,UJ⟩ k v (by show k≠g;omega)).trans (h.block k hk hb)⟩
theorem Ch.wrO {B U:Nat} {w w' w'':UK} {a:Option Addr} (h:Ch B U w w') (hw:Hb a w' w'') (hB:∀ ad,a=UI ad->B<=ad.block/\ad.block<U):Ch B U w w'':=
 ⟨hw.os.trans h.os,hw.tape.trans h.tape,hw.output.trans h.output,by rw[hw.size];exact h.size,λk hk hb=>(hw.block k (λad e=>AG (hB ad e))).trans (h.block k hk hb)⟩
def Gp (k:Int) (ps:List PD) (i:Nat):Int:=k+i+Db (ps.take i)
def Ex (k:Int) (ps:List PD):List PD:=(List.range ps.length).map λi=>(Gp k ps i,EU (Gp k ps i+1) (ps.getD i (0,[])).2.length)
theorem Ey (k:Int) (ps:List PD):(Ex k ps).length=ps.length:=by simp[Ex]
theorem Iw (k:Int) (ps:List PD) (i:Nat) (h:i<ps.length):(Ex k ps).getD i (0,[])=(Gp k ps i,EU (Gp k ps i+1) (ps.getD i (0,[])).2.length):=by simp[Ex,h]
theorem Kq (k:Int) (ps:List PD):Gp k ps 0=k:=by simp[Gp,Db]
theorem Kr (k:Int) (ps:List PD) (i:Nat) (h:i<ps.length):Gp k ps (i+1)=Gp k ps i+1+(ps.getD i (0,[])).2.length:=by
 unfold Gp;rw[IJ ps i h];omega
theorem MU (k:Int) (ps:List PD):Gp k ps ps.length=k+ps.length+Db ps:=by unfold Gp;rw[List.take_length]
theorem Jz (k:Int) (ps:List PD) (i:Nat) (h:i<=ps.length):k<=Gp k ps i/\Gp k ps i<=k+ps.length+Db ps:=by
 unfold Gp;have:=IK ps i;omega
structure MP (w wr:UK) (g o:Nat) (X:Nat->Option Addr) (C:Nat->Nat) (ps:List PD) (B U:Nat) (k:Int) (j:Nat):Prop where
 ch:Ch B U w wr
 size:wr.heap.size=w.heap.size
 all:∀ t,t<ps.length->(wr.cell? ⟨g,o+t*2,UJ⟩).isSome=true/\wr.frozen? ⟨g,o+t*2,UJ⟩=false/\wr.cell? ⟨g,o+t*2+1,UJ⟩=UI (UD (X t) (ps.getD t (0,[])).2.length (C t))
 rest:∀ t,t<ps.length->j<=t->Df wr (X t) (ps.getD t (0,[])).2.length
 done:∀ t,t<ps.length->t<j->wr.cell? ⟨g,o+t*2,UJ⟩=UI (UE UO (Gp k ps t))/\At UH wr (X t) (EU (Gp k ps t+1) (ps.getD t (0,[])).2.length)
theorem MP.cell1 {w wr:UK} {g o:Nat} {X:Nat->Option Addr} {C:Nat->Nat} {ps:List PD} {B U:Nat} {k:Int} {j:Nat} (h:MP w wr g o X C ps B U k j) (hj:j<ps.length) (v:UL) :
  (wr.setCell ⟨g,o+j*2,UJ⟩ v).cell? ⟨g,o+j*2+1,UJ⟩=UI (UD (X j) (ps.getD j (0,[])).2.length (C j)):=by
 rw[BG _ _ _ _ AM];exact(h.all j hj).2.2
theorem Df.setCell {w:UK} {a:Option Addr} {n g o:Nat} {v:UL} (h:Df w a n) (hne:∀ ad,a=UI ad->ad.block≠g):Df (w.setCell ⟨g,o,UJ⟩ v) a n:=
 h.keep (λad e=>Ah w ⟨g,o,UJ⟩ ad.block v (hne ad e)) (by simp[World.setCell])
theorem MP.step {w wr w2:UK} {g o:Nat} {X:Nat->Option Addr} {C:Nat->Nat} {ps:List PD} {B U:Nat} {k:Int} {j:Nat} (h:MP w wr g o X C ps B U k j) (hj:j<ps.length) (hB:B<=g) (hU:g<U)
  (hX:∀ i,i<ps.length->∀ ad,X i=UI ad->B<=ad.block/\ad.block<U/\ad.block≠g) (hd:∀ i j ad ad',i<ps.length->j<ps.length->i≠j->X i=UI ad->X j=UI ad'->ad.block≠ad'.block)
  (hw:Hb (X j) (wr.setCell ⟨g,o+j*2,UJ⟩ (UE UO (Gp k ps j))) w2) (hA:At UH w2 (X j) (EU (Gp k ps j+1) (ps.getD j (0,[])).2.length)):MP w w2 g o X C ps B U k (j+1):=by
 have hg2:w2.heap[g]?=(wr.setCell ⟨g,o+j*2,UJ⟩ (UE UO (Gp k ps j))).heap[g]?:=hw.block g (λad e=>Bs (hX j hj ad e).2.2);have hs1:(wr.setCell ⟨g,o+j*2,UJ⟩ (UE UO (Gp k ps j))).heap.size=wr.heap.size:=by simp[World.setCell]
 have hsz:w2.heap.size=wr.heap.size:=by rw[hw.size,hs1]
 have cg:∀ q,w2.cell? ⟨g,q,UJ⟩=(wr.setCell ⟨g,o+j*2,UJ⟩ (UE UO (Gp k ps j))).cell? ⟨g,q,UJ⟩:=λq=>Aa (a:=⟨g,q,UJ⟩) hg2
 have fg:∀ q,w2.frozen? ⟨g,q,UJ⟩=wr.frozen? ⟨g,q,UJ⟩:=λq=>by rw[FE (a:=⟨g,q,UJ⟩) hg2,CH]
 have hoth:∀ t,t<ps.length->t≠j->∀ ad,X t=UI ad->w2.heap[ad.block]?=wr.heap[ad.block]?:=λt ht htj ad e=>by
  rw[hw.block ad.block (λad' e'=>hd t j ad ad' ht hj htj e e'),Ah wr ⟨g,o+j*2,UJ⟩ ad.block _ (hX t ht ad e).2.2]
 refine⟨(h.ch.setCell g _ _ hB hU).wrO hw (λad e=>⟨(hX j hj ad e).1,(hX j hj ad e).2.1⟩),by rw[hsz];exact h.size,λt ht=>?_,λt ht hjt=>?_,λt ht hjt=>?_⟩
 ·obtain⟨p1,p2,p3⟩:=h.all t ht;refine⟨?_,by rw[fg];exact p2,?_⟩
  ·obtain⟨u,hu⟩:=Av.1 p1;obtain⟨u',hu'⟩:=cell?_setCell_some (w:=wr) (p:=⟨g,o+j*2,UJ⟩) (x:=UE UO (Gp k ps j)) (q:=⟨g,o+t*2,UJ⟩) (v:=u) hu;rw[cg,hu'];rfl
  ·rw[cg,BG _ _ _ _ (by simp;try omega)];exact p3
 ·exact(h.rest t ht AK).keep (hoth t ht AK) AK
 ·by_cases e:t=j
  ·subst e;obtain⟨u,hu⟩:=Av.1 (h.all t ht).1;exact⟨by rw[cg];exact BQ _ _ _ hu,hA⟩
  ·obtain⟨q1,q2⟩:=h.done t ht AK;refine⟨by rw[cg,BG _ _ _ _ (by simp;try omega)];exact q1,q2.keep (hoth t ht e) AK⟩
structure Kp (P:Nat->Prop) (w w':UK):Prop where
 os:w'.os=w.os
 tape:w'.tape=w.tape
 output:w'.output=w.output
 size:w.heap.size<=w'.heap.size
 block:∀ j,j<w.heap.size->P j->w'.heap[j]?=w.heap[j]?
theorem Kp.below {P:Nat->Prop} {a b:UK} {lo:Nat} (h:Kp P a b) (hlo:lo<=a.heap.size) (hp:∀ j,j<lo->P j):Below lo a b:=⟨h.os,h.tape,h.output,h.size,λj hj=>h.block j AK (hp j hj)⟩
theorem MP.end_ {w wr w2:UK} {g o:Nat} {X:Nat->Option Addr} {C:Nat->Nat} {ps:List PD} {B U:Nat} {k:Int} (h:MP w wr g o X C ps B U k ps.length) (hg:g<wr.heap.size) (hB:B<=g) (hU:g<U) (hX:∀ i,i<ps.length->∀ ad,X i=UI ad->B<=ad.block/\ad.block<U/\ad.block≠g) (hs:wr.heap.size<=w2.heap.size) (hk:∀ j,B<=j->j<U->w2.heap[j]?=wr.heap[j]?):FY w2 (UI ⟨g,o,UJ⟩) (Ex k ps):=
 .inr ⟨g,o,rfl,AK,λi hi=>by
  rw[Ey] at hi;obtain⟨q1,q2⟩:=h.done i hi hi;rw[Iw k ps i hi];exact⟨X i,C i,by rw[Aa (a:=⟨g,o+i*2,UJ⟩) (w:=wr) (hk _ hB hU)];exact q1,by rw[EH,Aa (a:=⟨g,o+i*2+1,UJ⟩) (w:=wr) (hk _ hB hU)];exact(h.all i hi).2.2,q2.keep (λad e=>hk _ (hX i hi ad e).1 (hX i hi ad e).2.1) hs⟩⟩
theorem Lr (a:Option Addr) (n cap:Nat) (ps:List PD) (k:Int) (B U:Nat) (w:UK) (h:Dq B U w a ps) (hl:ps.length=n) (hk:0<=k) (hk':k+n+Db ps<=1099511627776) :
  Calls Tryz.prog 45 #[UD a n cap,UE UO k] w λe w'=>e=UQ (UE UO (k+n+Db ps))/\(∀ w2,w'.heap.size<=w2.heap.size->(∀ j,B<=j->j<U->w2.heap[j]?=w'.heap[j]?)->FY w2 a (Ex k ps))/\Ch B U w w'/\w'.heap.size=w.heap.size:=by
 rcases h with rfl|⟨g,o,X,C,rfl,hB,hg,hU,h1,h2⟩
 ·simp at hl;subst hl;go_enter Tryz.func45,Tryz.ntmps45;go_wp2;refine wp_loop_rounds 1 ?_;rw[rounds_succ];go_wp2
  go_ret
  exact⟨DW (by simp[Db]),λ_ _ _=>.inl rfl,Ch.refl _ _ _,rfl⟩
 have hX:∀ i,i<ps.length->∀ ad,X i=UI ad->B<=ad.block/\ad.block<U/\ad.block≠g:=λi hi=>(h1 i hi).2.2.2.2.2.1
 have hst:MP w w g o X C ps B U k 0:=⟨Ch.refl _ _ _,rfl,λt ht=>⟨by rw[(h1 t ht).1];rfl,(h1 t ht).2.1,(h1 t ht).2.2.1⟩,λt ht _=>(h1 t ht).2.2.2.2.1,λt _ ht=>AK⟩
 have HX:AP _:=hX;have HD:AP _:=h2;have HST:AP _:=hst;clear h1 h2 hX hst;go_enter Tryz.func45,Tryz.ntmps45;go_wp2
 go_loopw [1,5] (λq i wr=>∃ j:Nat,j<=n/\i=UE UO j/\q=UE UO (Gp k ps j)/\MP w wr g o X C ps B U k j) (λ_ i _=>n-(intOf i).toNat)
 case atStart=>exact⟨0,Aj _,rfl,by rw[Kq],HST.o⟩
 case round=>
  obtain⟨j,hj,rfl,rfl,st⟩:=hrel;have hkb:=Jz k ps j AK;by_cases hlt:j<n
  ·have hsucc:=Kr k ps j AK;have hkb2:=Jz k ps (j+1) AK;obtain⟨p1,p2,p3⟩:=st.all j AK;obtain⟨v0,hv0⟩:=Av.1 p1;have c1:=st.cell1 AK (UE UO (Gp k ps j));have ho:=(st.rest j AK Cw).setCell (g:=g) (o:=o+j*2) (v:=UE UO (Gp k ps j)) (λad e=>(HX.o j AK ad e).2.2);have hstep:=λw2=>st.step (w2:=w2) AK hB hg HX.o HD.o
   have HS:AP _:=hstep;have HO:AP _:=ho;have HSUC:AP _:=hsucc;clear p1 hstep st ho hsucc;generalize Gp k ps j=q at *;generalize (ps.getD j (0,[])).2.length=m at *;have hr:q+1+(m:Int)=Gp k ps (j+1):=HSUC.o.symm;go_wp2_with fail;refine(Gm (X j) m (C j) (q+1) _ HO.o AK AK).mono ?_;rintro e w2 ⟨rfl,hA,hwr⟩;have st2:=HS.o w2 hwr hA;rw[hr];have HST2:AP _:=st2;clear st2 hA hwr hr;go_wp2;go_roundw
   case rel=>exact⟨j+1,AK,by go_num,rfl,HST2.o⟩
   case measure=>simp[intOf];omega
  ·have hjn:j=ps.length:=AK
   subst hjn;have hall:=MU k ps;have HE:AP (∀ w2:UK,wr.heap.size<=w2.heap.size->(∀ j,B<=j->j<U->w2.heap[j]?=wr.heap[j]?)->FY w2 (UI ⟨g,o,UJ⟩) (Ex k ps)):=λw2 h1 h2=>st.end_ (AG st.size) hB hg HX.o h1 h2
   have HC:AP _:=Ac st.ch st.size;rw[hall];clear st;go_wp2
   go_ret
   exact⟨DW AK,HE.o,HC.o⟩
theorem Oj (a x:Option Addr) (c cx:Nat) (zs:List Int) (ps:List PD) (f:Int) (d:Bool) (k:Int) (B U:Nat) (w:UK) (hO:Df w a zs.length) (hal:∀ ad,a=UI ad->ad.block<w.heap.size/\(ad.block<B\/U<=ad.block)) (hU:U<=w.heap.size) (hP:Dq B U w x ps) (hk:0<=k) (hk':k+zs.length+ps.length+Db ps<=1099511627776) :
  Calls Tryz.prog 12 #[UN #[UD a zs.length c,UD x ps.length cx,UE UO f,UF d],UE UO k] w λe w'=>e=UQ (UE UO (k+zs.length+ps.length+Db ps))/\At UH w' a (EU k zs.length)/\(∀ w2,w'.heap.size<=w2.heap.size->(∀ j,B<=j->j<U->w2.heap[j]?=w'.heap[j]?)->FY w2 x (Ex (k+zs.length) ps))/\Kp (λj=>(∀ ad,a=UI ad->j≠ad.block)/\(j<B\/U<=j)) w w':=by
 generalize hL:zs.length=L at *;generalize hm:ps.length=m at *;have hb:=(Ad w.heap.size w).alloc Cw (UP #[UD a L c,UD x m cx,UE UO f,UF d] 40);have n0:(w.alloc (UP #[UD a L c,UD x m cx,UE UO f,UF d] 40)).heap[w.heap.size]?=UI (UP #[UD a L c,UD x m cx,UE UO f,UF d] 40 (0,0)):=AV w _;have HO1:AP _:=hO.below hb;have HP1:AP (Dq B U (w.alloc (UP #[UD a L c,UD x m cx,UE UO f,UF d] 40)) x ps):=hP.below hb;have HN0:AP _:=n0;have HB0:AP (Below w.heap.size w (w.alloc (UP #[UD a L c,UD x m cx,UE UO f,UF d] 40))):=hb;have hz1:w.heap.size<(w.alloc (UP #[UD a L c,UD x m cx,UE UO f,UF d] 40)).heap.size:=(AQ.1 n0).1;clear hb hO hP n0;go_enter Tryz.func12,Tryz.ntmps12;go_wp2_with fail;generalize w.alloc (UP #[UD a L c,UD x m cx,UE UO f,UF d] 40)=w1 at *;refine(Gm a L c k w1 HO1.o hk AK).mono ?_;rintro e w2 ⟨rfl,hA2,hwr⟩;have n2:w2.heap[w.heap.size]?=UI (UP #[UD a L c,UD x m cx,UE UO f,UF d] 40 (0,0)):=by
  rw[hwr.block _ (λad e=>AG (hal ad e))];exact HN0.o
 have k1:=AA n2 1;simp at k1;have HP2:AP (Dq B U w2 x ps):=Dq.keep HP1.o (λj hj hj'=>hwr.block j (λad e=>AG (hal ad e))) (by rw[hwr.size];exact AY _);have HZ2:AP (w2.heap.size=w1.heap.size):=hwr.size;have HA2:AP _:=hA2;have HW2:AP (Hb a w1 w2):=hwr;clear n2 hA2 hwr HP1 HN0 HO1;go_wp2_with fail;refine(Lr x m cx ps (k+L) B U w2 HP2.o hm AK AK).mono ?_;rintro e w3 ⟨rfl,hP3,hc3,hs3⟩;have HE:AP (At UH w3 a (EU k L)):=by
  refine At.keep (show At UH w2 a (EU k L) from HA2.o) (λad e=>?_) AK;have:=hal ad e;have:=HZ2.o;exact hc3.block _ AK AK
 have HC3:AP (Kp (λj=>(∀ ad,a=UI ad->j≠ad.block)/\(j<B\/U<=j)) w w3):=⟨hc3.os.trans (HW2.o.os.trans HB0.o.os),hc3.tape.trans (HW2.o.tape.trans HB0.o.tape),hc3.output.trans (HW2.o.output.trans HB0.o.output),AG HZ2.o,λj hj hn=>by rw[hc3.block j (AG HZ2.o) hn.2,HW2.o.block j hn.1,HB0.o.block j hj]⟩
 have HP3:AP _:=hP3;clear hP3 hc3 HP2 HA2 HW2 HB0;go_wp2
 go_ret
 exact⟨rfl,HE.o,HP3.o,HC3.o⟩
theorem NL (v:UL) (zs:List Int) (ps:List PD) (f:Int) (d:Bool) (k:Int) (B U:Nat) (w:UK) (h:FH B U w v zs ps f d) (hk:0<=k) (hk':k+zs.length+ps.length+Db ps<=1099511627776) :
  Calls Tryz.prog 12 #[v,UE UO k] w λe w'=>e=UQ (UE UO (k+zs.length+ps.length+Db ps))/\Ei w' v (EU k zs.length) (Ex (k+zs.length) ps) f d/\Ch B U w w':=by
 obtain⟨a,c,x,cx,B1,rfl,hA,hO,hab,hB1,hU1,hU,hP,hcap⟩:=h;refine(Oj a x c cx zs ps f d k B1 U w hO (λad e=>AG (hab ad e)) hU hP hk hk').mono ?_;rintro e w' ⟨rfl,h1,h2,h3⟩;exact⟨rfl,⟨a,c,x,cx,by rw[EH,Ey],h1,h2 w' Cw (λ_ _ _=>rfl),by rw[EH];exact hcap⟩,h3.os,h3.tape,h3.output,h3.size,λj hj hn=>h3.block j hj ⟨λad e h=>AG (hab ad e),AK⟩⟩
theorem Ix {w:UK} {o:Oper} {a:Act} {K:Act->UK->Prop} {Q:Exit->Act->UK->Prop} (d s:Operand)
  (ho:o.op=.call { callee:=.builtin .copy,args:=#[d,s],argTypes:=#[22,22] }) (dp sp:Option Addr) (g off dLen dCap sLen sCap:Nat)
  (hd:a.eval d=UD dp dLen dCap) (hs:a.eval s=UD sp sLen sCap) (cur:Array UL) (t:TypeId) (hg:w.heap[g]?=UI (UP cur t (0,0))) (news:List Int) (hn:news.length=Nat.min sLen dLen)
  (hpos:0<news.length->dp=UI ⟨g,off,UJ⟩/\∃ ad,sp=UI ad/\∀ j,j<news.length->w.cell? (ad.add j)=UI (UE UH (news.getD j 0))) (hfit:off+news.length<=cur.size)
  (h:∀ w',w'.heap[g]?=UI (UP (cur.toList.take off++(news.map (Value.int UH)++cur.toList.drop (off+news.length))).toArray t (0,0))->Wr g w w'->K (a.put o.dst (goInt news.length)) w'):o.wp Tryz.prog a w K Q:=by
 by_cases h0:news.length=0
 ·obtain rfl:news=[]:=Aq h0;have hrun:=run_copy_none (P:=Tryz.prog) w 22 22 o.type 5 dp sp dLen dCap sLen sCap Tryz.underlying22 Tryz.sizeU8 (by simpa using hn.symm);unfold Oper.wp;simp[execOp,ho,resolve,invoke,builtin,hd,hs,hrun,Result.andThen];exact h w (by simpa using hg) (Wr.refl _ _)
 ·obtain⟨rfl,ad,rfl,hsrc⟩:=hpos AK;have hrun:=run_copy_row (P:=Tryz.prog) w 22 22 o.type 5 g off dLen dCap ad sLen sCap cur t (news.map (Value.int UH)) Tryz.underlying22 Tryz.sizeU8 hg (by simpa using hn) (λj v hv=>by
   have hj:j<news.length:=by have:=(Af.1 hv).1;simpa using this
   rw[hsrc j hj];simp[hj] at hv;simp[hj,hv]) (by simpa using hfit) (Bb _ _)
  unfold Oper.wp;simp[execOp,ho,resolve,invoke,builtin,hd,hs,hrun,Result.andThen];exact h _ (by rw[AB hg]) (Wr.setRow _ _ _)
theorem DT.splice {w w':UK} {B g n c:Nat} {zs news:List Int} {cur:Array UL} (h:DT w B (UD (UI ⟨g,0,UJ⟩) n c) zs) (off:Nat) (hfit:off+news.length<=zs.length) (hg:w.heap[g]?=UI (UP cur 5 (0,0)))
  (hw:w'.heap[g]?=UI (UP (cur.toList.take off++(news.map (Value.int UH)++cur.toList.drop (off+news.length))).toArray 5 (0,0))):DT w' B (UD (UI ⟨g,0,UJ⟩) n c) (zs.take off++(news++zs.drop (off+news.length))):=by
 obtain⟨g',c',e⟩:=h.2;cases e;have hl:(zs.take off++(news++zs.drop (off+news.length))).length=zs.length:=by simp;omega
 obtain⟨h1,⟨h2,_⟩|⟨g',cap,cur',hv,hb,hh,hc,hm,hs,ht⟩⟩:=h.1
 ·cases h2
 ·cases hv;rw[hg] at hh;obtain rfl:=(by simpa using hh:cur=cur')
  refine⟨⟨by rw[BI,B8],.inr ⟨g,c,_,?_,hb,hw,AK,hm,?_,?_⟩⟩,g,c,by rw[hl]⟩
  ·rw[hl]
  ·simp;omega
  ·rw[hl];have e1:cur.toList.take off=(zs.take off).map (Value.int UH):=by
    have:(cur.toList.take (zs.length*1)).take off=(zs.map (Value.int UH)).take off:=by rw[ht]
    rw[List.take_take,Nat.min_eq_left AK] at this;rw[this,List.map_take]
   have e2:(cur.toList.drop (off+news.length)).take (zs.length-(off+news.length))=(zs.drop (off+news.length)).map (Value.int UH):=by
    have:(cur.toList.take (zs.length*1)).drop (off+news.length)=(zs.map (Value.int UH)).drop (off+news.length):=by rw[ht]
    rw[List.drop_take] at this;rw[B8] at this;rw[this,List.map_drop]
   have hl1:(cur.toList.take off).length=off:=by simp;omega
   have hsum:zs.length*1=(cur.toList.take off).length+((news.map (Value.int UH)).length+(zs.length-(off+news.length))):=by rw[hl1,BI];omega
   rw[hsum,List.take_length_add_append,List.take_length_add_append,e1,e2];simp
end Go.Proofs.YthmeoilbmfdhfaaGreat
namespace Go.Proofs.YthmeoilbmfdhfaaGreat
open Go.ChangeShapes Go.WideShapes Go.ChangeAt Go.RowKit
set_option linter.unusedVariables false
variable {w w':UK} {g:Nat} {d u:List Int} {k:Int} {v:UL}
theorem Ok (hb:Bk w g d u k (UD UJ 0 0)) (h0:0<=k) (h1:k<=1048576) :
  Calls Tryz.prog 161 #[UM (UI ⟨g,0,UJ⟩),UE UO k] w λe w'=>e=UQ (.tuple #[])/\∃ q,w'=(((w.setCell ⟨g,65,UJ⟩ (UD UJ 0 0)).drewN q).setCell ⟨g,64,UJ⟩ (UE UO k)):=by
 have c0:=hb.ck;have c1:=hb.cv;have f0:=hb.fz 64;have f1:=hb.fz 65;have hb2:=hb.setV (UD UJ 0 0);have c2:=hb2.ck;have f2:=hb2.fz 64;clear hb hb2;go_enter Tryz.func161,Tryz.ntmps161;go_wp2_with fail
 go_region
 go_wp2
 go_end0
 exact⟨rfl,1,rfl⟩
def Lt (t o n c m:Nat):UL:=UD (if c=m then UI ⟨t,o,UJ⟩ else UI ⟨t,o+m*2,UJ⟩) (n-m:Nat) (c-m:Nat)
theorem Ol (t o n c m:Nat) (hb:Bk w g d u k (UD (UI ⟨t,o,UJ⟩) n c)) (h0:0<=k) (h1:k<=1048576) (hm:m<=n) (hc:n<=c) (hn:n<=1048576) (hcm:c<=9223372036854775807) :
  Calls Tryz.prog 161 #[UM (UI ⟨g,0,UJ⟩),UE UO (k+m)] w λe w'=>e=UQ (.tuple #[])/\∃ q,w'=(((w.setCell ⟨g,65,UJ⟩ (Lt t o n c m)).drewN q).setCell ⟨g,64,UJ⟩ (UE UO (k+m))):=by
 have c0:=hb.ck;have c1:=hb.cv;have f0:=hb.fz 64;have f1:=hb.fz 65;have hb2:=hb.setV (Lt t o n c m);have c2:=hb2.ck;have f2:=hb2.fz 64;have HK:AP ((k+(m:Int)-k).toNat=m):=by show _=_;omega
 have HV:AP (UD (if c=m then UI ⟨t,o,UJ⟩ else UI ⟨t,o+m*2,UJ⟩) (n-m:Nat) (c-m:Nat)=Lt t o n c m):=rfl;clear hb hb2;go_enter Tryz.func161,Tryz.ntmps161;go_wp2_with fail
 go_region
 rw[HK.o,HV.o];clear HK HV;go_wp2
 go_end0
 exact⟨rfl,1,rfl⟩
end Go.Proofs.YthmeoilbmfdhfaaGreat
namespace Go.Proofs.YthmeoilbmfdhfaaGreat
open Go.ChangeShapes Go.WideShapes Go.ChangeAt Go.RowKit
set_option linter.unusedVariables false
variable {w w':UK} {g:Nat} {d u:List Int} {k:Int} {v:UL}
def Iy (g:Nat) (v:UL):Prop:=∀ t,v.ownBlock=UI t->t≠g
def Ds (B:Nat) (w:UK) (v:UL) (T:List Int) (n:Nat):Prop:=
 T.length=n*2/\((v=UD UJ 0 0/\n=0)\/
  ∃ t o c,v=UD (UI ⟨t,o,UJ⟩) n c/\B<=t/\t<w.heap.size/\n<=c/\c<=9223372036854775807/\(∀ i,i<n*2->w.cell? ⟨t,o+i,UJ⟩=UI (UE UO (T.getD i 0))/\w.frozen? ⟨t,o+i,UJ⟩=false)/\∃ cs,w.heap[t]?=UI (UP cs 133 (0,0))/\o+c*2<=cs.size)
theorem DN.tapV {B:Nat} {T:List Int} {n:Nat} (h:DN B w v T n):Ds B w v T n:=by
 have hT:T.length=n*2:=by simpa using h.1
 refine⟨hT,?_⟩;rcases h.2 with⟨h1,h2⟩|⟨t,c,cur,h1,h2,h3,h4,h5,h6,h7⟩
 ·exact .inl ⟨h1,h2⟩
 ·refine .inr ⟨t,0,c,h1,h2,(AQ.1 h3).1,h4,by unfold maxLen at h5;omega,λi hi=>?_,cur,h3,AK⟩;rw[Ak];refine⟨?_,Ag _ _ _ _ _ h3⟩;subst h1;rw[World.ownsRow.cellAt h i hi];simp[show i<T.length by omega]
theorem Ds.block {B:Nat} {T:List Int} {n:Nat} (h:Ds B w v T n) (hs:w.heap.size<=w'.heap.size) (hb:∀ t,v.ownBlock=UI t->t<w.heap.size->w'.heap[t]?=w.heap[t]?):Ds B w' v T n:=by
 obtain⟨h1,h2|⟨t,o,c,e,hB,ht,hc,hm,hx,cs,hcs,hsz⟩⟩:=h
 ·exact⟨h1,.inl h2⟩
 ·have hk:=hb t (by rw[e];rfl) ht;refine⟨h1,.inr ⟨t,o,c,e,hB,AK,hc,hm,λi hi=>?_,cs,by rw[hk];exact hcs,hsz⟩⟩;rw[Aa (a:=⟨t,o+i,UJ⟩) (w:=w) hk,World.frozen?_of_block (a:=⟨t,o+i,UJ⟩) (w:=w) hk];exact hx i hi
theorem Ds.drop {B t o c:Nat} {T:List Int} {n:Nat} (h:Ds B w (UD (UI ⟨t,o,UJ⟩) n c) T n) (m:Nat) (hm:m<=n):Ds B w (Lt t o n c m) (T.drop (m*2)) (n-m):=by
 obtain⟨h1,⟨h2,_⟩|⟨t',o',c',e,hB,ht,hc,hx,hy,cs,hcs,hsz⟩⟩:=h
 ·cases h2
 ·cases e;refine⟨by rw[Bj];omega,.inr ?_⟩;unfold Lt;by_cases he:c=m
  ·rw[AR he];exact⟨t,o,c-m,rfl,hB,ht,AK,AK,λi hi=>AK,cs,hcs,AK⟩
  ·rw[AS he];refine⟨t,o+m*2,c-m,rfl,hB,ht,AK,AK,λi hi=>?_,cs,hcs,AK⟩;have:=hy (m*2+i) AK;rw[<-Ap] at this;rw[show(T.drop (m*2)).getD i 0=T.getD (m*2+i) 0 by simp[List.getD]];exact this
def Ks (H B g:Nat) (w:UK) (ok:Bool) (D U:Nat->Prop) (k:Int) (T:List Int) (n:Nat) (e:Ending) (w':UK):Prop:=
 e=UQ (UF ok)/\Below H w w'/\(ok=true->∃ d u v,Bk w' g d u k v/\DV d D/\DV u U/\Ds B w' v T n/\Iy g v)
def Do (k a:Int):Nat:=(max a k-k).toNat
theorem Om {B H:Nat} {T:List Int} {n m q:Nat} {v':UL} {k':Int} (hb:Bk w g d u k v) (hH:H<=g) (hgB:Iy g v') (hv:Ds B w v' T n) :
  Bk (((w.setCell ⟨g,65,UJ⟩ v').drewN q).setCell ⟨g,64,UJ⟩ (UE UO k')) g d u k' v'/\Below H w (((w.setCell ⟨g,65,UJ⟩ v').drewN q).setCell ⟨g,64,UJ⟩ (UE UO k'))/\
   Ds B (((w.setCell ⟨g,65,UJ⟩ v').drewN q).setCell ⟨g,64,UJ⟩ (UE UO k')) v' T n:=by
 have hw:Wr g w (((w.setCell ⟨g,65,UJ⟩ v').drewN q).setCell ⟨g,64,UJ⟩ (UE UO k')):=(((Wr.refl _ _).setCell _ _).drewN _).setCell _ _;refine⟨((hb.setV v').drew q).setK k',hw.below hH,hv.block (by rw[hw.size];exact AY _) (λt ht _=>hw.block t (hgB t ht))⟩
end Go.Proofs.YthmeoilbmfdhfaaGreat
namespace Go.Proofs.YthmeoilbmfdhfaaGreat
open Go.ChangeShapes Go.WideShapes Go.ChangeAt Go.RowKit
set_option linter.unusedVariables false
variable {w w':UK} {g:Nat} {d u:List Int} {k:Int} {v:UL} {D U:Nat->Prop} {T:List Int} {n H B:Nat}
theorem Qh (m:Nat) (hb:Bk w g d u k v) (hv:Ds B w v T n) (h0:0<=k) (h1:k<=1048576) (hm:m<=n) (hn:n<=1048576) (hH:H<=g) (hgB:Iy g v) :
  Calls Tryz.prog 161 #[UM (UI ⟨g,0,UJ⟩),UE UO (k+m)] w λe w'=>e=UQ (.tuple #[])/\Below H w w'/\∃ v',Bk w' g d u (k+m) v'/\Ds B w' v' (T.drop (m*2)) (n-m)/\Iy g v':=by
 have hv0:=hv;obtain⟨hl,⟨rfl,hn0⟩|⟨t,o,c,rfl,hB,ht,hc,hx,hy⟩⟩:=hv
 ·have hm0:m=0:=AK
  subst hm0;rw[show k+((0:Nat):Int)=k by omega];refine(Ok hb h0 h1).mono ?_;rintro e w1 ⟨rfl,q,rfl⟩;obtain⟨r1,r2,r3⟩:=Om (q:=q) (k':=k) (m:=0) hb hH hgB hv0;exact⟨rfl,r2,_,r1,by simpa using r3,hgB⟩
 ·refine(Ol t o n c m hb h0 h1 hm hc hn hx).mono ?_;rintro e w1 ⟨rfl,q,rfl⟩;have hne:Iy g (Lt t o n c m):=λx hx=>hgB x (by unfold Lt at hx;split at hx<;>exact hx)
  obtain⟨r1,r2,r3⟩:=Om (q:=q) (k':=k+m) (m:=m) hb hH hne (hv0.drop m hm);exact⟨rfl,r2,_,r1,r3,hne⟩
theorem Ds.slice (h:Ds B w v T n):∃ a c,v=UD a n c:=by
 obtain⟨hl,⟨h1,h2⟩|⟨t,o,c,h1,_⟩⟩:=h
 ·exact⟨UJ,0,by rw[h1,h2]⟩
 ·exact⟨_,c,h1⟩
theorem Ds.drew (h:Ds B w v T n) (q:Nat):Ds B (w.drewN q) v T n:=h.block Cw (λt _ _=>rfl)
theorem Hq (a:Int) (a0:0<=a) (a1:a<=4294967295) (hb:Bk w g d u k v) (hd:DV d D) (hu:DV u U) (hv:Ds B w v T n) (h0:0<=k) (h1:k<=1048576) (hn:n<=1048576) (hH:H<=g) (hgB:Iy g v) :
  Calls Tryz.prog 142 #[UM (UI ⟨g,0,UJ⟩),UE UO a] w (Ks H B g w (decide (a<=k+n)) D U (max a k) (T.drop (Do k a*2)) (n-Do k a)):=by
 obtain⟨ad,c,rfl⟩:=hv.slice;have HB:AP (Bk w g d u k (UD ad n c)):=hb;have HV:AP (Ds B w (UD ad n c) T n):=hv;have HSD:AP (DV d D):=hd;have HSU:AP (DV u U):=hu;clear hb hv hd hu;go_enter Tryz.func142,Tryz.ntmps142;go_wp2_with fail;refine(Jy ad n c HB.o h0 h1 hn).mono ?_;rintro e w1 ⟨rfl,q,rfl⟩;have HB1:AP (Bk (w.drewN q) g d u k (UD ad n c)):=HB.o.drew q;have HV1:AP (Ds B (w.drewN q) (UD ad n c) T n):=HV.o.drew q;have HW1:AP (Below H w (w.drewN q)):=ET Cs q;clear HB HV;generalize w.drewN q=w1 at *;by_cases hle:a<=k+n
 ·have HD:AP (decide (a<=k+n)=true):=BJ hle;have hle':¬ (a>k+n):=AK
  have c0:=HB1.o.ck;have f0:=HB1.o.fz 64;have HC:AP (∀(e:Ending) (w2:UK),(e=UQ (.tuple #[])/\Below H w1 w2/\∃ v',Bk w2 g d u (k+Do k a) v'/\Ds B w2 v' (T.drop (Do k a*2)) (n-Do k a)/\Iy g v')->Ks H B g w (decide (a<=k+n)) D U (max a k) (T.drop (Do k a*2)) (n-Do k a) (UQ (UF true)) w2):=by
   rintro e w2 ⟨rfl,r1,v',r2,r3,r4⟩;refine⟨by rw[HD.o],HW1.o.trans r1,λ_=>⟨d,u,v',?_,HSD.o,HSU.o,r3,r4⟩⟩;have e:k+(Do k a:Int)=max a k:=by unfold Do;omega
   rw[<-e];exact r2
  have CA:=Qh (Do k a) HB1.o HV1.o h0 h1 (by unfold Do;omega) hn hH hgB;by_cases hka:k<=a
  ·have e:k+(Do k a:Int)=a:=by unfold Do;omega
   rw[e] at CA;clear e;go_wp2_with fail;refine CA.mono ?_;intro e w2 h;have HF:=HC.o e w2 (by have e':k+(Do k a:Int)=a:=by unfold Do;omega
                                                                                              rw[e'];exact h)
   obtain⟨rfl,_⟩:=h;have HF':AP _:=HF;clear HF HC CA HB1 HV1 HW1 HSD HSU c0 f0;go_wp2
   go_ret
   exact HF'.o
  ·have e:k+(Do k a:Int)=k:=by unfold Do;omega
   rw[e] at CA;clear e;go_wp2_with fail;refine CA.mono ?_;intro e w2 h;have HF:=HC.o e w2 (by have e':k+(Do k a:Int)=k:=by unfold Do;omega
                                                                                              rw[e'];exact h)
   obtain⟨rfl,_⟩:=h;have HF':AP _:=HF;clear HF HC CA HB1 HV1 HW1 HSD HSU c0 f0;go_wp2
   go_ret
   exact HF'.o
 ·have HD:AP (decide (a<=k+n)=false):=Ar hle;have hle':a>k+n:=AK
  have HF:AP (Ks H B g w (decide (a<=k+n)) D U (max a k) (T.drop (Do k a*2)) (n-Do k a) (UQ (UF false)) w1):=⟨by rw[HD.o],HW1.o,λh=>by rw[HD.o] at h;cases h⟩
  clear HB1 HV1 HSD HSU;go_wp2
  go_ret
  exact HF.o
end Go.Proofs.YthmeoilbmfdhfaaGreat
namespace Go.Proofs.YthmeoilbmfdhfaaGreat
open Go.ChangeShapes Go.WideShapes Go.ChangeAt Go.RowKit
set_option linter.unusedVariables false
variable {w w':UK} {g:Nat} {d u:List Int} {k:Int} {v:UL} {D U:Nat->Prop} {T:List Int} {n H B:Nat}
theorem Ig {s:Nat} (h:s<256):FG (s:Int)=true:=BJ ⟨AK,AK⟩
theorem On {s:Nat} (h:¬ s<256):FG (s:Int)=false:=Ar (λh'=>h AK)
theorem GD {o:Nat} (s:Nat) (hb:LY w g o d) (hd:DV d D) (hin:s<256/\D s):Calls Tryz.prog 137 #[UM (UI ⟨g,o,UJ⟩),UE UO s] w λe w'=>e=UQ (UF true)/\w'=w:=
 Hh g o s d D true w hb hd (by
  rw[Bw];exact⟨λ_=>⟨AK,AK,hin.2⟩,λh=>rfl⟩)
theorem FR {o:Nat} (s:Nat) (hb:LY w g o d) (hd:DV d D) (hin:¬ (s<256/\D s)):Calls Tryz.prog 137 #[UM (UI ⟨g,o,UJ⟩),UE UO s] w λe w'=>e=UQ (UF false)/\w'=w:=
 Hh g o s d D false w hb hd (by
  rw[Bw];exact⟨λh=>(by cases h),λh=>absurd ⟨AK,h.2.2⟩ hin⟩)
theorem Ds.wr (h:Ds B w v T n) (hw:Wr g w w') (hg:Iy g v):Ds B w' v T n:=h.block (by rw[hw.size];exact AY _) (λt ht _=>hw.block t (hg t ht))
theorem Kt (s:Nat) (hs:s<256) (hnot:¬ D s) (hfull:¬ FK d 32=16) (hb:Bk w g d u k v) (hd:DV d D) (hu:DV u U) (hv:Ds B w v T n) (hH:H<=g) (hgB:Iy g v) :
  Calls Tryz.prog 141 #[UM (UI ⟨g,0,UJ⟩),UE UO s,UE UG 1] w (Ks H B g w true (λx=>D x\/x=s) U k T n):=by
 have HQ:AP (¬ (s<256/\D s)):=λh=>hnot h.2
 have HP:AP (decide (FK d 32=16)=false):=Ar hfull;have HSO:AP (FG (s:Int)=true):=Ig hs;have HB:AP (Bk w g d u k v):=hb;have HSD:AP (DV d D):=hd;have HF:∀ q,AP (Ks H B g w true (λx=>D x\/x=s) U k T n (UQ (UF true)) ((w.setCell ⟨g,0+s/8,UJ⟩ (UE UH ((EC d s).getD (s/8) 0))).drewN q)):=λq=>by
  have hw:Wr g w ((w.setCell ⟨g,0+s/8,UJ⟩ (UE UH ((EC d s).getD (s/8) 0))).drewN q):=((Wr.refl _ _).setCell _ _).drewN _;exact⟨rfl,hw.below hH,λ_=>⟨_,_,_,(hb.addD s hs).drew q,hd.add s hs,hu,hv.wr hw hgB,hgB⟩⟩
 clear hb hd hu hv hnot hfull;go_enter Tryz.func141,Tryz.ntmps141;go_wp2_with fail;refine(Da _ _).mono ?_;rintro e w1 ⟨rfl,rfl⟩;rw[HSO.o];go_wp2_with fail;refine(FR s HB.o.batd HSD.o HQ.o).mono ?_;rintro e w2 ⟨rfl,rfl⟩;go_wp2_with fail;refine(Ko HB.o).mono ?_;rintro e w3 ⟨rfl,rfl⟩;rw[HP.o];go_wp2_with fail;refine(Iq g 0 s d _ hs HB.o.batd).mono ?_;rintro e w4 ⟨rfl,q,rfl⟩;have H2:=HF q;clear HF HB HSD HQ HP HSO;generalize (w3.setCell ⟨g,0+s/8,UJ⟩ (UE UH ((EC d s).getD (s/8) 0))).drewN q=w4 at *;go_wp2
 go_ret
 exact H2.o
theorem Ku (s:Nat) (hs:s<256) (hin:D s) (hb:Bk w g d u k v) (hd:DV d D) (hu:DV u U) (hv:Ds B w v T n) (hH:H<=g) (hgB:Iy g v) :
  Calls Tryz.prog 141 #[UM (UI ⟨g,0,UJ⟩),UE UO s,UE UG 0] w (Ks H B g w true (λx=>D x/\x≠s) U k T n):=by
 have HQ:AP (s<256/\D s):=⟨hs,hin⟩
 have HB:AP (Bk w g d u k v):=hb;have HSD:AP (DV d D):=hd;have HF:∀ q,AP (Ks H B g w true (λx=>D x/\x≠s) U k T n (UQ (UF true)) ((w.setCell ⟨g,0+s/8,UJ⟩ (UE UH ((FD d s).getD (s/8) 0))).drewN q)):=λq=>by
  have hw:Wr g w ((w.setCell ⟨g,0+s/8,UJ⟩ (UE UH ((FD d s).getD (s/8) 0))).drewN q):=((Wr.refl _ _).setCell _ _).drewN _;exact⟨rfl,hw.below hH,λ_=>⟨_,_,_,(hb.remD s hs).drew q,hd.rem s hs,hu,hv.wr hw hgB,hgB⟩⟩
 clear hb hd hu hv hin;go_enter Tryz.func141,Tryz.ntmps141;go_wp2_with fail;refine(GD s HB.o.batd HSD.o HQ.o).mono ?_;rintro e w2 ⟨rfl,rfl⟩;go_wp2_with fail;refine(KU g 0 s d _ hs HB.o.batd).mono ?_;rintro e w4 ⟨rfl,q,rfl⟩;have H2:=HF q;clear HF HB HSD HQ;generalize (w2.setCell ⟨g,0+s/8,UJ⟩ (UE UH ((FD d s).getD (s/8) 0))).drewN q=w4 at *;go_wp2
 go_ret
 exact H2.o
theorem Lu (s b:Nat) (hno1:¬ (b=1/\s<256/\¬ D s/\¬ FK d 32=16)) (hno0:¬ (b=0/\s<256/\D s)) (hbb:b<4294967296) (hb:Bk w g d u k v) (hd:DV d D) :
  Calls Tryz.prog 141 #[UM (UI ⟨g,0,UJ⟩),UE UO s,UE UG b] w λe w'=>e=UQ (UF false)/\w'=w:=by
 have HB:AP (Bk w g d u k v):=hb;have HSD:AP (DV d D):=hd;clear hb hd;by_cases h1:b=1
 ·subst h1;by_cases hs:s<256
  ·have HSO:AP (FG (s:Int)=true):=Ig hs;by_cases hin:D s
   ·have HQ:AP (s<256/\D s):=⟨hs,hin⟩
    clear hno1 hno0 hin;go_enter Tryz.func141,Tryz.ntmps141;go_wp2_with fail;refine(Da _ _).mono ?_;rintro e w1 ⟨rfl,rfl⟩;rw[HSO.o];go_wp2_with fail;refine(GD s HB.o.batd HSD.o HQ.o).mono ?_;rintro e w2 ⟨rfl,rfl⟩;clear HB HSD HQ HSO;go_wp2
    go_ret
    exact⟨rfl,rfl⟩
   ·have HP:AP (decide (FK d 32=16)=true):=BJ (CO λh=>hno1 ⟨rfl,hs,hin,h⟩);have HQ:AP (¬ (s<256/\D s)):=λh=>hin h.2
    clear hno1 hno0 hin;go_enter Tryz.func141,Tryz.ntmps141;go_wp2_with fail;refine(Da _ _).mono ?_;rintro e w1 ⟨rfl,rfl⟩;rw[HSO.o];go_wp2_with fail;refine(FR s HB.o.batd HSD.o HQ.o).mono ?_;rintro e w2 ⟨rfl,rfl⟩;go_wp2_with fail;refine(Ko HB.o).mono ?_;rintro e w3 ⟨rfl,rfl⟩;rw[HP.o];clear HB HSD HQ HSO HP;go_wp2
    go_ret
    exact⟨rfl,rfl⟩
  ·have HSO:AP (FG (s:Int)=false):=On hs;clear hno1 hno0 hs;go_enter Tryz.func141,Tryz.ntmps141;go_wp2_with fail;refine(Da _ _).mono ?_;rintro e w1 ⟨rfl,rfl⟩;rw[HSO.o];clear HB HSD HSO;go_wp2
   go_ret
   exact⟨rfl,rfl⟩
 ·by_cases h0:b=0
  ·subst h0;have HQ:AP (¬ (s<256/\D s)):=λh=>hno0 ⟨rfl,h⟩
   clear hno1 hno0 h1;go_enter Tryz.func141,Tryz.ntmps141;go_wp2_with fail;refine(FR s HB.o.batd HSD.o HQ.o).mono ?_;rintro e w2 ⟨rfl,rfl⟩;clear HB HSD HQ;go_wp2
   go_ret
   exact⟨rfl,rfl⟩
  ·have h1':¬ ((b:Int)=1):=AK
   have h0':¬ ((b:Int)=0):=AK
   clear hno1 hno0 h1 HB HSD;go_enter Tryz.func141,Tryz.ntmps141;go_wp2
   go_ret
   exact⟨rfl,rfl⟩
end Go.Proofs.YthmeoilbmfdhfaaGreat
namespace Go.Proofs.YthmeoilbmfdhfaaGreat
open Go.ChangeShapes Go.WideShapes Go.ChangeAt Go.RowKit
set_option linter.unusedVariables false
variable {w w':UK} {g:Nat} {d u:List Int} {k:Int} {v:UL} {D U:Nat->Prop} {T:List Int} {n H B:Nat}
theorem DN.ownBlock (h:DN B w v T n):∀ k,v.ownBlock=UI k->B<=k:=λk hk=>by
 rcases h.2 with⟨h',_⟩|⟨g,c,cur,h',hb,_⟩
 ·rw[h'] at hk;simp[Value.ownBlock] at hk
 ·rw[h'] at hk;simp[Value.ownBlock] at hk;omega
theorem DN.wrg (h:DN B w v T n) (hne:Iy g v) (hw:Wr g w w'):DN B w' v T n:=by
 refine⟨h.1,?_⟩;rcases h.2 with h'|⟨t,c,cur,h1,h2,h3,h4⟩
 ·exact .inl h'
 ·exact .inr ⟨t,c,cur,h1,h2,by rw[hw.block t (hne t (by rw[h1];rfl))];exact h3,h4⟩
theorem DN.alloc (h:DN B w v T n) (o:Obj):DN B (w.alloc o) v T n:=World.ownsRow.alloc h _
theorem J0 (w:UK) {ops:Array Oper} {rest:List Oper} {o:Oper} {a:Act} {Q:Exit->Act->UK->Prop} (hg:o.guard=UJ) (sx x:Operand)
  (hop:o.op=Op.call { callee:=Callee.builtin Builtin.append,args:=#[sx,x],argTypes:=#[32,32] }) (B:Nat) (v:UL) (T:List Int) (n:Nat) (hs:a.eval sx=v) (hown:DN B w v T n)
  (wb:UK) (s nw:Int) (hw:w=wb.alloc (UP #[UE UO s,UE UO nw] 133)) (hx:a.eval x=UD (UI ⟨wb.heap.size,0,UJ⟩) 1 1) (hm:n<=1048576) (hB:B<=w.heap.size)
  (hK:∀ v' w',DN B w' v' (T++[s,nw]) (n+1)->v'.oneCell'=true->Below B w w'->w.grownBy w' v.ownBlock->(v'.ownBlock=v.ownBlock\/v'.ownBlock=UI w.heap.size)->wpList Tryz.prog ops Q rest (a.put o.dst v') w') :
  wpList Tryz.prog ops Q (o::rest) a w:=by
 obtain⟨i0,hi,hz0,hz1,hz2⟩:=Be Tryz.infoTap;refine wpList_append_own_at w hg sx x 32 hop B 133 i0 (UN #[UE UO 0,UE UO 0]) 2 16 Tryz.underlying32 hi hz0 hz1 hz2 rfl AL v n _ hs hown ⟨wb.heap.size,0,UJ⟩ 1 1 [UE UO s,UE UO nw] hx rfl ?_ (by simp[Value.oneCell']) (by unfold maxLen;omega) AK hB ?_
 ·intro j z hz;have hj:j<2:=by have:=(Af.1 hz).1;simpa using this
  rw[Ay,hw,AA (AV wb _) _,Ak];have:j=0\/j=1:=AK
  rcases this with rfl|rfl<;>simpa using hz
 intro v' w' h1 h2 _ h5;refine hK v' w' ?_ ?_ (Cs.grown h2 hB hown.ownBlock) h2 h5
 ·unfold DN;rw[BY];exact h1
 ·rcases h1.2 with⟨h,_⟩|⟨g,c,cur,h,_⟩
  ·rw[h];rfl
  ·rw[h];rfl
theorem Ds.alloc (h:Ds B w v T n) (o:Obj):Ds B (w.alloc o) v T n:=h.block AM (λt _ ht=>heap_alloc_old w o ht)
theorem Ds.ownBlock (h:Ds B w v T n):∀ k,v.ownBlock=UI k->B<=k:=λk hk=>by
 obtain⟨_,⟨h',_⟩|⟨t,o,c,h',hb,_⟩⟩:=h
 ·rw[h'] at hk;simp[Value.ownBlock] at hk
 ·rw[h'] at hk;simp[Value.ownBlock] at hk;omega
theorem JZ {w:UK} {t o:Nat} {cs:Array UL} {T:TypeId} {fr:Nat×Nat} (h:w.heap[t]?=UI (UP cs T fr)) (v:UL):(w.setCell ⟨t,o,UJ⟩ v).heap[t]?=UI (UP (cs.setIfInBounds o v) T fr):=by
 simp[World.setCell,Array.getElem?_modify,h]
theorem Oo (w:UK) (ty:TypeId) (B:Nat) (v:UL) (T:List Int) (n:Nat) (hown:Ds B w v T n) (wb:UK) (s nw:Int) (hw:w=wb.alloc (UP #[UE UO s,UE UO nw] 133)) (hm:n<=1048576) (hB:B<=w.heap.size) :
  ∃ v' w',(Builtin.append_ #[32,32] ty #[v,UD (UI ⟨wb.heap.size,0,UJ⟩) 1 1]).run Tryz.prog w=.ok v' w'/\Ds B w' v' (T++[s,nw]) (n+1)/\w.grownBy w' v.ownBlock/\(v'.ownBlock=v.ownBlock\/v'.ownBlock=UI w.heap.size):=by
 obtain⟨i0,hi,hz0,hz1,hz2⟩:=Be Tryz.infoTap;have hnews:∀ j u,[UE UO s,UE UO nw][j]?=UI u->w.cell? ((⟨wb.heap.size,0,UJ⟩:Addr).add j)=UI u:=by
  intro j z hz;have hj:j<2:=by have:=(Af.1 hz).1;simpa using this
  rw[Ay,hw,AA (AV wb _) _,Ak];have:j=0\/j=1:=AK
  rcases this with rfl|rfl<;>simpa using hz
 obtain⟨hl,⟨rfl,rfl⟩|⟨t,o,c,rfl,hB0,ht,hc,hmx,hx,cs,hcs,hsz⟩⟩:=hown
 ·have hT:T=[]:=Aq AK;subst hT;obtain⟨v',w',h1,h2,h3,_,h5⟩:=run_append_own_at (P:=Tryz.prog) w B 32 ty 133 i0 (UN #[UE UO 0,UE UO 0]) 2 16 Tryz.underlying32 hi hz0 hz1 hz2 rfl AL (UD UJ 0 0) 0 [] ⟨rfl,.inl ⟨rfl,rfl⟩⟩ ⟨wb.heap.size,0,UJ⟩ 1 1 [UE UO s,UE UO nw] rfl hnews (by simp[Value.oneCell']) AL AL hB;exact⟨v',w',h1,DN.tapV (T:=[]++[s,nw]) h2,h3,h5⟩
 ·have hsrc:Src Tryz.prog i0.size 32 (UD (UI ⟨wb.heap.size,0,UJ⟩) 1 1) 1 [UE UO s,UE UO nw] w:=
   Src.ofSlice w Tryz.underlying32 ⟨wb.heap.size,0,UJ⟩ 1 1 _ (by rw[hz1];rfl) hnews (by simp[Value.oneCell'])
  have hTl:T.length=n*2:=hl;by_cases hr:n+1<=c
  ·have hcell:∀ j,w.cell? ⟨t,j,UJ⟩=cs[j]?:=λj=>Bg w t j cs _ _ hcs
   have h1:=run_append_room_src (P:=Tryz.prog) w 32 32 ty 133 i0 Tryz.underlying32 hi t o n c _ 1 [UE UO s,UE UO nw] hsrc hr
    (λj hj=>by have hj':j<2:=hj;rw[hcell,hz1,CN AK];rfl) (λj _=>Ag w t _ cs _ hcs)
   have e1:w.setCells t (o+n*i0.size) [UE UO s,UE UO nw]=(w.setCell ⟨t,o+n*2,UJ⟩ (UE UO s)).setCell ⟨t,o+n*2+1,UJ⟩ (UE UO nw):=by rw[hz1];rfl
   rw[e1] at h1;have hc2:((w.setCell ⟨t,o+n*2,UJ⟩ (UE UO s)).setCell ⟨t,o+n*2+1,UJ⟩ (UE UO nw)).heap[t]?=UI (UP ((cs.setIfInBounds (o+n*2) (UE UO s)).setIfInBounds (o+n*2+1) (UE UO nw)) 133 (0,0)):=JZ (JZ hcs _) _;have hsz2:((w.setCell ⟨t,o+n*2,UJ⟩ (UE UO s)).setCell ⟨t,o+n*2+1,UJ⟩ (UE UO nw)).heap.size=w.heap.size:=by simp[World.setCell]
   refine⟨_,_,h1,⟨by rw[Al,hTl];simp;omega,.inr ⟨t,o,c,rfl,hB0,by rw[hsz2];exact ht,hr,hmx,λi hi'=>⟨?_,Ag _ t _ _ _ hc2⟩,_,hc2,by simpa using hsz⟩⟩,⟨rfl,rfl,rfl,by rw[hsz2];exact AY _,λk hk hne=>?_⟩,.inl rfl⟩
   ·rw[AA hc2 _];have hb:o+n*2+1<cs.size:=AK
    by_cases h1:i<n*2
    ·have hq:=(hx i h1).1;rw[hcell] at hq;rw[BB AK,BB AK,hq];simp[List.getD,List.getElem?_append_left (show i<T.length by omega)]
    ·by_cases h2:i=n*2
     ·subst h2;rw[BB AK,BZ AK];simp[List.getD,hTl]
     ·obtain rfl:i=n*2+1:=AK
      rw[<-Ap,BZ (by simp;omega)];simp[List.getD,hTl]
   ·have hkt:k≠t:=λe=>hne (by simp[Value.ownBlock,e])
    rw[Ah _ _ _ _ (by show k≠t;exact hkt),Ah _ _ _ _ (by show k≠t;exact hkt)]
  ·obtain rfl:c=n:=AK
   have hcell:∀ j,w.cell? ⟨t,j,UJ⟩=cs[j]?:=λj=>Bg w t j cs _ _ hcs
   have hold:=run_firstCells_some (P:=Tryz.prog) w.drew i0.size c ⟨t,o,UJ⟩ c c (T.map (Value.int UO)) (by rw[hz1];simpa using hTl) (λj u hu=>by
    have hj:j<T.length:=by have:=(Af.1 hu).1;simpa using this
    rw[Ay];have:=(hx j AK).1;rw[show w.drew.cell? ⟨t,o+j,UJ⟩=w.cell? ⟨t,o+j,UJ⟩ from rfl,this];simp[hj] at hu |-;exact hu)
   have hcap:=nextslicecap_le (need:=c+1) (old:=c) AK;have h1:=run_append_grow_src (P:=Tryz.prog) w 32 32 ty 133 i0 (UN #[UE UO 0,UE UO 0]) Tryz.underlying32 hi hz0 (UI ⟨t,o,UJ⟩) c c (T.map (Value.int UO)) hold _ 1 [UE UO s,UE UO nw] hsrc AK AK (by rw[hz2];omega);have hlen:(T.map (Value.int UO)++[UE UO s,UE UO nw]).length=(c+1)*2:=by rw[Al,BI,hTl];simp;omega
   have hge:=grownCap_ge w (c+1) c 133;have hle:=grownCap_le_maxLen w (c+1) c 133 (by unfold maxLen;omega);refine⟨_,_,h1,DN.tapV (T:=T++[s,nw]) ⟨by simp[hTl];omega,.inr ⟨_,_,_,rfl,hB,AV w.drew _,hge,hle,?_,?_⟩⟩,⟨rfl,rfl,rfl,AM,λk hk _=>heap_alloc_old w.drew _ hk⟩,.inr rfl⟩
   ·rw[Array.size_append,size_zeroCells,BX,hlen,show(UN #[UE UO 0,UE UO 0]).cells.size=2 from rfl];omega
   ·rw[Array.toList_append,BY,List.take_append_of_le_length (by rw[hlen];exact AY _),An (by rw[hlen];exact AY _)];rfl
theorem J1 (w:UK) {ops:Array Oper} {rest:List Oper} {o:Oper} {a:Act} {Q:Exit->Act->UK->Prop} (hg:o.guard=UJ) (sx x:Operand)
  (hop:o.op=Op.call { callee:=Callee.builtin Builtin.append,args:=#[sx,x],argTypes:=#[32,32] }) (B:Nat) (v:UL) (T:List Int) (n:Nat) (hs:a.eval sx=v) (hown:Ds B w v T n)
  (wb:UK) (s nw:Int) (hw:w=wb.alloc (UP #[UE UO s,UE UO nw] 133)) (hx:a.eval x=UD (UI ⟨wb.heap.size,0,UJ⟩) 1 1) (hm:n<=1048576) (hB:B<=w.heap.size)
  (hK:∀ v' w',Ds B w' v' (T++[s,nw]) (n+1)->v'.oneCell'=true->Below B w w'->w.grownBy w' v.ownBlock->(v'.ownBlock=v.ownBlock\/v'.ownBlock=UI w.heap.size)->wpList Tryz.prog ops Q rest (a.put o.dst v') w') :
  wpList Tryz.prog ops Q (o::rest) a w:=by
 obtain⟨v',w',hr,h1,h2,h5⟩:=Oo w o.type B v T n hown wb s nw hw hm hB;obtain⟨a',c',e'⟩:=h1.slice;have hk:=hK v' w' h1 (by rw[e'];rfl) (Cs.grown h2 hB hown.ownBlock) h2 h5;refine wpList_plain hg λK hK'=>?_
 unfold Oper.wp execOp;simp only[hop,resolve,invoke,builtin,Sem.run_bind,Sem.run_pure,Result.andThen_ok,List.map_toArray,List.map_cons,List.map_nil,hs,hx,hr];exact hK' _ _ hk
theorem NM (s:Nat) (nw:Int) (hs:s<256) (hb:Bk w g d u k v) (hd:DV d D) (hu:DV u U) (hv:Ds B w v T n) (hn:n<=1048576) (hH:H<=g) (hHB:H<=B) (hgB:Iy g v) (hBw:B<=w.heap.size) :
  Calls Tryz.prog 158 #[UM (UI ⟨g,0,UJ⟩),UE UO s,UE UO nw] w λe w'=>e=UQ (.tuple #[])/\Below H w w'/\∃ u' v',Bk w' g d u' k v'/\DV u' (λx=>U x\/x=s)/\Ds B w' v' (T++[(s:Int),nw]) (n+1)/\Iy g v':=by
 have HB:AP (Bk w g d u k v):=hb;have HN:∀ q,AP (Bk ((w.setCell ⟨g,32+s/8,UJ⟩ (UE UH ((EC u s).getD (s/8) 0))).drewN q) g d (EC u s) k v/\Ds B ((w.setCell ⟨g,32+s/8,UJ⟩ (UE UH ((EC u s).getD (s/8) 0))).drewN q) v T n/\Below H w ((w.setCell ⟨g,32+s/8,UJ⟩ (UE UH ((EC u s).getD (s/8) 0))).drewN q)/\B<=((w.setCell ⟨g,32+s/8,UJ⟩ (UE UH ((EC u s).getD (s/8) 0))).drewN q).heap.size):=λq=>by
  have hw:Wr g w ((w.setCell ⟨g,32+s/8,UJ⟩ (UE UH ((EC u s).getD (s/8) 0))).drewN q):=((Wr.refl _ _).setCell _ _).drewN _;exact⟨(hb.addU s hs).drew q,hv.wr hw hgB,hw.below hH,by rw[hw.size];exact hBw⟩
 have HU:AP (DV (EC u s) (λx=>U x\/x=s)):=hu.add s hs;clear hb hd hu hv hBw;go_enter Tryz.func158,Tryz.ntmps158;go_wp2_with fail;refine(Iq g 32 s u _ hs HB.o.batu).mono ?_;rintro e w4 ⟨rfl,q,rfl⟩;have H2:=HN q;clear HN HB;generalize (w.setCell ⟨g,32+s/8,UJ⟩ (UE UH ((EC u s).getD (s/8) 0))).drewN q=w4 at *;have c1:=H2.o.1.cv;have HA:AP (Ds B (w4.alloc (UP #[UE UO (s:Int),UE UO nw] 133)) v T n):=H2.o.2.1.alloc _;have HBW:AP (B<=(w4.alloc (UP #[UE UO (s:Int),UE UO nw] 133)).heap.size):=by
  show _<=_
  have:=H2.o.2.2.2;simp;omega
 go_wp2_with (first
  |(refine J1 _ rfl (.tmp 15) (.tmp 19) rfl B v T n rfl HA.o w4 s nw rfl rfl hn HBW.o ?_)
  |fail)
 intro v' w5 h1 ho h2 hgr how;obtain⟨a',c',rfl⟩:=h1.slice;have hg4:=H2.o.1.lt;have hb4:Bk (w4.alloc (UP #[UE UO (s:Int),UE UO nw] 133)) g d (EC u s) k v:=H2.o.1.below (Cs.alloc Cw _) hg4;have hb5:Bk w5 g d (EC u s) k v:=⟨by rw[hgr.block g hb4.lt (λe=>hgB g e.symm rfl)];exact hb4.row,hb4.ld,hb4.lu,hb4.bd,hb4.bu⟩
 have hne5:Iy g (UD a' (n+1:Nat) c'):=λx hx=>by
  rcases how with e|e
  ·exact hgB x (e ▸ hx)
  ·rw[e] at hx;have hx':=CT hx;have:=Bl w4 (UP #[UE UO (s:Int),UE UO nw] 133);omega
 have f1:=hb5.fz 65;have c5:=hb5.cv;have HF:AP (Below H w (w5.setCell ⟨g,65,UJ⟩ (UD a' (n+1:Nat) c'))/\∃ u' v'',Bk (w5.setCell ⟨g,65,UJ⟩ (UD a' (n+1:Nat) c')) g d u' k v''/\DV u' (λx=>U x\/x=s)/\Ds B (w5.setCell ⟨g,65,UJ⟩ (UD a' (n+1:Nat) c')) v'' (T++[(s:Int),nw]) (n+1)/\Iy g v''):=by
  have hw:Wr g w5 (w5.setCell ⟨g,65,UJ⟩ (UD a' (n+1:Nat) c')):=(Wr.refl _ _).setCell _ _;refine⟨?_,EC u s,_,hb5.setV _,HU.o,h1.wr hw hne5,hne5⟩;have b1:Below H w4 (w4.alloc (UP #[UE UO (s:Int),UE UO nw] 133)):=Cs.alloc (AG H2.o.1.lt) _;exact((H2.o.2.2.1.trans b1).trans (h2.mono AK)).trans (hw.below hH)
 clear h1 h2 hb4 hb5 hne5 hgr how HA HBW H2 HU c1;go_wp2
 go_end0
 exact⟨rfl,HF.o⟩
end Go.Proofs.YthmeoilbmfdhfaaGreat
namespace Go.Proofs.YthmeoilbmfdhfaaGreat
open Go.ChangeShapes Go.WideShapes Go.ChangeAt Go.RowKit
set_option linter.unusedVariables false
variable {w w':UK} {g:Nat} {d u:List Int} {k:Int} {v:UL} {D U:Nat->Prop} {T:List Int} {n H B:Nat}
theorem Lv (s:Nat) (nw:Int) (hs:s<256) (hnu:¬ U s) (hnd:¬ D s) (hb:Bk w g d u k v) (hd:DV d D) (hu:DV u U) (hv:Ds B w v T n) (hn:n<=1048576) (hH:H<=g) (hHB:H<=B) (hgB:Iy g v) (hBw:B<=w.heap.size) :
  Calls Tryz.prog 140 #[UM (UI ⟨g,0,UJ⟩),UE UO s,UE UO nw] w (Ks H B g w true D (λx=>U x\/x=s) k (T++[(s:Int),nw]) (n+1)):=by
 have HSO:AP (FG (s:Int)=true):=Ig hs;have HB:AP (Bk w g d u k v):=hb;have HSD:AP (DV d D):=hd;have HSU:AP (DV u U):=hu;have HNU:AP (¬ (s<256/\U s)):=λh=>hnu h.2
 have HND:AP (¬ (s<256/\D s)):=λh=>hnd h.2
 have CA:=NM s nw hs hb hd hu hv hn hH hHB hgB hBw;clear hb hd hu hv hnu hnd hBw;go_enter Tryz.func140,Tryz.ntmps140;go_wp2_with fail;refine(Da _ _).mono ?_;rintro e w1 ⟨rfl,rfl⟩;rw[HSO.o];go_wp2_with fail;refine(FR s HB.o.batu HSU.o HNU.o).mono ?_;rintro e w2 ⟨rfl,rfl⟩;go_wp2_with fail;refine(FR s HB.o.batd HSD.o HND.o).mono ?_;rintro e w3 ⟨rfl,rfl⟩;go_wp2_with fail;refine CA.mono ?_;rintro e w4 ⟨rfl,hb4,u',v',r1,r2,r3,r4⟩;have HF:AP (Ks H B g w3 true D (λx=>U x\/x=s) k (T++[(s:Int),nw]) (n+1) (UQ (UF true)) w4):=⟨rfl,hb4,λ_=>⟨_,_,_,r1,HSD.o,r2,r3,r4⟩⟩
 clear hb4 r1 r2 r3 CA HB HSD HSU HNU HND HSO;go_wp2
 go_ret
 exact HF.o
theorem NN (s:Nat) (nw:Int) (hno:¬ (s<256/\¬ U s/\¬ D s)) (hb:Bk w g d u k v) (hd:DV d D) (hu:DV u U) :
  Calls Tryz.prog 140 #[UM (UI ⟨g,0,UJ⟩),UE UO s,UE UO nw] w λe w'=>e=UQ (UF false)/\w'=w:=by
 have HB:AP (Bk w g d u k v):=hb;have HSD:AP (DV d D):=hd;have HSU:AP (DV u U):=hu;clear hb hd hu;by_cases hs:s<256
 ·have HSO:AP (FG (s:Int)=true):=Ig hs;by_cases hin:U s
  ·have HQ:AP (s<256/\U s):=⟨hs,hin⟩
   clear hno hin;go_enter Tryz.func140,Tryz.ntmps140;go_wp2_with fail;refine(Da _ _).mono ?_;rintro e w1 ⟨rfl,rfl⟩;rw[HSO.o];go_wp2_with fail;refine(GD s HB.o.batu HSU.o HQ.o).mono ?_;rintro e w2 ⟨rfl,rfl⟩;clear HB HSD HSU HQ HSO;go_wp2
   go_ret
   exact⟨rfl,rfl⟩
  ·have HQ:AP (¬ (s<256/\U s)):=λh=>hin h.2
   have HY:AP (s<256/\D s):=⟨hs,CO λh=>hno ⟨hs,hin,h⟩⟩
   clear hno hin;go_enter Tryz.func140,Tryz.ntmps140;go_wp2_with fail;refine(Da _ _).mono ?_;rintro e w1 ⟨rfl,rfl⟩;rw[HSO.o];go_wp2_with fail;refine(FR s HB.o.batu HSU.o HQ.o).mono ?_;rintro e w2 ⟨rfl,rfl⟩;go_wp2_with fail;refine(GD s HB.o.batd HSD.o HY.o).mono ?_;rintro e w3 ⟨rfl,rfl⟩;clear HB HSD HSU HQ HSO HY;go_wp2
   go_ret
   exact⟨rfl,rfl⟩
 ·have HSO:AP (FG (s:Int)=false):=On hs;clear hno hs;go_enter Tryz.func140,Tryz.ntmps140;go_wp2_with fail;refine(Da _ _).mono ?_;rintro e w1 ⟨rfl,rfl⟩;rw[HSO.o];clear HB HSD HSU HSO;go_wp2
  go_ret
  exact⟨rfl,rfl⟩
end Go.Proofs.YthmeoilbmfdhfaaGreat
namespace Go.Proofs.YthmeoilbmfdhfaaGreat
open Go.ChangeShapes Go.WideShapes Go.ChangeAt Go.RowKit
set_option linter.unusedVariables false
structure GN where
 ok:Bool
 D:List Int
 U:List Int
 k:Int
 T:List Int
 n:Nat
def EL:GN:=⟨false,[],[],0,[],0⟩
open Classical in
noncomputable def Dy (xs:List Int) (a:Nat):List Int:=Dg (λv=>decide ((v:Int)∈xs\/v=a)) 256
def EB (xs:List Int) (a:Nat):List Int:=xs.filter (λz=>z != (a:Int))
open Classical in
noncomputable def Ea (D U:List Int) (k:Int) (T:List Int) (n:Nat) (kind:Int) (a b:Nat):GN:=
 if kind=1 then(if a<256/\¬ (a:Int)∈U/\¬ (a:Int)∈D then ⟨true,D,Dy U a,k,T++[(a:Int),(b:Int)],n+1⟩ else EL)
 else if kind=2 then(if b=1/\a<256/\¬ (a:Int)∈D/\¬ D.length=16 then ⟨true,Dy D a,U,k,T,n⟩ else if b=0/\a<256/\(a:Int)∈D then ⟨true,EB D a,U,k,T,n⟩ else EL)
 else if kind=3 then(if b=0/\(a:Int)<=k+n then ⟨true,D,U,max a k,T.drop (Do k a*2),n-Do k a⟩ else EL)
 else EL
theorem Gq {xs:List Int} {a v:Nat} (h:v<256):((v:Int)∈xs\/v=a)↔(v:Int)∈Dy xs a:=by
 unfold Dy;rw[Hl];constructor
 ·intro hv;exact⟨v,h,BJ hv,rfl⟩
 ·rintro⟨v',h1,h2,h3⟩;have:v=v':=AK
  subst this;exact CK h2
theorem NO {xs:List Int} {a v:Nat}:((v:Int)∈xs/\v≠a)↔(v:Int)∈EB xs a:=by
 unfold EB;rw[Bp];constructor
 ·rintro⟨h1,h2⟩;exact⟨h1,by rw[bne_iff_ne];omega⟩
 ·rintro⟨h1,h2⟩;exact⟨h1,by rw[bne_iff_ne] at h2;omega⟩
def D7 (H B g:Nat) (w:UK) (r:GN):Ending->UK->Prop:=Ks H B g w r.ok (λv=>(v:Int)∈r.D) (λv=>(v:Int)∈r.U) r.k r.T r.n
theorem Ks.to {H B g:Nat} {w w1:UK} {D D' U U':Nat->Prop} {k:Int} {T:List Int} {n:Nat} {ok:Bool} {e:Ending} {w':UK} (h:Ks H B g w ok D U k T n e w') (hb:Below H w1 w) (hD:∀ v,v<256->(D v↔D' v)) (hU:∀ v,v<256->(U v↔U' v)):Ks H B g w1 ok D' U' k T n e w':=by
 obtain⟨h1,h2,h3⟩:=h;refine⟨h1,hb.trans h2,λho=>?_⟩;obtain⟨d,u,v,r1,r2,r3,r4,r5⟩:=h3 ho;exact⟨d,u,v,r1,r2.congr hD,r3.congr hU,r4,r5⟩
theorem NP (seq kind:Int) (a b:Nat) (ha:a<4294967296) (hbb:b<4294967296) {w:UK} {g H B n:Nat} {d u D U:List Int} {k:Int} {v:UL} {T:List Int} (hb:Bk w g d u k v) (hd:DV d (λx=>(x:Int)∈D)) (hu:DV u (λx=>(x:Int)∈U)) (hv:Ds B w v T n)
  (hSD:Dj D) (h0:0<=k) (h1:k<=1048576) (hn:n<=1048576) (hH:H<=g) (hHB:H<=B) (hgB:Iy g v) (hBw:B<=w.heap.size) :
  Calls Tryz.prog 86 #[UM (UI ⟨g,0,UJ⟩),UN #[UE UG seq,UE UO kind,UE UG a,UE UG b]] w (D7 H B g w (Ea D U k T n kind a b)):=by
 have hgl:=hb.lt;have bw:Below w.heap.size w (w.alloc (UP #[UE UG seq,UE UO kind,UE UG a,UE UG b] 112)):=Cs.alloc Cw _;have HB:AP (Bk (w.alloc (UP #[UE UG seq,UE UO kind,UE UG a,UE UG b] 112)) g d u k v):=hb.below bw hgl;have HV:AP (Ds B (w.alloc (UP #[UE UG seq,UE UO kind,UE UG a,UE UG b] 112)) v T n):=hv.alloc _;have HW:AP (Below H w (w.alloc (UP #[UE UG seq,UE UO kind,UE UG a,UE UG b] 112))):=bw.mono AK;have HZ:AP (B<=(w.alloc (UP #[UE UG seq,UE UO kind,UE UG a,UE UG b] 112)).heap.size):=by
  show _<=_
  simp;omega
 have HSD:AP (DV d (λx=>(x:Int)∈D)):=hd;have HSU:AP (DV u (λx=>(x:Int)∈U)):=hu;have HPL:AP (FK d 32=D.length):=QR hd hSD;have HSER:AP (Dj D):=hSD;clear hb hd hu hv hSD bw hBw;by_cases k1:kind=1
 ·subst k1;by_cases hc:a<256/\¬ (a:Int)∈U/\¬ (a:Int)∈D
  ·have HR:AP (Ea D U k T n 1 a b=⟨true,D,Dy U a,k,T++[(a:Int),(b:Int)],n+1⟩):=by show _=_;unfold Ea;rw[AR rfl,AR hc]
   go_enter Tryz.func86,Tryz.ntmps86;go_wp2_with fail;refine(Lv (H:=H) (B:=B) (T:=T) (n:=n) a b hc.1 hc.2.1 hc.2.2 HB.o HSD.o HSU.o HV.o hn hH hHB hgB HZ.o).mono ?_;intro e w2 h;have HF:AP (D7 H B g w (Ea D U k T n 1 a b) e w2):=by
    show D7 _ _ _ _ _ _ _
    rw[HR.o];exact Ks.to h HW.o (λv _=>Iff.rfl) (λv hv=>Gq hv)
   obtain⟨rfl,h⟩:=h;clear h HB HV HW HZ HSD HSU HPL HSER HR;go_wp2
   go_ret
   exact HF.o
  ·have HR:AP (Ea D U k T n 1 a b=EL):=by show _=_;unfold Ea;rw[AR rfl,AS hc]
   go_enter Tryz.func86,Tryz.ntmps86;go_wp2_with fail;refine(NN a b hc HB.o HSD.o HSU.o).mono ?_;intro e w2 h;have HF:AP (D7 H B g w (Ea D U k T n 1 a b) e w2):=by
    show D7 _ _ _ _ _ _ _
    rw[HR.o];exact⟨h.1,(show w2=_ from h.2) ▸ HW.o,λh'=>by cases h'⟩
   obtain⟨rfl,h⟩:=h;clear h HB HV HW HZ HSD HSU HPL HSER HR;go_wp2
   go_ret
   exact HF.o
 by_cases k2:kind=2
 ·subst k2;clear k1;by_cases hc:b=1/\a<256/\¬ (a:Int)∈D/\¬ D.length=16
  ·have HR:AP (Ea D U k T n 2 a b=⟨true,Dy D a,U,k,T,n⟩):=by show _=_;unfold Ea;rw[AS AL,AR rfl,AR hc]
   have HC:AP (a<256/\¬ (a:Int)∈D/\¬ FK d 32=16):=⟨hc.2.1,hc.2.2.1,by rw[HPL.o];exact hc.2.2.2⟩
   obtain⟨rfl,_⟩:=hc;go_enter Tryz.func86,Tryz.ntmps86;go_wp2_with fail;refine(Kt (H:=H) (B:=B) (T:=T) (n:=n) a HC.o.1 HC.o.2.1 HC.o.2.2 HB.o HSD.o HSU.o HV.o hH hgB).mono ?_;intro e w2 h;have HF:AP (D7 H B g w (Ea D U k T n 2 a 1) e w2):=by
    show D7 _ _ _ _ _ _ _
    rw[HR.o];exact Ks.to h HW.o (λv hv=>Gq hv) (λv _=>Iff.rfl)
   obtain⟨rfl,h⟩:=h;clear h HB HV HW HZ HSD HSU HPL HSER HR;go_wp2
   go_ret
   exact HF.o
  by_cases hc0:b=0/\a<256/\(a:Int)∈D
  ·have HR:AP (Ea D U k T n 2 a b=⟨true,EB D a,U,k,T,n⟩):=by show _=_;unfold Ea;rw[AS AL,AR rfl,AS hc,AR hc0]
   have HC:AP (a<256/\(a:Int)∈D):=hc0.2;clear hc;obtain⟨rfl,_⟩:=hc0;go_enter Tryz.func86,Tryz.ntmps86;go_wp2_with fail;refine(Ku (H:=H) (B:=B) (T:=T) (n:=n) a HC.o.1 HC.o.2 HB.o HSD.o HSU.o HV.o hH hgB).mono ?_;intro e w2 h;have HF:AP (D7 H B g w (Ea D U k T n 2 a 0) e w2):=by
    show D7 _ _ _ _ _ _ _
    rw[HR.o];exact Ks.to h HW.o (λv hv=>NO) (λv _=>Iff.rfl)
   obtain⟨rfl,h⟩:=h;clear h HB HV HW HZ HSD HSU HPL HSER HR;go_wp2
   go_ret
   exact HF.o
  ·have HR:AP (Ea D U k T n 2 a b=EL):=by show _=_;unfold Ea;rw[AS AL,AR rfl,AS hc,AS hc0]
   rw[<-HPL.o] at hc;have HC:AP (¬ (b=1/\a<256/\¬ (a:Int)∈D/\¬ FK d 32=16)):=hc;have HC0:AP (¬ (b=0/\a<256/\(a:Int)∈D)):=hc0;clear hc hc0;go_enter Tryz.func86,Tryz.ntmps86;go_wp2_with fail;refine(Lu a b HC.o HC0.o hbb HB.o HSD.o).mono ?_;intro e w2 h;have HF:AP (D7 H B g w (Ea D U k T n 2 a b) e w2):=by
    show D7 _ _ _ _ _ _ _
    rw[HR.o];exact⟨h.1,(show w2=_ from h.2) ▸ HW.o,λh'=>by cases h'⟩
   obtain⟨rfl,h⟩:=h;clear h HB HV HW HZ HSD HSU HPL HSER HR;go_wp2
   go_ret
   exact HF.o
 by_cases k3:kind=3
 ·subst k3;clear k1 k2;by_cases hb0:b=0
  ·subst hb0;by_cases hc:(a:Int)<=k+n
   ·have HR:AP (Ea D U k T n 3 a 0=⟨true,D,U,max a k,T.drop (Do k a*2),n-Do k a⟩):=by show _=_;unfold Ea;rw[AS AL,AS AL,AR rfl,AR ⟨rfl,hc⟩]
    have HD:AP (decide ((a:Int)<=k+n)=true):=BJ hc;clear hc;go_enter Tryz.func86,Tryz.ntmps86;go_wp2_with fail;refine(Hq (H:=H) (B:=B) (T:=T) (n:=n) a AK AK HB.o HSD.o HSU.o HV.o h0 h1 hn hH hgB).mono ?_;intro e w2 h;have HF:AP (D7 H B g w (Ea D U k T n 3 a 0) e w2):=by
     show D7 _ _ _ _ _ _ _
     rw[HR.o];exact Ks.to (by rw[HD.o] at h;exact h) HW.o (λv _=>Iff.rfl) (λv _=>Iff.rfl)
    rw[HD.o] at h;obtain⟨rfl,h⟩:=h;clear h HB HV HW HZ HSD HSU HPL HSER HR;go_wp2
    go_ret
    exact HF.o
   ·have HR:AP (Ea D U k T n 3 a 0=EL):=by show _=_;unfold Ea;rw[AS AL,AS AL,AR rfl,AS (λh=>hc h.2)]
    have HD:AP (decide ((a:Int)<=k+n)=false):=Ar hc;clear hc;go_enter Tryz.func86,Tryz.ntmps86;go_wp2_with fail;refine(Hq (H:=H) (B:=B) (T:=T) (n:=n) a AK AK HB.o HSD.o HSU.o HV.o h0 h1 hn hH hgB).mono ?_;intro e w2 h;have HF:AP (D7 H B g w (Ea D U k T n 3 a 0) e w2):=by
     show D7 _ _ _ _ _ _ _
     rw[HR.o];exact(by rw[HD.o] at h;exact⟨h.1,HW.o.trans h.2.1,λh'=>by cases h'⟩)
    rw[HD.o] at h;obtain⟨rfl,h⟩:=h;clear h HB HV HW HZ HSD HSU HPL HSER HR;go_wp2
    go_ret
    exact HF.o
  ·have hb0':¬ ((b:Int)=0):=AK
   have HF:AP (D7 H B g w (Ea D U k T n 3 a b) (UQ (UF false)) (w.alloc (UP #[UE UG seq,UE UO 3,UE UG a,UE UG b] 112))):=by
    show D7 _ _ _ _ _ _ _
    have:Ea D U k T n 3 a b=EL:=by unfold Ea;rw[AS AL,AS AL,AR rfl,AS (λh=>hb0 h.1)]
    rw[this];exact⟨rfl,HW.o,λh'=>by cases h'⟩
   clear HB HV HW HZ HSD HSU HPL HSER;go_enter Tryz.func86,Tryz.ntmps86;go_wp2
   go_ret
   exact HF.o
 ·have HF:AP (D7 H B g w (Ea D U k T n kind a b) (UQ (UF false)) (w.alloc (UP #[UE UG seq,UE UO kind,UE UG a,UE UG b] 112))):=by
   show D7 _ _ _ _ _ _ _
   have:Ea D U k T n kind a b=EL:=by unfold Ea;rw[AS k1,AS k2,AS k3]
   rw[this];exact⟨rfl,HW.o,λh'=>by cases h'⟩
  clear HB HV HW HZ HSD HSU HPL HSER;go_enter Tryz.func86,Tryz.ntmps86;go_wp2
  go_ret
  exact HF.o
def Sf (bs:List Bool) (t u:Int) (i:Nat):Nat:=if(i:Int)=t then(min (max u 0) 64).toNat else if bs.getD i false then 64 else 0
theorem SA (bs:List Bool) (t u:Int) (i:Nat):Sf bs t u i<=64:=by unfold Sf;split;· omega
                                                                split<;>omega
theorem Oq {bs:List Bool} {t u:Int} {i:Nat} (h:¬ (i:Int)=t) (h':bs.getD i false=true):Sf bs t u i=64:=by unfold Sf;rw[AS h,AR h']
def Tj (zs:List Int) (ps:List PD) (bs:List Bool) (t u:Int):Nat->List Int
 |0=>zs
 |k+1=>Dc (Tj zs ps bs t u k) (ps.getD k (0,[])).1.toNat ((ps.getD k (0,[])).2.take (Sf bs t u k))
def Ia (L:Nat) (ps:List PD):Prop:=∀ i,i<ps.length->OA (L/64) (ps.getD i (0,[]))
theorem FS {L:Nat} {ps:List PD} {f:Int} (h:C5 L ps f=true):EA L ps.length f/\Ia L ps:=by
 constructor
 ·by_cases hv:EA L ps.length f
  ·exact hv
  ·rw[IL hv] at h;cases h
 ·intro i hi;by_cases hp:OA (L/64) (ps.getD i (0,[]))
  ·exact hp
  ·rw[F8 hi hp] at h;cases h
theorem Ia.at_ {L:Nat} {ps:List PD} (h:Ia L ps) (hL:L%64=0) {i:Nat} (hi:i<ps.length) :
  ∃ s:Nat,(ps.getD i (0,[])).1=(s:Int)/\s*64+64<=L/\(ps.getD i (0,[])).2.length=64:=by
 obtain⟨h1,h2,h3⟩:=h i hi;refine⟨(ps.getD i (0,[])).1.toNat,AK,?_,h3⟩;omega
theorem Qi {zs:List Int} {ps:List PD} {bs:List Bool} {t u:Int} (h:Ia zs.length ps) (hL:zs.length%64=0):∀ k,k<=ps.length->(Tj zs ps bs t u k).length=zs.length:=by
 intro k
 induction k with
 |zero=>intro _;rfl
 |succ k ih=>
  intro hk;obtain⟨s,h1,h2,h3⟩:=h.at_ hL (i:=k) AK;have:=SA bs t u k;have ihk:=ih AK;show(Dc _ _ _).length=_
  rw[Eh,ihk];rw[ihk,h1];simp;omega
theorem DT.at_ {w:UK} {B:Nat} {v:UL} {zs:List Int} (h:DT w B v zs):∃ g c,v=UD (UI ⟨g,0,UJ⟩) zs.length c/\B<=g/\g<w.heap.size/\zs.length<=c/\At UH w (UI ⟨g,0,UJ⟩) zs/\Df w (UI ⟨g,0,UJ⟩) zs.length:=by
 obtain⟨g,c,rfl,hb,hg,hc⟩:=h.base;have hcell:∀ i,i<zs.length->w.cell? ⟨g,0+i,UJ⟩=UI (UE UH (zs.getD i 0)):=λi hi=>by
  rw[Ak,h.1.cellAt i AK];simp[hi]
 refine⟨g,c,rfl,hb,hg,hc,.inr ⟨g,0,rfl,hg,hcell⟩,.inr ⟨g,0,rfl,hg,λi hi=>⟨by rw[hcell i hi];rfl,?_⟩⟩⟩;rw[Ak];exact h.1.frozenAt i
end Go.Proofs.YthmeoilbmfdhfaaGreat
