import Derived.Test.YthmeoilbmfdhfaaGreatMCpA
open Go.Value renaming slice->UD,int->UE,pointer->UM,bool->UF,agg->UN
open Go.IntKind renaming i64->UO,u32->UG
open Option renaming some->UI,none->UJ
open Go renaming World->UK
namespace Go.Proofs.YthmeoilbmfdhfaaGreat
set_option maxHeartbeats 2000000
set_option maxRecDepth 100000
open Go.ChangeShapes Go.WideShapes Go.ChangeAt Go.RowKit
set_option linter.unusedVariables false
def kF (i:Nat):IntKind:=if i%4=1 then UO else UG
theorem Te (k:Nat):kF (k*4)=UG:=by unfold kF;rw[AS AK]
theorem Tf (k:Nat):kF (k*4+1)=UO:=by unfold kF;rw[AR AK]
theorem Tg (k:Nat):kF (k*4+2)=UG:=by unfold kF;rw[AS AK]
theorem Th (k:Nat):kF (k*4+3)=UG:=by unfold kF;rw[AS AK]
def FC (w:UK) (a:Option Addr) (F:List Int):Prop:=
 F=[]\/∃ b off,a=UI ⟨b,off,UJ⟩/\b<w.heap.size/\∀ i,i<F.length->w.cell? ⟨b,off+i,UJ⟩=UI (UE (kF i) (F.getD i 0))
theorem FC.get {w:UK} {a:Option Addr} {F:List Int} (h:FC w a F) (hz:0<F.length) :
  ∃ b off,a=UI ⟨b,off,UJ⟩/\b<w.heap.size/\∀ i,i<F.length->w.cell? ⟨b,off+i,UJ⟩=UI (UE (kF i) (F.getD i 0)):=by
 rcases h with h|h
 ·simp[h] at hz
 ·exact h
theorem FC.below {w w':UK} {a:Option Addr} {F:List Int} (h:FC w a F) (hb:Below w.heap.size w w'):FC w' a F:=by
 rcases h with h|⟨b,off,rfl,hl,hc⟩
 ·exact .inl h
 ·exact .inr ⟨b,off,rfl,AG hb.size,λi hi=>by rw[hb.cell (p:=⟨b,off+i,UJ⟩) hl];exact hc i hi⟩
theorem FC.four {w:UK} {b o:Nat} {F:List Int} (hc:∀ i,i<F.length->w.cell? ⟨b,o+i,UJ⟩=UI (UE (kF i) (F.getD i 0))) (k:Nat) (hk:k*4+3<F.length) :
  w.cell? ⟨b,o+k*4,UJ⟩=UI (UE UG (F.getD (k*4) 0))/\w.cell? ⟨b,o+k*4+1,UJ⟩=UI (UE UO (F.getD (k*4+1) 0))/\w.cell? ⟨b,o+k*4+2,UJ⟩=UI (UE UG (F.getD (k*4+2) 0))/\w.cell? ⟨b,o+k*4+3,UJ⟩=UI (UE UG (F.getD (k*4+3) 0)):=by
 have h0:=hc (k*4) AK;have h1:=hc (k*4+1) AK;have h2:=hc (k*4+2) AK;have h3:=hc (k*4+3) AK;rw[Te] at h0;rw[Tf,<-Ap] at h1;rw[Tg,<-Ap] at h2;rw[Th,<-Ap] at h3;exact⟨h0,h1,h2,h3⟩
def fC (F:List Int):Array Value:=((List.range F.length).map (λi=>UE (kF i) (F.getD i 0))).toArray
theorem Tryz.infoFr:(Tryz.prog.info? 112).map (λi=>(i.zero,i.size,i.bytes))=UI (UI (UN Co),4,24):=AN
theorem Oa (s m x y:Int) (w:UK):Calls Tryz.prog 89 #[UN #[UE UG s,UE UO m,UE UG x,UE UG y],UN #[UE UG s,UE UO m,UE UG x,UE UG y]] w λe w'=>e=.returned (UF true)/\Below w.heap.size w w':=by
 have HB:AP (Below w.heap.size w ((w.alloc (.cells #[UE UG s,UE UO m,UE UG x,UE UG y] 112)).alloc (.cells #[UE UG s,UE UO m,UE UG x,UE UG y] 112))):=(Cs.alloc Cw _).alloc AM _;go_enter Tryz.func89,Tryz.ntmps89;go_wp2
 go_ret
 exact⟨rfl,HB.o⟩
theorem Ob (a a':Option Addr) (n c c':Nat) (F:List Int) (w:UK) (hl:F.length=n*4) (hn:n<=1048576) (ha:FC w a F) (ha':FC w a' F) :
  Calls Tryz.prog 42 #[UD a n c,UD a' n c'] w λe w'=>e=.returned (UF true)/\Below w.heap.size w w':=by
 have h0:((n:Int) != (n:Int))=false:=AM
 have HLT:AP (F.length=n*4):=hl;have HA:AP (FC w a F):=ha;have HA':AP (FC w a' F):=ha';clear hl ha ha';go_enter Tryz.func42,Tryz.ntmps42;go_wp2
 go_loopw [5] (λi wr=>∃ k:Nat,k<=n/\i=UE UO k/\Below w.heap.size w wr) (λi _=>n-(intOf i).toNat)
 case atStart=>exact⟨0,Aj _,rfl,Ad _ _⟩
 case round=>
  obtain⟨k,hk,rfl,hbel⟩:=hrel;have HB:AP (Below w.heap.size w wr):=hbel;by_cases hlt:k<n
  ·have hlt':(k:Int)<n:=AK
   obtain⟨b,o,ea,hb,hc⟩:=(HA.o.below hbel).get (AG HLT.o);obtain⟨b',o',ea',hb',hc'⟩:=(HA'.o.below hbel).get (AG HLT.o);obtain⟨t0,t1,t2,t3⟩:=FC.four hc k (AG HLT.o);obtain⟨u0,u1,u2,u3⟩:=FC.four hc' k (AG HLT.o);subst ea ea';clear hc hc' hbel;generalize F.getD (k*4) 0=s at *;generalize F.getD (k*4+1) 0=m at *;generalize F.getD (k*4+2) 0=x at *;generalize F.getD (k*4+3) 0=y at *;have HC1:AP (b<wr.heap.size/\wr.cell? ⟨b,o+k*4,UJ⟩=UI (UE UG s)/\wr.cell? ⟨b,o+k*4+1,UJ⟩=UI (UE UO m)/\wr.cell? ⟨b,o+k*4+2,UJ⟩=UI (UE UG x)/\wr.cell? ⟨b,o+k*4+3,UJ⟩=UI (UE UG y)):=⟨hb,t0,t1,t2,t3⟩
   have HC2:AP (b'<wr.heap.size/\wr.cell? ⟨b',o'+k*4,UJ⟩=UI (UE UG s)/\wr.cell? ⟨b',o'+k*4+1,UJ⟩=UI (UE UO m)/\wr.cell? ⟨b',o'+k*4+2,UJ⟩=UI (UE UG x)/\wr.cell? ⟨b',o'+k*4+3,UJ⟩=UI (UE UG y)):=⟨hb',u0,u1,u2,u3⟩
   clear hb hb' t0 t1 t2 t3 u0 u1 u2 u3;go_wp2_with fail;refine Ae AN ?_;refine C3 (λ_ a b=>Below a.heap.size a b) (frame:=(λ(a b c d e f g h i j k l m n o p q:Value)=>λ(t:Nat->Value)=>({ tmps:=List.toArray [a,b,c,d,e,f,g,h,i,j,k,l,m,n,o,p,q,t 0,t 1,t 2,t 3,t 4,t 5,t 6,t 7,t 8,t 9],defers:=[] }:Act)) _ _ _ _ _ _ _ _ _ _ _ _ _ _ _ _ _)
    (Ext:=λL u w'=>IV wr [] L u w') (Good:=λi L w' v=>if i=0 then v=UD (UI ⟨b,o,UJ⟩) n c else if i=1 then v=UE UO k else if i=2 then v=UM (UI ⟨b,o+k*4,UJ⟩) else if i=3 then v=UN #[UE UG s,UE UO m,UE UG x,UE UG y] else if i=4 then v=UD (UI ⟨b',o',UJ⟩) n c' else if i=5 then v=UE UO k else if i=6 then v=UM (UI ⟨b',o'+k*4,UJ⟩) else if i=7 then v=UN #[UE UG s,UE UO m,UE UG x,UE UG y] else if i=8 then v=UF true else if i=9 then v=UF false else True) ?hstab AN ?hop ?hdone _ _ ((λ(x0 x1 x2 x3 x4 x5 x6 x7 x8 x9:Value)=>λ(i:Nat)=>if i=0 then x0 else if i=1 then x1 else if i=2 then x2 else if i=3 then x3 else if i=4 then x4 else if i=5 then x5 else if i=6 then x6 else if i=7 then x7 else if i=8 then x8 else if i=9 then x9 else undef) _ _ _ _ _ _ _ _ _ _) _ AM ?ext ?start AM
   case start=>intro i hi h;exact absurd h E0
   case ext=>exact(IV.start wr [] _ _ (λ_=>FJ)).drew
   case hstab=>
    intro j L w9 w' i v hM _ _ h;exact h
   case hop=>
    intro i o L t w' ho hLi hx hdep K hK;have hi:i<10:=(AQ.1 ho).1;obtain rfl|rfl|rfl|rfl|rfl|rfl|rfl|rfl|rfl|rfl:i=0\/i=1\/i=2\/i=3\/i=4\/i=5\/i=6\/i=7\/i=8\/i=9:=AK
    all_goals(simp at ho;subst ho)
    ·clear hdep;have hK':=hK w' (UD (UI ⟨b,o,UJ⟩) n c) AM (hx.step 0 _ Cs C7) Cs;clear hK;rw[AR AO];go_simp;simpa[Cr] using hK'
    ·clear hdep;have hK':=hK w' (UE UO k) AM (hx.step 1 _ Cs C7) Cs;clear hK;rw[AR AO];go_simp;simpa[Cr] using hK'
    ·have d0:t 0=UD (UI ⟨b,o,UJ⟩) n c:=by simpa using(hdep ⟨0,.data⟩ AM rfl).2
     have d1:t 1=UE UO k:=by simpa using(hdep ⟨1,.data⟩ AM rfl).2
     clear hdep;have hK':=hK w' (UM (UI ⟨b,o+k*4,UJ⟩)) AM (hx.step 2 _ Cs C7) Cs;clear hK;rw[AR AO];go_simp;simpa[Cr,d0,d1] using hK'
    ·have d2:t 2=UM (UI ⟨b,o+k*4,UJ⟩):=by simpa using(hdep ⟨2,.data⟩ AM rfl).2
     clear hdep;have q0:w'.cell? ⟨b,o+k*4,UJ⟩=UI (UE UG s):=by rw[hx.below.cell (p:=⟨b,o+k*4,UJ⟩) HC1.o.1];exact HC1.o.2.1
     have q1:w'.cell? ⟨b,o+k*4+1,UJ⟩=UI (UE UO m):=by rw[hx.below.cell (p:=⟨b,o+k*4+1,UJ⟩) HC1.o.1];exact HC1.o.2.2.1
     have q2:w'.cell? ⟨b,o+k*4+2,UJ⟩=UI (UE UG x):=by rw[hx.below.cell (p:=⟨b,o+k*4+2,UJ⟩) HC1.o.1];exact HC1.o.2.2.2.1
     have q3:w'.cell? ⟨b,o+k*4+3,UJ⟩=UI (UE UG y):=by rw[hx.below.cell (p:=⟨b,o+k*4+3,UJ⟩) HC1.o.1];exact HC1.o.2.2.2.2
     have hK':=hK w' (UN #[UE UG s,UE UO m,UE UG x,UE UG y]) AM (hx.step 3 _ Cs C7) Cs;clear hK;rw[AR AO];go_simp;simpa[Cr,d2] using hK'
    ·clear hdep;have hK':=hK w' (UD (UI ⟨b',o',UJ⟩) n c') AM (hx.step 4 _ Cs C7) Cs;clear hK;rw[AR AO];go_simp;simpa[Cr] using hK'
    ·clear hdep;have hK':=hK w' (UE UO k) AM (hx.step 5 _ Cs C7) Cs;clear hK;rw[AR AO];go_simp;simpa[Cr] using hK'
    ·have d4:t 4=UD (UI ⟨b',o',UJ⟩) n c':=by simpa using(hdep ⟨4,.data⟩ AM rfl).2
     have d5:t 5=UE UO k:=by simpa using(hdep ⟨5,.data⟩ AM rfl).2
     clear hdep;have hK':=hK w' (UM (UI ⟨b',o'+k*4,UJ⟩)) AM (hx.step 6 _ Cs C7) Cs;clear hK;rw[AR AO];go_simp;simpa[Cr,d4,d5] using hK'
    ·have d6:t 6=UM (UI ⟨b',o'+k*4,UJ⟩):=by simpa using(hdep ⟨6,.data⟩ AM rfl).2
     clear hdep;have q0:w'.cell? ⟨b',o'+k*4,UJ⟩=UI (UE UG s):=by rw[hx.below.cell (p:=⟨b',o'+k*4,UJ⟩) HC2.o.1];exact HC2.o.2.1
     have q1:w'.cell? ⟨b',o'+k*4+1,UJ⟩=UI (UE UO m):=by rw[hx.below.cell (p:=⟨b',o'+k*4+1,UJ⟩) HC2.o.1];exact HC2.o.2.2.1
     have q2:w'.cell? ⟨b',o'+k*4+2,UJ⟩=UI (UE UG x):=by rw[hx.below.cell (p:=⟨b',o'+k*4+2,UJ⟩) HC2.o.1];exact HC2.o.2.2.2.1
     have q3:w'.cell? ⟨b',o'+k*4+3,UJ⟩=UI (UE UG y):=by rw[hx.below.cell (p:=⟨b',o'+k*4+3,UJ⟩) HC2.o.1];exact HC2.o.2.2.2.2
     have hK':=hK w' (UN #[UE UG s,UE UO m,UE UG x,UE UG y]) AM (hx.step 7 _ Cs C7) Cs;clear hK;rw[AR AO];go_simp;simpa[Cr,d6] using hK'
    ·have d3:t 3=UN #[UE UG s,UE UO m,UE UG x,UE UG y]:=by simpa using(hdep ⟨3,.data⟩ AM rfl).2
     have d7:t 7=UN #[UE UG s,UE UO m,UE UG x,UE UG y]:=by simpa using(hdep ⟨7,.data⟩ AM rfl).2
     clear hdep;have A:=Oa s m x y w';have hK':∀ ww,Below w'.heap.size w' ww->K _ ww:=λww hb=>hK ww (UF true) AM (hx.step 8 _ hb C7) hb
     clear hK;rw[AR AO];go_simp;try simp only[d3,d7]
     refine A.mono ?_;rintro e w9 ⟨rfl,hb9⟩;have hK2:=hK' w9 hb9;clear hK' A hb9;go_simp;simpa[Cr,d3,d7] using hK2
    ·have d8:t 8=UF true:=by simpa using(hdep ⟨8,.data⟩ AM rfl).2
     clear hdep;have hK':=hK w' (UF false) AM (hx.step 9 _ Cs C7) Cs;clear hK;rw[AR AO];go_simp;simpa[Cr,d8] using hK'
   case hdone=>
    intro L t w' hx hg;have d9:t 9=UF false:=by simpa using hg 9 AL
    clear hg;have HBW:AP (Below w.heap.size w w'):=HB.o.trans (hx.below.mono HB.o.size);simp only[d9];clear hx d9;go_wp2;go_roundw
    case rel=>exact⟨k+1,AK,by go_num,HBW.o⟩
    case measure=>simp[intOf];omega
  ·have hlt':¬ ((k:Int)<n):=AK
   clear hbel;go_wp2
   go_ret
   exact⟨rfl,HB.o⟩
def Ti (w:UK) (g C:Nat):Prop:=∃ cur:Array Value,w.heap[g]?=UI (.cells cur 5 (0,0))/\cur.size=C
theorem Kl (w:UK) {ops:Array Oper} {rest:List Oper} {o:Oper} {a:Act} {Q:Exit->Act->UK->Prop} (hg:o.guard=UJ) (s x:Operand)
  (hop:o.op=Op.call { callee:=Callee.builtin Builtin.append,args:=#[s,x],argTypes:=#[22,3] }) (hs:a.eval s=UD UJ 0 0) (n:Nat) (hx:a.eval x=UE UO n) (hn:0<n) (hb:n<=2097152)
  (hK:∀ C w',n<=C->C<=maxLen->Ti w' w.heap.size C->Below w.heap.size w w'->wpList Tryz.prog ops Q rest (a.put o.dst (UD (UI ⟨w.heap.size,0,UJ⟩) n C)) w') :
  wpList Tryz.prog ops Q (o::rest) a w:=by
 obtain⟨i0,hi,hz0,hz1,hz2⟩:=Be Tryz.infoU8';have hfit:Builtin.nextslicecap (0+n) 0*i0.bytes<=281474976710656:=by rw[Ak,nextslicecap_zero AK,hz2];omega
 have hr:=Go.Lib.run_append_grow_zeros (P:=Tryz.prog) w 22 3 o.type 5 i0 (UE .u8 0) UO UO Tryz.underlying22 Tryz.underlying3 hi hz0 UJ 0 0 [] AO n hn AK AK AK (by rw[hz2];omega) hfit;have hge:=grownCap_ge w (0+n) 0 5;have hle:=grownCap_le_maxLen w (0+n) 0 5 (by unfold maxLen;omega);rw[Ak] at hr hge hle;generalize grownCap w n 0 5=C at hr hge hle;refine wpList_plain hg λK hK'=>?_
 have hk:=hK' _ _ (hK C _ hge hle ⟨_,AV w.drew (.cells ((([]:List Value).toArray++Builtin.zeroCells (UE .u8 0).cells n)++Builtin.zeroCells (UE .u8 0).cells (C-n)) 5),by simp[Builtin.zeroCells,Value.cells];omega⟩ (Cs.drew.alloc Cw _));unfold Oper.wp execOp;simp only[hop,resolve,invoke,builtin,Sem.run_bind,Sem.run_pure,Result.andThen_ok,List.map_toArray,List.map_cons,List.map_nil,hs,hx,hr];exact hk
theorem Oc (n:Nat) (w:UK) (hn:0<n) (hb:n<=2097152) :
  Calls Tryz.prog 170 #[UD UJ 0 0,UE UO n] w λe w'=>∃ v,e=.returned v/\DT w' w.heap.size v []/\Below w.heap.size w w':=by
 have h0:¬ ((n:Int)<0):=AK
 have h1:(n:Int)>0:=AK
 go_enter Tryz.func170,Tryz.ntmps170;go_wp2_with (first
  |(refine Kl _ rfl (.tmp 20) (.tmp 21) rfl rfl n rfl hn hb ?_)
  |fail)
 intro C w1 hC hm hrow hb1;have HF:AP (DT w1 w.heap.size (UD (UI ⟨w.heap.size,0,UJ⟩) 0 C) []):=by
  obtain⟨cur,h1,h2⟩:=hrow;exact⟨⟨AM,.inr ⟨w.heap.size,C,cur,rfl,AY _,h1,AM,hm,by rw[h2,B8],AM⟩⟩,_,_,rfl⟩
 have HB:AP (Below w.heap.size w w1):=hb1;have hC':(0:Int)<=C:=AK
 have hm':C<=9223372036854775807:=by unfold maxLen at hm;omega
 clear hrow hb1 hm;go_wp2
 go_ret
 exact⟨_,rfl,HF.o,HB.o⟩
def Od (zss:List (List Int)) (k:Nat):Nat:=(zss.take k).flatten.length
theorem Oe (zss:List (List Int)) (k:Nat) (h:k<zss.length):Od zss (k+1)=Od zss k+(zss.getD k []).length:=by
 unfold Od;rw[IF zss k h,Al]
theorem Of (p m cap:Nat) (vs:List Value) (zss:List (List Int)) (w:UK) (hm:zss.length=m) (hp:p<w.heap.size) (hc:∀ i,i<m->w.cell? ⟨p,i,UJ⟩=UI (vs.getD i undef))
  (hz:∀ i,i<m->Cy w (vs.getD i undef) (zss.getD i [])) (ht:zss.flatten.length<=2097152) (h0:0<zss.flatten.length) (hm':m<=2097152) :
  Calls Tryz.prog 165 #[UD (UI ⟨p,0,UJ⟩) m cap] w λe w'=>∃ v,e=.returned v/\DT w' w.heap.size v zss.flatten/\Below w.heap.size w w':=by
 have HM:AP (zss.length=m):=hm;have HC:AP (∀ i,i<m->w.cell? ⟨p,i,UJ⟩=UI (vs.getD i undef)):=hc;have HZ:AP (∀ i,i<m->Cy w (vs.getD i undef) (zss.getD i [])):=hz;have HT:AP (zss.flatten.length<=2097152/\0<zss.flatten.length):=⟨ht,h0⟩
 have HTA:AP (Od zss m=zss.flatten.length):=by show _=_;unfold Od;rw[An AK]
 clear hc hz ht h0 hm;go_enter Tryz.func165,Tryz.ntmps165;go_wp2_with fail
 go_loop [3,11] (λq i=>∃ k:Nat,k<=m/\i=UE UO k/\q=UE UO (Od zss k)) (λ_ i=>m-(intOf i).toNat)
 case atStart=>exact⟨0,Aj _,rfl,rfl⟩
 case round=>
  obtain⟨k,hk,rfl,rfl⟩:=hrel;by_cases hlt:k<m
  ·have hlt':(k:Int)<m:=AK
   obtain⟨b,o,c,hv,hb,hcell⟩:=HZ.o k hlt;have hck:w.cell? ⟨p,k,UJ⟩=UI (UD (UI ⟨b,o,UJ⟩) (zss.getD k []).length c):=by rw[HC.o k hlt,hv]
   have HS:AP (Od zss (k+1)=Od zss k+(zss.getD k []).length):=Oe zss k (AG HM.o);have hle:Od zss (k+1)<=2097152:=BC (Jm zss (k+1)) HT.o.1;rw[HS.o] at hle;clear hcell hv hb;generalize (zss.getD k []).length=z at *;generalize Od zss k=y at *;have hn0:¬ ((y:Int)+z<0):=AK
   go_wp2
   go_round
   case rel=>exact⟨k+1,AK,by go_num,by rw[HS.o];go_num⟩
   case measure=>simp[intOf];omega
  ·have hke:k=m:=AK
   subst hke;obtain⟨N,hN⟩:∃ N,Od zss k=N:=⟨_,rfl⟩
   have CG:=Oc N w (by rw[<-hN,HTA.o];exact HT.o.2) (by rw[<-hN,HTA.o];exact HT.o.1);have hNb:N<=2097152:=by rw[<-hN,HTA.o];exact HT.o.1
   rw[hN];clear hN HTA;have hlt':¬ ((k:Int)<k):=AK
   go_wp2_with fail;refine CG.mono ?_;rintro e w1 ⟨v1,rfl,ho1,hb1⟩;have HO1:AP (DT w1 w.heap.size v1 []):=ho1;have HB1:AP (Below w.heap.size w w1):=hb1;clear ho1 hb1 hlt' CG;go_wp2_with fail
   go_loopw [6,27] (λv i wr=>∃(j:Nat) (l:Value),j<=k/\i=UE UO j/\l=v/\DT wr w.heap.size l (zss.take j).flatten/\Below w.heap.size w wr) (λ_ i _=>k-(intOf i).toNat)
   case atStart=>exact⟨0,_,Aj _,rfl,rfl,HO1.o,HB1.o⟩
   case round=>
    clear HO1 HB1;obtain⟨j,l,hj,rfl,rfl,hown,hbel⟩:=hrel;by_cases hlt:j<k
    ·have hsz:=hbel.size;obtain⟨b,o,c,hv,hb,hcell⟩:=HZ.o j hlt;have hck:wr.cell? ⟨p,j,UJ⟩=UI (UD (UI ⟨b,o,UJ⟩) (zss.getD j []).length c):=by rw[hbel.cell (p:=⟨p,j,UJ⟩) hp,HC.o j hlt,hv]
     have HNW:AP (∀ i,i<(zss.getD j []).length->wr.cell? ((⟨b,o,UJ⟩:Addr).add i)=UI (UE .u8 ((zss.getD j []).getD i 0))):=by
      intro i hi;rw[Ay,hbel.cell (p:=⟨b,o+i,UJ⟩) hb];exact hcell i hi
     have hfl:=IF zss j (AG HM.o);have hle:=Jm zss (j+1);have HL:AP ((zss.take j).flatten.length+(zss.getD j []).length<=1099511627776):=by show _<=_;rw[hfl,Al] at hle;have:=HT.o.1;omega
     have HFL:AP ((zss.take (j+1)).flatten=(zss.take j).flatten++zss.getD j []):=hfl;have HOW:AP (DT wr w.heap.size l (zss.take j).flatten):=hown;have HBE:AP (Below w.heap.size w wr):=hbel;clear hcell hv hb hfl hle hown hbel;go_wp2_with (first
      |(at_builtin;refine Dh _ rfl (.tmp 31) (.tmp 32) rfl w.heap.size _ _ rfl HOW.o ⟨b,o,UJ⟩ _ c (zss.getD j []) rfl rfl HNW.o HL.o hsz ?_)
      |fail)
     intro v' w2 hown' hbel' _;have HO2:AP (DT w2 w.heap.size v' (zss.take (j+1)).flatten):=by show DT _ _ _ _;rw[HFL.o];exact hown'
     have HB2:AP (Below w.heap.size w w2):=HBE.o.trans hbel';clear hown' hbel' HOW HBE HNW;go_wp2;go_roundw
     case rel=>exact⟨j+1,_,AK,by go_num,rfl,HO2.o,HB2.o⟩
     case measure=>simp[intOf];omega
    ·have hje:j=k:=AK
     have hlt':¬ ((j:Int)<k):=AK
     have HO2:AP (DT wr w.heap.size l zss.flatten):=by
      have:zss.take j=zss:=An (AG HM.o);rw[this] at hown;exact hown
     clear hown;go_wp2
     go_ret
     exact⟨_,rfl,HO2.o,hbel⟩
end Go.Proofs.YthmeoilbmfdhfaaGreat
