import Derived.Test.YtncomnkdlpoelaaGreatDoorMArrW
import Derived.Test.YtncomnkdlpoelaaGreatDoorMINofS
import Derived.Test.YtncomnkdlpoelaaGreatDoorMSAd
open Go.Proofs.Tryz renaming prog->tP
open Go.Proofs.Tryz
open Go.Value renaming slice->aM,int->aO,pointer->aY,bool->ae,agg->af
open Go.Obj renaming cells->aa
open Go.Ending renaming returned->aQ
open Go.Operand renaming tmp->ah
open Option renaming some->aR,none->aS
open Go renaming World->aV,Value->aX
set_option maxHeartbeats 4000000
set_option maxRecDepth 100000
namespace Go.Proofs.YtncomnkdlpoelaaGreatDoor
open Go.ChangeShapes Go.WideShapes Go.ChangeAt Go.RowKit
set_option linter.unusedVariables false
structure GP (w wr:aV) (R:List (Nat×List Int)) (E:List (Nat×Nat×List Int)):Prop where
 below:Below w.heap.size w wr
 rows:∀ r∈R,w.heap.size<=r.1/\Cd wr r.1 141 r.2/\Cq r.2
 order:R.Pairwise λa b=>b.1<a.1
 els:∀ e∈E,e.1<w.heap.size/\Dx wr e.1 e.2.1 e.2.2
theorem GP.start (w:aV) (E:List (Nat×Nat×List Int)) (h:∀ e∈E,Dx w e.1 e.2.1 e.2.2):GP w w [] E:=
 ⟨A8 _ _,AL,List.Pairwise.nil,λe he=>⟨(h e he).1,h e he⟩⟩
theorem GP.call {w wr w':aV} {R:List (Nat×List Int)} {E:List (Nat×Nat×List Int)} (h:GP w wr R E) (b:Below wr.heap.size wr w'):GP w w' R E:=
 ⟨h.below.trans (b.mono h.below.size),λr hr=>⟨(h.rows r hr).1,(h.rows r hr).2.1.below b (h.rows r hr).2.1.lt,(h.rows r hr).2.2⟩,h.order,λe he=>⟨(h.els e he).1,(h.els e he).2.below b⟩⟩
theorem GP.push {w wr w':aV} {R:List (Nat×List Int)} {E:List (Nat×Nat×List Int)} (h:GP w wr R E) (b:Below wr.heap.size wr w') {es:List Int} (hr:Cd w' wr.heap.size 141 es) (hk:Cq es) :
  GP w w' ((wr.heap.size,es)::R) E:=by
 have c:=h.call b;refine⟨c.below,?_,?_,c.els⟩
 ·intro r hm;rcases Au.1 hm with rfl|hm
  {exact⟨h.below.size,hr,hk⟩};{exact c.rows r hm}
 ·exact List.Pairwise.cons (λr hm=>(h.rows r hm).2.1.lt) h.order
theorem FY:Cq [0,0,0,0,0]:=⟨rfl,λi=>by rcases i with _|_|_|_|_|i<;>simp,λi _=>by rcases i with _|_|_|_|_|i<;>simp,AK⟩
theorem GP.room {w wr:aV} {R:List (Nat×List Int)} {E:List (Nat×Nat×List Int)} (h:GP w wr R E) :
  GP w (wr.alloc (aa #[aO .u64 0,aO .u64 0,aO .u64 0,aO .u64 0,aO .u64 0] 141)) ((wr.heap.size,[0,0,0,0,0])::R) E:=
 h.push (Ct _ _) (J9 wr) FY
theorem GP.el {w wr:aV} {R:List (Nat×List Int)} {E:List (Nat×Nat×List Int)} (h:GP w wr R E) (i:Nat) (g o:Nat) (es:List Int) (hi:E[i]?=aR (g,o,es)):Dx wr g o es:=
 (h.els _ (List.mem_of_getElem? hi)).2
theorem GP.row {w wr:aV} {R:List (Nat×List Int)} {E:List (Nat×Nat×List Int)} (h:GP w wr R E) (i:Nat) (g:Nat) (es:List Int) (hi:R[i]?=aR (g,es)):Cd wr g 141 es:=
 (h.rows _ (List.mem_of_getElem? hi)).2.1
theorem GP.ok {w wr:aV} {R:List (Nat×List Int)} {E:List (Nat×Nat×List Int)} (h:GP w wr R E) (i:Nat) (g:Nat) (es:List Int) (hi:R[i]?=aR (g,es)):Cq es:=
 (h.rows _ (List.mem_of_getElem? hi)).2.2
theorem GP.re {w wr:aV} {R:List (Nat×List Int)} {E:List (Nat×Nat×List Int)} (h:GP w wr R E) (i:Nat) (g:Nat) (es:List Int) (hi:R[i]?=aR (g,es)):Dx wr g 0 es:=
 Dx.of_row (h.row i g es hi) (h.ok i g es hi)
theorem GP.put {w wr w':aV} {R:List (Nat×List Int)} {E:List (Nat×Nat×List Int)} (h:GP w wr R E) (i:Nat) (g:Nat) (zs es:List Int) (hi:R[i]?=aR (g,zs)) (hw:Wr g wr w') (hr:Cd w' g 141 es) (hk:Cq es) :
  GP w w' (R.set i (g,es)) E:=by
 have hg:=(h.rows _ (List.mem_of_getElem? hi)).1;have hil:=(Am.1 hi).1;have hie:=(Am.1 hi).2;have ho:=List.pairwise_iff_getElem.1 h.order;refine⟨h.below.trans (hw.below hg),?_,?_,λe he=>⟨(h.els e he).1,(h.els e he).2.wr hw (AG (h.els e he).1)⟩⟩
 ·intro r hm;obtain⟨j,hj,rfl⟩:=Bn hm;rw[List.length_set] at hj;rw[List.getElem_set];split
  ·exact⟨hg,hr,hk⟩
  ·rename_i hne
   have q:=h.rows _ (BL hj);refine⟨q.1,hw.rowW q.2.1 ?_,q.2.2⟩;rcases Nat.lt_or_gt_of_ne hne with hlt|hgt
   {have:=ho i j hil hj hlt;rw[hie] at this;simp only at this;omega};{have:=ho j i hj hil hgt;rw[hie] at this;simp only at this;omega}
 ·rw[List.pairwise_iff_getElem];intro a b ha hb hab;rw[List.length_set] at ha hb;have:=ho a b ha hb hab;rw[List.getElem_set,List.getElem_set];split<;>split<;>simp_all
theorem E9 {w wr:aV} {R:List (Nat×List Int)} {E:List (Nat×Nat×List Int)} (S:GP w wr R E)
  {ops:Array Oper} {rest:List Oper} {o:Oper} {a:Act} {Q:Exit->Act->aV->Prop} (hgd:o.guard=aS) (x y:Operand) (ho:o.op=.store 141 x y)
  (es:List Int) (hx:a.eval x=aY (aR ⟨wr.heap.size,0,aS⟩)) (hy:a.eval y=af (es.map (Value.int .u64)).toArray) (hk:Cq es)
  {wa:aV} (hwa:wa=wr.alloc (aa #[aO .u64 0,aO .u64 0,aO .u64 0,aO .u64 0,aO .u64 0] 141))
  (hK:∀ w',GP w w' ((wr.heap.size,es)::R) E->wpList tP ops Q rest (a.put o.dst undef) w') :
  wpList tP ops Q (o::rest) a wa:=by
 subst hwa;exact Ck hgd x y ho wr.heap.size es [0,0,0,0,0] hx hy hk.1 rfl (J9 wr) λw' hr hw=>hK w' (S.push ((Ct _ _).trans (hw.below Ch)) hr hk)
theorem De {w wr:aV} {R:List (Nat×List Int)} {E:List (Nat×Nat×List Int)} (S:GP w wr R E)
  {ops:Array Oper} {rest:List Oper} {o:Oper} {a:Act} {Q:Exit->Act->aV->Prop} (hgd:o.guard=aS) (x y:Operand) (ho:o.op=.store 141 x y)
  (i g:Nat) (zs es:List Int) (hi:R[i]?=aR (g,zs)) (hx:a.eval x=aY (aR ⟨g,0,aS⟩)) (hy:a.eval y=af (es.map (Value.int .u64)).toArray) (hk:Cq es)
  {wa:aV} (hwa:wa=wr)
  (hK:∀ w',GP w w' (R.set i (g,es)) E->wpList tP ops Q rest (a.put o.dst undef) w') :
  wpList tP ops Q (o::rest) a wa:=by
 subst hwa;exact Ck hgd x y ho g es zs hx hy hk.1 (S.ok i g zs hi).1 (S.row i g zs hi) λw' hr hw=>hK w' (S.put i g zs es hi hw hr hk)
theorem GP.ret {w wr:aV} {R:List (Nat×List Int)} {E:List (Nat×Nat×List Int)} (S:GP w wr R E) {fn:Func} {p:Tmp} (h:fn.results=#[.cell p 141]) (tmps:Array aX)
  (i g:Nat) (es:List Int) (hi:R[i]?=aR (g,es)) (hp:tmps.getD p undef=aY (aR ⟨g,0,aS⟩)) :
  (results fn tmps).run tP wr=.ok (af (es.map (Value.int .u64)).toArray) wr:=
 Nz h tmps wr g es (S.ok i g es hi).1 hp (S.row i g es hi)
def Wg (n:Nat):Nat:=2^n-1
def JA:Nat:=Wg 250
theorem JJ (g o:Nat) (xs:List Int) (w:aV) (h:Dx w g o xs) :
  Calls tP 159 #[aY (aR ⟨g,o,aS⟩),aO .i64 250] w (EP w (ev xs^JA%fp)):=SD 250 g o xs w AK AK h
theorem YI (x:Int) (m k r:Nat):Gw (x^m%fp) k*(x^r%fp)%fp=x^(m*2^k+r)%fp:=by
 have b:0<=x^m%fp/\x^m%fp<fp:=by unfold fp;omega
 rw[N0 _ b.1 b.2,Gx,DL,<-Int.pow_add]
theorem SL (x:Int) (h0:0<=x) (h1:x<fp):x^1%fp=x:=by
 rw[Int.pow_succ,Int.pow_zero,Int.one_mul];exact Int.emod_eq_of_lt h0 h1
theorem Lj (g o:Nat) (xs:List Int) (w:aV) (h:Dx w g o xs) (v1 goalv:Int) (hv1:ev xs^JA%fp=v1) (hgoal:Gw v1 2*ev xs%fp=goalv) :
  Calls tP 161 #[aY (aR ⟨g,o,aS⟩)] w (EP w goalv):=by
 have hev:=Gy xs;have HE:=CY <| hgoal
 have HV1:=CY <| hv1
 have S0:=(GP.start w [(g,o,xs)] (λe he=>by rcases List.mem_singleton.1 he with rfl;exact h)).room;have HO:=CY <| S0
 clear S0 h hv1 hev hgoal;go_enter func161,ntmps161;go_wp2_with fail;refine(JJ g o xs _ (HO.o.el 0 _ _ _ rfl)).mono ?_;rintro e w1 ⟨es,hk,hv,rfl,b⟩;have HK1:AO (Cq es/\ev es=v1):=⟨hk,hv.trans HV1.o⟩
 have S1:=HO.o.call b;have H1:=CY <| S1
 clear S1 hk hv b HV1;go_wp2_with (first
  |(refine E9 H1.o rfl (ah 3) (ah 6) rfl es rfl rfl HK1.o.1 rfl ?_)
  |fail)
 intro w2 S2;have H2:=CY <| S2
 clear S2 H1 HO;generalize w1.heap.size=G1 at *;go_wp2_with fail;refine(Dp G1 0 es 2 _ AK (H2.o.re 0 _ _ rfl)).mono ?_;rintro e w3 ⟨fs,hk,hv,rfl,b⟩;have HK2:AO (Cq fs/\ev fs=Gw v1 2):=⟨hk,by rw[hv,HK1.o.2]⟩
 have H3:=CY <| H2.o.call b
 clear H2 hk hv b;go_wp2_with (first
  |(refine E9 H3.o rfl (ah 4) (ah 7) rfl fs rfl rfl HK2.o.1 rfl ?_)
  |fail)
 intro w4 S4;have H4:=CY <| S4
 clear S4 H3;generalize w3.heap.size=G2 at *;go_wp2_with fail;refine(Cr G2 0 g o fs xs _ (H4.o.re 0 _ _ rfl) (H4.o.el 0 _ _ _ rfl)).mono ?_;rintro e w5 ⟨us,hk,hv,rfl,b⟩;have HK3:AO (Cq us/\ev us=goalv):=⟨hk,by rw[hv,HK2.o.2];exact HE.o⟩
 have H5:=CY <| H4.o.call b
 clear H4 hk hv b;go_wp2_with (first
  |(refine De H5.o rfl (ah 2) (ah 9) rfl 2 w.heap.size [0,0,0,0,0] us rfl rfl rfl HK3.o.1 rfl ?_)
  |fail)
 intro w6 S6;have H6:=CY <| S6
 clear S6 H5;go_wp2;exact AU (v:=af (us.map (Value.int .u64)).toArray) (H6.o.ret rfl _ 2 w.heap.size us rfl rfl) rfl ⟨us,HK3.o.1,HK3.o.2,rfl,H6.o.below⟩
theorem Ke (g o:Nat) (xs:List Int) (w:aV) (h:Dx w g o xs) :
  Calls tP 161 #[aY (aR ⟨g,o,aS⟩)] w (EP w (ev xs^(JA*4+1)%fp)):=by
 have hev:=Gy xs;have e:=YI (ev xs) JA 2 1;rw[SL _ hev.1 hev.2] at e;exact Lj g o xs w h _ _ rfl e
def MA (xs:List Int):Int:=D2 DD (xs.set 0 (xs.getD 0 0+19)) 5
def Gi (xs:List Int):List Int:=Hn (xs.set 0 (xs.getD 0 0+19*MA xs)) 5
theorem Jf (xs:List Int):KW DD (Hn xs 5):=by
 intro z hz;obtain⟨i,hi,rfl⟩:=Bn hz;have:=FQ xs i;have e:(Hn xs 5).getD i 0=(Hn xs 5)[i]:=by simp[hi]
 rw[e] at this;unfold DD;exact this
theorem Ey:fp=57896044618658097711785492504343953926634992332820282019728792003956564819949:=AK
theorem SM (xs:List Int):0<=val DD (Hn xs 5)/\val DD (Hn xs 5)<fp+19:=by
 have d:=Jf xs;have a:=C0 (B:=DD) AK d;have b:=Eg (B:=DD) AK d;rw[Dm] at b;have e2:(DD:Int)^5=fp+19:=AK
 rw[e2] at b;exact⟨a,b⟩
theorem Cq.val {xs:List Int} (h:Cq xs):0<=val DD xs/\val DD xs<fp+19+256:=by
 obtain⟨hl,h0,h1,h2⟩:=h
 match xs,hl with
 |[a,b,c,d,e],_=>
  have a0:=h0 0;have b0:=h0 1;have c0:=h0 2;have d0:=h0 3;have e0:=h0 4;have b1:=h1 1 AK;have c1:=h1 2 AK;have d1:=h1 3 AK;have e1:=h1 4 AK;simp only[List.getD_cons_zero,List.getD_cons_succ] at a0 b0 c0 d0 e0 b1 c1 d1 e1 h2;simp only[Go.Proofs.YtncomnkdlpoelaaGreatDoor.val,DD,Ey];omega
theorem Uh (V t r L c:Int) (h1:r+t*(fp+19)=V+19) (h2:L+c*(fp+19)=V+19*t) (hr:0<=r/\r<fp+19) (hL:0<=L/\L<fp+19) (hV:0<=V/\V<fp+19+256) :
  0<=t/\t<=1/\L=V%fp:=by
 rw[Ey] at *;have ht:t=0\/t=1:=AJ
 rcases ht with rfl|rfl
 ·have hc:c=0:=AJ
  subst hc;omega
 ·have hc:c=1:=AJ
  subst hc;omega
theorem FZ {xs:List Int} (h:Cq xs):0<=MA xs/\MA xs<=1/\val DD (Gi xs)=ev xs:=by
 have hl:=h.1;have s1:=Ld (xs.set 0 (xs.getD 0 0+19)) (by simp[hl]);have s2:=Ld (xs.set 0 (xs.getD 0 0+19*MA xs)) (by simp[hl]);rw[FV _ _ _ _ AJ] at s1 s2;simp only[Int.pow_zero,Int.mul_one] at s1 s2;have hV:=h.val;have hr:=SM (xs.set 0 (xs.getD 0 0+19));have hL:=SM (xs.set 0 (xs.getD 0 0+19*MA xs));have e1:D2 DD (xs.set 0 (xs.getD 0 0+19)) 5=MA xs:=rfl;rw[e1] at s1;unfold ev Gi;generalize D2 DD (xs.set 0 (xs.getD 0 0+19*MA xs)) 5=c at *;generalize val DD (Hn (xs.set 0 (xs.getD 0 0+19*MA xs)) 5)=L at *;generalize val DD (Hn (xs.set 0 (xs.getD 0 0+19)) 5)=r at *;generalize xs.getD 0 0=x0 at *;generalize MA xs=t at *;generalize val DD xs=V at *;exact Uh V t r L c AJ AJ hr hL hV
theorem Ek (xs:List Int):(Gi xs).length=5:=Dm _ _
theorem N3 (xs:List Int):Cq (Gi xs):=⟨Ek xs,λi=>(FQ _ i).1,λi _=>(FQ _ i).2,by have:=(FQ (xs.set 0 (xs.getD 0 0+19*MA xs)) 0).2;unfold Gi;omega⟩
theorem Wh {xs ys:List Int} (hx:Cq xs) (hy:Cq ys):Gi xs=Gi ys↔ev xs=ev ys:=by
 constructor
 ·intro h;rw[<-(FZ hx).2.2,<-(FZ hy).2.2,h]
 ·intro h;exact GQ (B:=DD) AK (Jf _) (Jf _) (by rw[Ek,Ek]) (by rw[(FZ hx).2.2,(FZ hy).2.2,h])
theorem PJ {xs:List Int} (h:Cq xs) (k:Int) (h0:0<=k) (h1:k<=19):Wb (xs.set 0 (xs.getD 0 0+k)):=by
 intro i;have hl:=h.1;rw[Cx _ _ _ _ AJ];have a:=h.2.1 i;have a0:=h.2.1 0;have b0:=h.2.2.2;split
 ·omega
 ·have b:=h.2.2.1 i AJ;omega
theorem Ui (es:List Int) (h:es.length=5):val DD es%2=es.getD 0 0%2:=by
 match es,h with
 |[a,b,c,d,e],_=>
  simp only[Go.Proofs.YtncomnkdlpoelaaGreatDoor.val,DD,List.getD_cons_zero];omega
theorem Ez (g o:Nat) (xs:List Int) (w:aV) (h:Dx w g o xs) :
  Calls tP 123 #[aY (aR ⟨g,o,aS⟩)] w λe w'=>e=aQ (af ((Gi xs).map (Value.int .u64)).toArray)/\Below w.heap.size w w':=by
 have hk:=h.2.1;obtain⟨ht0,ht1,_⟩:=FZ hk;have HX:=CY <| hk
 have HO:AO (GP w (w.alloc (aa #[aO .u64 0,aO .u64 0,aO .u64 0,aO .u64 0,aO .u64 0] 141)) [(w.heap.size,[0,0,0,0,0])] [(g,o,xs)]):=
  (GP.start w [(g,o,xs)] (λe he=>by rcases List.mem_singleton.1 he with rfl;exact h)).room
 have HN:AO (GP w ((w.alloc (aa #[aO .u64 0,aO .u64 0,aO .u64 0,aO .u64 0,aO .u64 0] 141)).alloc (aa #[aO .u64 0,aO .u64 0,aO .u64 0,aO .u64 0,aO .u64 0] 141)) [(w.heap.size+1,[0,0,0,0,0]),(w.heap.size,[0,0,0,0,0])] [(g,o,xs)]):=by
  have:=HO.o.room;rw[show(w.alloc (aa #[aO .u64 0,aO .u64 0,aO .u64 0,aO .u64 0,aO .u64 0] 141)).heap.size=w.heap.size+1 from by simp] at this;exact this
 go_enter func123,ntmps123;go_wp2_with (first
  |(refine DS rfl (ah 7) rfl g o xs rfl (HO.o.el 0 _ _ _ rfl) ?_)
  |(refine De HN.o rfl (ah 3) (ah 8) rfl 0 (w.heap.size+1) [0,0,0,0,0] xs rfl rfl rfl HX.o rfl ?_)
  |fail)
 intro w1 S1;have hl:=HX.o.1;have hx0:=HX.o.2.1 0;have hx1:=HX.o.2.2.2;have r1:=S1.row 0 (w.heap.size+1) xs rfl;have z1:=S1.row 1 w.heap.size [0,0,0,0,0] rfl;have e1:=S1.el 0 g o xs rfl;have b1:=S1.below;have hgw:=(S1.els (g,o,xs) AL).1;have c0:=r1.cell 0 AJ;have f0:=r1.frozen 0;have s1:R3 w1 (w.heap.size+1) (xs.set 0 (xs.getD 0 0+19)) (w1.setCell ⟨w.heap.size+1,0,aS⟩ (aO .u64 (xs.getD 0 0+19))):=⟨r1.set 0 _,(Wr.refl _ _).setCell 0 _⟩
 have HU1:=CY <| PJ HX.o 19 AK AK
 have HU2:=CY <| PJ HX.o (19*MA xs) AJ AJ
 have HT:AO (D2 DD (xs.set 0 (xs.getD 0 0+19)) 5=MA xs):=rfl;have HL5:=CY <| hl
 have HS1:=CY <| s1
 have HLS:AO (Hn (xs.set 0 (xs.getD 0 0+19*MA xs)) 5=Gi xs):=rfl;have HZ1:=CY <| z1
 have HE1:=CY <| e1
 have HB1:=CY <| b1
 have HXX:AO (xs.getD 0 0=xs.getD 0 0):=rfl;have hxx:∃ x0,x0=xs.getD 0 0:=⟨_,rfl⟩
 obtain⟨x0,hx0e⟩:=hxx;rw[<-hx0e] at c0 hx0 hx1 HU1 HU2 HT HS1 HLS;have HX0:=CY <| hx0e
 clear hx0e;go_wp2_with fail;generalize w1.setCell ⟨w.heap.size+1,0,aS⟩ (aO .u64 (x0+19))=w2 at *;refine(IK (w.heap.size+1) (xs.set 0 (x0+19)) _ (by rw[List.length_set];exact HL5.o) HS1.o.row HU1.o).mono ?_;rintro e w3 ⟨rfl,st⟩;rw[HT.o];have W3:=HS1.o.wr.trans st.wr;have HZ3:=CY <| W3.rowW HZ1.o AJ
 have HE3:=CY <| HE1.o.wr W3 AJ
 have HB3:=CY <| HB1.o.trans (W3.below AJ)
 have s3:=HB3.o.size;have HZN:=CY <| J9 w3
 go_wp2_with (first
  |(refine DS rfl (ah 15) rfl g o xs rfl HE3.o ?_)
  |(refine Ck rfl (ah 5) (ah 16) rfl w3.heap.size xs [0,0,0,0,0] rfl rfl HL5.o rfl HZN.o ?_)
  |fail)
 intro w4 r4 W4;have b4:=(Ct _ _).trans (W4.below Ch);have hz3:=HZ3.o.lt;have HZ4:=CY <| HZ3.o.below b4 hz3
 have HB4:=CY <| HB3.o.trans (b4.mono s3)
 generalize w3.heap.size=V at *;have c4:=r4.cell 0 (by rw[HL5.o];decide);have f4:=r4.frozen 0;rw[<-HX0.o] at c4;have HS4:AO (R3 w4 V (xs.set 0 (x0+19*MA xs)) (w4.setCell ⟨V,0,aS⟩ (aO .u64 (x0+19*MA xs)))):=⟨r4.set 0 _,(Wr.refl _ _).setCell 0 _⟩
 generalize MA xs=t at *;go_wp2_with fail;generalize w4.setCell ⟨V,0,aS⟩ (aO .u64 (x0+19*t))=w5 at *;refine(IK V (xs.set 0 (x0+19*t)) _ (by rw[List.length_set];exact HL5.o) HS4.o.row HU2.o).mono ?_;rintro e w6 ⟨rfl,st⟩;have W6:=HS4.o.wr.trans st.wr;have HZ6:=CY <| W6.rowW HZ4.o AJ
 have HB6:=CY <| HB4.o.trans (W6.below AJ)
 have r6:=st.row;rw[HLS.o] at r6;have HE6:=CY <| Dx.of_row r6 (N3 xs)
 have HLL:=CY <| Ek xs
 go_wp2_with (first
  |(refine DS rfl (ah 5) rfl V 0 (Gi xs) rfl HE6.o ?_)
  |(refine Ck rfl (ah 2) (ah 24) rfl w.heap.size (Gi xs) [0,0,0,0,0] rfl rfl HLL.o rfl HZ6.o ?_)
  |fail)
 intro w7 r7 W7;have HR7:=CY <| r7
 have HB7:=CY <| HB6.o.trans (W7.below Ch)
 go_wp2;exact AU (v:=af ((Gi xs).map (Value.int .u64)).toArray) (Nz rfl _ _ w.heap.size (Gi xs) HLL.o rfl HR7.o) rfl ⟨rfl,HB7.o⟩
theorem N4 {xs ys:List Int} (hx:Cq xs) (hy:Cq ys):decide (Gi xs=Gi ys)=decide (ev xs=ev ys):=by
 rw[decide_eq_decide];exact Wh hx hy
theorem JK (g1 o1 g2 o2:Nat) (xs ys:List Int) (w:aV) (h1:Dx w g1 o1 xs) (h2:Dx w g2 o2 ys) :
  Calls tP 162 #[aY (aR ⟨g1,o1,aS⟩),aY (aR ⟨g2,o2,aS⟩)] w λe w'=>e=aQ (ae (decide (ev xs=ev ys)))/\Below w.heap.size w w':=by
 have HD:=CY <| N4 h1.2.1 h2.2.1
 have H2:=CY <| h2
 have hml:=Ek xs;have hnl:=Ek ys;go_enter func162,ntmps162;go_wp2_with fail;refine(Ez g1 o1 xs _ h1).mono ?_;rintro e w1 ⟨rfl,b1⟩;have h2':=H2.o.below b1;have HB1:=CY <| b1
 go_wp2_with fail;refine(Ez g2 o2 ys _ h2').mono ?_;rintro e w2 ⟨rfl,b2⟩;have HB2:=CY <| HB1.o.trans (b2.mono HB1.o.size)
 go_wp2_with (simp only[Id _ 9998 5 141 underlying141 (Gi xs) (Gi ys) hml hnl]);rw[HD.o];obtain⟨q,hq⟩:∃ q,q=decide (ev xs=ev ys):=⟨_,rfl⟩
 rw[<-hq];have HQQ:=CY <| hq
 clear hq HD;simp only[Result.andThen_ok];go_simp;go_wp2
 go_ret
 exact⟨by rw[HQQ.o];rfl,HB2.o⟩
theorem Ff (g o:Nat) (xs:List Int) (w:aV) (h:Dx w g o xs) :
  Calls tP 125 #[aY (aR ⟨g,o,aS⟩)] w λe w'=>e=aQ (ae (ev xs%2 == 1))/\Below w.heap.size w w':=by
 have HV:AO ((Gi xs).getD 0 0%2=ev xs%2):=by
  show _=_
  rw[<-Ui _ (Ek xs),(FZ h.2.1).2.2]
 have HA:AO (bits .and .u64 ((Gi xs).getD 0 0) 1=(Gi xs).getD 0 0%2):=DI _ 1 ((N3 xs).2.1 0) (AG (N3 xs).2.2.2) 1 AK AK;go_enter func125,ntmps125;go_wp2_with fail;refine(Ez g o xs _ h).mono ?_;rintro e w1 ⟨rfl,b1⟩;have HB1:AO (Below w.heap.size w w1):=b1;have HLL:AO ((Gi xs).length=5):=Ek xs;have HZN:AO (Cd (w1.alloc (aa #[aO .u64 0,aO .u64 0,aO .u64 0,aO .u64 0,aO .u64 0] 141)) w1.heap.size 141 [0,0,0,0,0]):=J9 w1;go_wp2_with (first
  |(refine Ck rfl (ah 3) (ah 5) rfl w1.heap.size (Gi xs) [0,0,0,0,0] rfl rfl HLL.o rfl HZN.o ?_)
  |fail)
 intro w2 r2 W2;have HB2:AO (Below w.heap.size w w2):=HB1.o.trans (((Ct _ _).trans (W2.below Ch)).mono HB1.o.size);have c2:=r2.cell 0 (by rw[HLL.o];decide);generalize w1.heap.size=V at *;generalize (Gi xs).getD 0 0=x at *;go_wp2;rw[HA.o,HV.o]
 go_ret
 exact⟨rfl,HB2.o⟩
theorem Ha (g o:Nat) (xs:List Int) (w:aV) (h:Dx w g o xs) :
  Calls tP 126 #[aY (aR ⟨g,o,aS⟩)] w (EP w ((0-ev xs)%fp)):=by
 have HO:AO (GP w (w.alloc (aa #[aO .u64 0,aO .u64 0,aO .u64 0,aO .u64 0,aO .u64 0] 141)) [(w.heap.size,[0,0,0,0,0])] [(g,o,xs)]):=
  (GP.start w [(g,o,xs)] (λe he=>by rcases List.mem_singleton.1 he with rfl;exact h)).room
 have HN:AO (GP w ((w.alloc (aa #[aO .u64 0,aO .u64 0,aO .u64 0,aO .u64 0,aO .u64 0] 141)).alloc (aa #[aO .u64 0,aO .u64 0,aO .u64 0,aO .u64 0,aO .u64 0] 141)) [(w.heap.size+1,[0,0,0,0,0]),(w.heap.size,[0,0,0,0,0])] [(g,o,xs)]):=by
  have:=HO.o.room;rw[show(w.alloc (aa #[aO .u64 0,aO .u64 0,aO .u64 0,aO .u64 0,aO .u64 0] 141)).heap.size=w.heap.size+1 from by simp] at this;exact this
 have HZ:AO (ev [0,0,0,0,0]=0):=by show _=_;decide
 go_enter func126,ntmps126;go_wp2_with fail;refine(Fe (w.heap.size+1) 0 g o [0,0,0,0,0] xs _ (HN.o.re 0 _ _ rfl) (HN.o.el 0 _ _ _ rfl)).mono ?_;rintro e w1 ⟨es,hk,hv,rfl,b⟩;rw[HZ.o] at hv;have HK:AO (Cq es/\ev es=(0-ev xs)%fp):=⟨hk,hv⟩
 have H1:=CY <| HN.o.call b
 go_wp2_with (first
  |(refine De H1.o rfl (ah 2) (ah 5) rfl 1 w.heap.size [0,0,0,0,0] es rfl rfl rfl HK.o.1 rfl ?_)
  |fail)
 intro w2 S2;have H2:=CY <| S2
 go_wp2;exact AU (v:=af (es.map (Value.int .u64)).toArray) (H2.o.ret rfl _ 1 w.heap.size es rfl rfl) rfl ⟨es,HK.o.1,HK.o.2,rfl,H2.o.below⟩
def pl (x y z t:List Int):List Int:=x++(y++(z++t))
def over (zs:List Int):Nat->List Int->List Int
 |_,[]=>zs
 |o,a::r=>over (zs.set o a) (o+1) r
theorem Cd.setCells {g:Nat} {e:TypeId}:∀(es zs:List Int) (w:aV) (o:Nat),Cd w g e zs->Cd (w.setCells g o (es.map (Value.int .u64))) g e (over zs o es)
 |[],_,_,_,h=>h
 |a::r,zs,w,o,h=>Cd.setCells r (zs.set o a) _ (o+1) (h.set o a)
theorem Wr.setCells {g:Nat} {v:aV}:∀(es:List aX) (w:aV) (o:Nat),Wr g v w->Wr g v (w.setCells g o es)
 |[],_,_,h=>h
 |a::r,w,o,h=>Wr.setCells r _ (o+1) (h.setCell o a)
theorem Lk {x y z t es:List Int} (hx:x.length=5) (he:es.length=5):over (pl x y z t) 0 es=pl es y z t:=by
 match x,hx,es,he with
 |[_,_,_,_,_],_,[_,_,_,_,_],_=>rfl
theorem Wi {x y z t es:List Int} (hx:x.length=5) (hy:y.length=5) (he:es.length=5):over (pl x y z t) 5 es=pl x es z t:=by
 match x,hx,y,hy,es,he with
 |[_,_,_,_,_],_,[_,_,_,_,_],_,[_,_,_,_,_],_=>rfl
theorem Ll {x y z t es:List Int} (hx:x.length=5) (hy:y.length=5) (hz:z.length=5) (he:es.length=5):over (pl x y z t) 10 es=pl x y es t:=by
 match x,hx,y,hy,z,hz,es,he with
 |[_,_,_,_,_],_,[_,_,_,_,_],_,[_,_,_,_,_],_,[_,_,_,_,_],_=>rfl
theorem Wj {x y z t es:List Int} (hx:x.length=5) (hy:y.length=5) (hz:z.length=5) (ht:t.length=5) (he:es.length=5):over (pl x y z t) 15 es=pl x y z es:=by
 match x,hx,y,hy,z,hz,t,ht,es,he with
 |[_,_,_,_,_],_,[_,_,_,_,_],_,[_,_,_,_,_],_,[_,_,_,_,_],_,[_,_,_,_,_],_=>rfl
structure Pt (w:aV) (g:Nat) (x y z t:List Int):Prop where
 row:Cd w g 143 (pl x y z t)
 x:Cq x
 y:Cq y
 z:Cq z
 t:Cq t
theorem Pt.at {w:aV} {g:Nat} {x y z t:List Int} (h:Pt w g x y z t) (o:Nat) (es:List Int) (hk:Cq es) (ho:o+5<=20) (he:∀ i,i<5->(pl x y z t).getD (o+i) 0=es.getD i 0):Dx w g o es:=
 ⟨h.row.lt,hk,λi hi=>by
  have hl:(pl x y z t).length=20:=by unfold pl;simp[h.x.1,h.y.1,h.z.1,h.t.1]
  rw[h.row.cell (o+i) AJ,he i hi]⟩
theorem Pt.ex {w:aV} {g:Nat} {x y z t:List Int} (h:Pt w g x y z t):Dx w g 0 x:=h.at 0 x h.x AJ λi hi=>by
 match x,h.x.1,i,hi with
 |[_,_,_,_,_],_,0,_=>rfl
 |[_,_,_,_,_],_,1,_=>rfl
 |[_,_,_,_,_],_,2,_=>rfl
 |[_,_,_,_,_],_,3,_=>rfl
 |[_,_,_,_,_],_,4,_=>rfl
theorem Pt.ey {w:aV} {g:Nat} {x y z t:List Int} (h:Pt w g x y z t):Dx w g 5 y:=h.at 5 y h.y AJ λi hi=>by
 match x,h.x.1,y,h.y.1,i,hi with
 |[_,_,_,_,_],_,[_,_,_,_,_],_,0,_=>rfl
 |[_,_,_,_,_],_,[_,_,_,_,_],_,1,_=>rfl
 |[_,_,_,_,_],_,[_,_,_,_,_],_,2,_=>rfl
 |[_,_,_,_,_],_,[_,_,_,_,_],_,3,_=>rfl
 |[_,_,_,_,_],_,[_,_,_,_,_],_,4,_=>rfl
theorem Pt.ez {w:aV} {g:Nat} {x y z t:List Int} (h:Pt w g x y z t):Dx w g 10 z:=h.at 10 z h.z AJ λi hi=>by
 match x,h.x.1,y,h.y.1,z,h.z.1,i,hi with
 |[_,_,_,_,_],_,[_,_,_,_,_],_,[_,_,_,_,_],_,0,_=>rfl
 |[_,_,_,_,_],_,[_,_,_,_,_],_,[_,_,_,_,_],_,1,_=>rfl
 |[_,_,_,_,_],_,[_,_,_,_,_],_,[_,_,_,_,_],_,2,_=>rfl
 |[_,_,_,_,_],_,[_,_,_,_,_],_,[_,_,_,_,_],_,3,_=>rfl
 |[_,_,_,_,_],_,[_,_,_,_,_],_,[_,_,_,_,_],_,4,_=>rfl
theorem Pt.et {w:aV} {g:Nat} {x y z t:List Int} (h:Pt w g x y z t):Dx w g 15 t:=h.at 15 t h.t AJ λi hi=>by
 match x,h.x.1,y,h.y.1,z,h.z.1,t,h.t.1,i,hi with
 |[_,_,_,_,_],_,[_,_,_,_,_],_,[_,_,_,_,_],_,[_,_,_,_,_],_,0,_=>rfl
 |[_,_,_,_,_],_,[_,_,_,_,_],_,[_,_,_,_,_],_,[_,_,_,_,_],_,1,_=>rfl
 |[_,_,_,_,_],_,[_,_,_,_,_],_,[_,_,_,_,_],_,[_,_,_,_,_],_,2,_=>rfl
 |[_,_,_,_,_],_,[_,_,_,_,_],_,[_,_,_,_,_],_,[_,_,_,_,_],_,3,_=>rfl
 |[_,_,_,_,_],_,[_,_,_,_,_],_,[_,_,_,_,_],_,[_,_,_,_,_],_,4,_=>rfl
structure Di (w wr:aV) (g:Nat) (x y z t:List Int) (R:List (Nat×List Int)) (E:List (Nat×Nat×List Int)):Prop where
 wrh:ET g w wr
 lt:g<w.heap.size
 pt:Pt wr g x y z t
 rows:∀ r∈R,w.heap.size<=r.1/\Cd wr r.1 141 r.2/\Cq r.2
 order:R.Pairwise λa b=>b.1<a.1
 els:∀ e∈E,e.1<w.heap.size/\e.1≠g/\Dx wr e.1 e.2.1 e.2.2
section
variable {w wr w':aV} {g:Nat} {x y z t:List Int} {R:List (Nat×List Int)} {E:List (Nat×Nat×List Int)}
theorem Di.start (h:Pt w g x y z t) (E:List (Nat×Nat×List Int)) (he:∀ e∈E,e.1≠g/\Dx w e.1 e.2.1 e.2.2):Di w w g x y z t [] E:=
 ⟨ET.refl _ _,h.row.lt,h,AL,List.Pairwise.nil,λe hm=>⟨(he e hm).2.1,(he e hm).1,(he e hm).2⟩⟩
theorem Pt.below (h:Pt w g x y z t) {B:Nat} (b:Below B w w') (hB:g<B):Pt w' g x y z t:=⟨h.row.below b hB,h.x,h.y,h.z,h.t⟩
theorem Di.call (h:Di w wr g x y z t R E) (b:Below wr.heap.size wr w'):Di w w' g x y z t R E:=
 ⟨h.wrh.trans (ET.of_below b),h.lt,h.pt.below b h.pt.row.lt,λr hr=>⟨(h.rows r hr).1,(h.rows r hr).2.1.below b (h.rows r hr).2.1.lt,(h.rows r hr).2.2⟩,h.order,λe he=>⟨(h.els e he).1,(h.els e he).2.1,(h.els e he).2.2.below b⟩⟩
theorem Di.push (h:Di w wr g x y z t R E) (b:Below wr.heap.size wr w') {es:List Int} (hr:Cd w' wr.heap.size 141 es) (hk:Cq es) :
  Di w w' g x y z t ((wr.heap.size,es)::R) E:=by
 have c:=h.call b;refine⟨c.wrh,c.lt,c.pt,?_,?_,c.els⟩
 ·intro r hm;rcases Au.1 hm with rfl|hm
  {exact⟨h.wrh.size,hr,hk⟩};{exact c.rows r hm}
 ·exact List.Pairwise.cons (λr hm=>(h.rows r hm).2.1.lt) h.order
theorem Di.el (h:Di w wr g x y z t R E) (i:Nat) (G o:Nat) (es:List Int) (hi:E[i]?=aR (G,o,es)):Dx wr G o es:=
 (h.els _ (List.mem_of_getElem? hi)).2.2
theorem Di.row (h:Di w wr g x y z t R E) (i:Nat) (G:Nat) (es:List Int) (hi:R[i]?=aR (G,es)):Cd wr G 141 es:=
 (h.rows _ (List.mem_of_getElem? hi)).2.1
theorem Di.ok (h:Di w wr g x y z t R E) (i:Nat) (G:Nat) (es:List Int) (hi:R[i]?=aR (G,es)):Cq es:=
 (h.rows _ (List.mem_of_getElem? hi)).2.2
theorem Di.re (h:Di w wr g x y z t R E) (i:Nat) (G:Nat) (es:List Int) (hi:R[i]?=aR (G,es)):Dx wr G 0 es:=
 Dx.of_row (h.row i G es hi) (h.ok i G es hi)
theorem Di.put (h:Di w wr g x y z t R E) (i:Nat) (G:Nat) (zs es:List Int) (hi:R[i]?=aR (G,zs)) (hw:Wr G wr w') (hr:Cd w' G 141 es) (hk:Cq es) :
  Di w w' g x y z t (R.set i (G,es)) E:=by
 have hg:=(h.rows _ (List.mem_of_getElem? hi)).1;have hil:=(Am.1 hi).1;have hie:=(Am.1 hi).2;have ho:=List.pairwise_iff_getElem.1 h.order;have hgl:=h.lt;have b:=hw.below hg;refine⟨⟨hw.os.trans h.wrh.os,hw.tape.trans h.wrh.tape,hw.output.trans h.wrh.output,by rw[hw.size];exact h.wrh.size,λk hk hg'=>(hw.block k AJ).trans (h.wrh.block k hk hg')⟩,h.lt,h.pt.below b h.lt,?_,?_,λe he=>⟨(h.els e he).1,(h.els e he).2.1,(h.els e he).2.2.wr hw (AG (h.els e he).1)⟩⟩
 ·intro r hm;obtain⟨j,hj,rfl⟩:=Bn hm;rw[List.length_set] at hj;rw[List.getElem_set];split
  ·exact⟨hg,hr,hk⟩
  ·rename_i hne
   have q:=h.rows _ (BL hj);refine⟨q.1,hw.rowW q.2.1 ?_,q.2.2⟩;rcases Nat.lt_or_gt_of_ne hne with hlt|hgt
   {have:=ho i j hil hj hlt;rw[hie] at this;simp only at this;omega};{have:=ho j i hj hil hgt;rw[hie] at this;simp only at this;omega}
 ·rw[List.pairwise_iff_getElem];intro a b ha hb hab;rw[List.length_set] at ha hb;have:=ho a b ha hb hab;rw[List.getElem_set,List.getElem_set];split<;>split<;>simp_all
theorem Di.point (h:Di w wr g x y z t R E) {x' y' z' t':List Int} (hw:Wr g wr w') (hp:Pt w' g x' y' z' t'):Di w w' g x' y' z' t' R E:=
 ⟨h.wrh.trans hw.wrH,h.lt,hp,λr hr=>⟨(h.rows r hr).1,hw.rowW (h.rows r hr).2.1 (AH (h.rows r hr).1 h.lt),(h.rows r hr).2.2⟩,h.order,λe he=>⟨(h.els e he).1,(h.els e he).2.1,(h.els e he).2.2.wr hw (h.els e he).2.1⟩⟩
variable {ops:Array Oper} {rest:List Oper} {o:Oper} {a:Act} {Q:Exit->Act->aV->Prop}
theorem C7 (S:Di w wr g x y z t R E) (hgd:o.guard=aS) (px py:Operand) (ho:o.op=.store 141 px py)
  (es:List Int) (hx:a.eval px=aY (aR ⟨wr.heap.size,0,aS⟩)) (hy:a.eval py=af (es.map (Value.int .u64)).toArray) (hk:Cq es)
  {wa:aV} (hwa:wa=wr.alloc (aa #[aO .u64 0,aO .u64 0,aO .u64 0,aO .u64 0,aO .u64 0] 141))
  (hK:∀ w',Di w w' g x y z t ((wr.heap.size,es)::R) E->wpList tP ops Q rest (a.put o.dst undef) w') :
  wpList tP ops Q (o::rest) a wa:=by
 subst hwa;exact Ck hgd px py ho wr.heap.size es [0,0,0,0,0] hx hy hk.1 rfl (J9 wr) λw' hr hw=>hK w' (S.push ((Ct _ _).trans (hw.below Ch)) hr hk)
theorem JL (S:Di w wr g x y z t R E) (hgd:o.guard=aS) (px py:Operand) (ho:o.op=.store 141 px py)
  (i G:Nat) (zs es:List Int) (hi:R[i]?=aR (G,zs)) (hx:a.eval px=aY (aR ⟨G,0,aS⟩)) (hy:a.eval py=af (es.map (Value.int .u64)).toArray) (hk:Cq es)
  {wa:aV} (hwa:wa=wr)
  (hK:∀ w',Di w w' g x y z t (R.set i (G,es)) E->wpList tP ops Q rest (a.put o.dst undef) w') :
  wpList tP ops Q (o::rest) a wa:=by
 subst hwa;exact Ck hgd px py ho G es zs hx hy hk.1 (S.ok i G zs hi).1 (S.row i G zs hi) λw' hr hw=>hK w' (S.put i G zs es hi hw hr hk)
theorem Di.there (S:Di w wr g x y z t R E) (p:Nat) (hp:p+5<=20):wr.there g p 5:=λj hj=>by
 have hl:(pl x y z t).length=20:=by unfold pl;simp[S.pt.x.1,S.pt.y.1,S.pt.z.1,S.pt.t.1]
 exact⟨by rw[S.pt.row.cell (p+j) AJ];rfl,S.pt.row.frozen _⟩
theorem Dj (S:Di w wr g x y z t R E) (hgd:o.guard=aS) (px py:Operand) (ho:o.op=.store 141 px py)
  (p:Nat) (hp:p+5<=20) (es x' y' z' t':List Int) (hov:over (pl x y z t) p es=pl x' y' z' t') (hk':Cq x'/\Cq y'/\Cq z'/\Cq t') (hx:a.eval px=aY (aR ⟨g,p,aS⟩)) (hy:a.eval py=af (es.map (Value.int .u64)).toArray) (hk:Cq es)
  {wa:aV} (hwa:wa=wr)
  (hK:∀ w',Di w w' g x' y' z' t' R E->wpList tP ops Q rest (a.put o.dst undef) w') :
  wpList tP ops Q (o::rest) a wa:=by
 subst hwa;have hsz:((es.map (Value.int .u64)).toArray).size=5:=by simp[hk.1]
 refine wpList_store_mid hgd 141 px py ho g p ((es.map (Value.int .u64)).toArray) hx hy (by rw[hsz];exact S.there p hp) (sizeEl hk.1) (all_oneCell_toArray (Az _ _)) (hK _ ?_);have hr:=Cd.setCells es (pl x y z t) wa p S.pt.row;rw[hov] at hr;exact S.point (Wr.setCells _ _ p (Wr.refl _ _)) ⟨hr,hk'.1,hk'.2.1,hk'.2.2.1,hk'.2.2.2⟩
end
def Yy (x:Int):Int:=x^(JA*4+1)%fp
def KY (u v:Int):Int:=(u*(Gw v 1*v%fp)%fp)*Yy (u*(Gw v 1*v%fp)%fp*Gw v 2%fp)%fp
def Uj (u v:Int):Int:=Gw (KY u v) 1*v%fp
def Kf:List Int:=[1718705420411056,234908883556509,2233514472574048,2117202627021982,765476049583133]
def Fa:List Int:=[929955233495203,466365720129213,1662059464998953,2033849074728123,1442794654840575]
def FJ:List Int:=[1859910466990425,932731440258426,1072319116312658,1815898335770999,633789495995903]
def Kg (u v:Int):Bool:=decide (Uj u v=u) || decide (Uj u v=(0-u)%fp)
def Wk (u v:Int):Int:=if Uj u v=u then KY u v else KY u v*ev Kf%fp
def DP (w:aV) (g:Nat) (y z t:List Int) (u v:Int) (e:Ending) (w':aV):Prop:=
 ∃ xs,Cq xs/\e=aQ (ae (Kg u v))/\ev xs=Wk u v/\Pt w' g xs y z t/\ET g w w'
theorem YJ (a b c d e:Int) (ha:0<=a/\a<2251799813685504) (hb:0<=b/\b<2251799813685248) (hc:0<=c/\c<2251799813685248) (hd:0<=d/\d<2251799813685248) (he:0<=e/\e<2251799813685248):Cq [a,b,c,d,e]:=by
 refine⟨rfl,λi=>?_,λi hi=>?_,ha.2⟩
 ·rcases i with _|_|_|_|_|i<;>simp<;>omega
 ·rcases i with _|_|_|_|_|i<;>simp<;>omega
def Cw:List Int:=[1,0,0,0,0]
theorem El:Cq Cw:=YJ _ _ _ _ _ AK AK AK AK AK
theorem SN:Cq Kf:=YJ _ _ _ _ _ AK AK AK AK AK
theorem K2:Cq Fa:=YJ _ _ _ _ _ AK AK AK AK AK
theorem KB:Cq FJ:=YJ _ _ _ _ _ AK AK AK AK AK
theorem N5 (w:aV):Calls tP 149 #[] w (EP w (ev Fa)):=by
 have HS0:=CY <| (GP.start w [] AL).room
 go_enter func149,ntmps149;go_wp2_with (first
  |(refine De HS0.o rfl (ah 0) (ah 1) rfl 0 w.heap.size [0,0,0,0,0] Fa rfl rfl rfl K2 rfl ?_)
  |fail)
 intro w1 S1;have H1:=CY <| S1
 go_wp2;exact AU (v:=af (Fa.map (Value.int .u64)).toArray) (H1.o.ret rfl _ 0 w.heap.size Fa rfl rfl) rfl ⟨Fa,K2,rfl,rfl,H1.o.below⟩
theorem Mh (w:aV):Calls tP 137 #[] w (EP w (ev FJ)):=by
 have HS0:=CY <| (GP.start w [] AL).room
 go_enter func137,ntmps137;go_wp2_with (first
  |(refine De HS0.o rfl (ah 0) (ah 1) rfl 0 w.heap.size [0,0,0,0,0] FJ rfl rfl rfl KB rfl ?_)
  |fail)
 intro w1 S1;have H1:=CY <| S1
 go_wp2;exact AU (v:=af (FJ.map (Value.int .u64)).toArray) (H1.o.ret rfl _ 0 w.heap.size FJ rfl rfl) rfl ⟨FJ,KB,rfl,rfl,H1.o.below⟩
theorem Uk (w:aV):Calls tP 163 #[] w (EP w (ev Kf)):=by
 have HS0:=CY <| (GP.start w [] AL).room
 go_enter func163,ntmps163;go_wp2_with (first
  |(refine De HS0.o rfl (ah 0) (ah 1) rfl 0 w.heap.size [0,0,0,0,0] Kf rfl rfl rfl SN rfl ?_)
  |fail)
 intro w1 S1;have H1:=CY <| S1
 go_wp2;exact AU (v:=af (Kf.map (Value.int .u64)).toArray) (H1.o.ret rfl _ 0 w.heap.size Kf rfl rfl) rfl ⟨Kf,SN,rfl,rfl,H1.o.below⟩
def uF (Y:Int):Int:=(Gw Y 1-ev Cw)%fp
def vF (Y:Int):Int:=(Gw Y 1*ev Fa%fp+ev Cw)%fp
theorem KC (g:Nat) (x y z t:List Int) (g1 o1 g2 o2:Nat) (us vs:List Int) (w:aV) (hp:Pt w g x y z t) (hu:Dx w g1 o1 us) (hv:Dx w g2 o2 vs) (hg1:g1≠g) (hg2:g2≠g) :
  Calls tP 151 #[aY (aR ⟨g,0,aS⟩),aY (aR ⟨g1,o1,aS⟩),aY (aR ⟨g2,o2,aS⟩)] w (DP w g y z t (ev us) (ev vs)):=by
 have HS0:AO (Di w w g x y z t [] [(g1,o1,us),(g2,o2,vs)]):=Di.start hp _ (λe he=>by
  simp only[List.mem_cons,List.not_mem_nil,or_false] at he;rcases he with rfl|rfl
  ·exact⟨hg1,hu⟩
  ·exact⟨hg2,hv⟩)
 go_enter func151,ntmps151;go_wp2_with fail;refine(Dp g2 o2 vs 1 _ AK (HS0.o.el 1 _ _ _ rfl)).mono ?_;rintro e w1 ⟨c1,hk,hv,rfl,b⟩;have HKc1:AO (Cq c1/\ev c1=Gw (ev vs) 1):=⟨hk,hv⟩
 have HS1:=CY <| HS0.o.call b
 go_wp2_with (first
  |(refine C7 HS1.o rfl (ah 7) (ah 17) rfl c1 rfl rfl HKc1.o.1 rfl ?_)
  |fail)
 intro w2 S;have HS2:=CY <| S
 generalize w1.heap.size=G2 at *;go_wp2_with fail;refine(Cr G2 0 g2 o2 c1 vs _ (HS2.o.re 0 _ _ rfl) (HS2.o.el 1 _ _ _ rfl)).mono ?_;rintro e w3 ⟨c2,hk,hv,rfl,b⟩;have HKc2:AO (Cq c2/\ev c2=ev c1*ev vs%fp):=⟨hk,hv⟩
 have HS3:=CY <| HS2.o.call b
 go_wp2_with (first
  |(refine JL HS3.o rfl (ah 7) (ah 19) rfl 0 G2 c1 c2 rfl rfl rfl HKc2.o.1 rfl ?_)
  |fail)
 intro w4 S;have HS4:=CY <| S
 go_wp2_with fail;refine(Cr g1 o1 G2 0 us c2 _ (HS4.o.el 0 _ _ _ rfl) (HS4.o.re 0 _ _ rfl)).mono ?_;rintro e w5 ⟨st,hk,hv,rfl,b⟩;have HKst:AO (Cq st/\ev st=ev us*ev c2%fp):=⟨hk,hv⟩
 have HS5:=CY <| HS4.o.call b
 go_wp2_with (first
  |(refine C7 HS5.o rfl (ah 8) (ah 21) rfl st rfl rfl HKst.o.1 rfl ?_)
  |fail)
 intro w6 S;have HS6:=CY <| S
 generalize w5.heap.size=G6 at *;go_wp2_with fail;refine(Dp g2 o2 vs 2 _ AK (HS6.o.el 1 _ _ _ rfl)).mono ?_;rintro e w7 ⟨f4,hk,hv,rfl,b⟩;have HKf4:AO (Cq f4/\ev f4=Gw (ev vs) 2):=⟨hk,hv⟩
 have HS7:=CY <| HS6.o.call b
 go_wp2_with (first
  |(refine C7 HS7.o rfl (ah 9) (ah 23) rfl f4 rfl rfl HKf4.o.1 rfl ?_)
  |fail)
 intro w8 S;have HS8:=CY <| S
 generalize w7.heap.size=G8 at *;go_wp2_with fail;refine(Cr G6 0 G8 0 st f4 _ (HS8.o.re 1 _ _ rfl) (HS8.o.re 0 _ _ rfl)).mono ?_;rintro e w9 ⟨bs,hk,hv,rfl,b⟩;have HKbs:AO (Cq bs/\ev bs=ev st*ev f4%fp):=⟨hk,hv⟩
 have HS9:=CY <| HS8.o.call b
 go_wp2_with (first
  |(refine C7 HS9.o rfl (ah 10) (ah 24) rfl bs rfl rfl HKbs.o.1 rfl ?_)
  |fail)
 intro w10 S;have HS10:=CY <| S
 generalize w9.heap.size=G10 at *;go_wp2_with fail;refine(Ke G10 0 bs _ (HS10.o.re 0 _ _ rfl)).mono ?_;rintro e w11 ⟨pw,hk,hv,rfl,b⟩;have HKpw:AO (Cq pw/\ev pw=Yy (ev bs)):=⟨hk,hv⟩
 have HS11:=CY <| HS10.o.call b
 go_wp2_with (first
  |(refine C7 HS11.o rfl (ah 11) (ah 25) rfl pw rfl rfl HKpw.o.1 rfl ?_)
  |fail)
 intro w12 S;have HS12:=CY <| S
 generalize w11.heap.size=G12 at *;go_wp2_with fail;refine(Cr G6 0 G12 0 st pw _ (HS12.o.re 3 _ _ rfl) (HS12.o.re 0 _ _ rfl)).mono ?_;rintro e w13 ⟨rt,hk,hv,rfl,b⟩;have HKrt:AO (Cq rt/\ev rt=ev st*ev pw%fp):=⟨hk,hv⟩
 have HS13:=CY <| HS12.o.call b
 go_wp2_with (first
  |(refine Dj HS13.o rfl (ah 28) (ah 27) rfl 0 AK rt rt y z t (Lk HS13.o.pt.x.1 HKrt.o.1.1) ⟨HKrt.o.1,HS13.o.pt.y,HS13.o.pt.z,HS13.o.pt.t⟩ rfl rfl HKrt.o.1 rfl ?_)
  |fail)
 intro w14 S;have HS14:=CY <| S
 go_wp2_with fail;refine(Dp g 0 rt 1 _ AK HS14.o.pt.ex).mono ?_;rintro e w15 ⟨sq,hk,hv,rfl,b⟩;have HKsq:AO (Cq sq/\ev sq=Gw (ev rt) 1):=⟨hk,hv⟩
 have HS15:=CY <| HS14.o.call b
 go_wp2_with (first
  |(refine C7 HS15.o rfl (ah 12) (ah 30) rfl sq rfl rfl HKsq.o.1 rfl ?_)
  |fail)
 intro w16 S;have HS16:=CY <| S
 generalize w15.heap.size=G16 at *;go_wp2_with fail;refine(Cr G16 0 g2 o2 sq vs _ (HS16.o.re 0 _ _ rfl) (HS16.o.el 1 _ _ _ rfl)).mono ?_;rintro e w17 ⟨rc,hk,hv,rfl,b⟩;have HKrc:AO (Cq rc/\ev rc=ev sq*ev vs%fp):=⟨hk,hv⟩
 have HS17:=CY <| HS16.o.call b
 go_wp2_with (first
  |(refine C7 HS17.o rfl (ah 13) (ah 32) rfl rc rfl rfl HKrc.o.1 rfl ?_)
  |fail)
 intro w18 S;have HS18:=CY <| S
 generalize w17.heap.size=G18 at *;have HRT:AO (ev rt=KY (ev us) (ev vs)):=by
  show _=_
  unfold KY;rw[HKrt.o.2,HKpw.o.2,HKbs.o.2,HKst.o.2,HKf4.o.2,HKc2.o.2,HKc1.o.2]
 have HRC:AO (ev rc=Uj (ev us) (ev vs)):=by
  show _=_
  unfold Uj;rw[HKrc.o.2,HKsq.o.2,HRT.o]
 go_wp2_with fail;refine(JK G18 0 g1 o1 rc us _ (HS18.o.re 0 _ _ rfl) (HS18.o.el 0 _ _ _ rfl)).mono ?_;rintro e wq ⟨rfl,b⟩;have HSq:=CY <| HS18.o.call b
 by_cases hq:ev rc=ev us
 ·have HQ:=CY <| hq
  rw[Aj hq];go_wp2
  go_ret
  refine⟨rt,HKrt.o.1,?_,?_,HSq.o.pt,HSq.o.wrh⟩
  ·show _=aQ (ae (Kg (ev us) (ev vs)))
   have:Kg (ev us) (ev vs)=true:=by unfold Kg;rw[<-HRC.o,HQ.o];simp
   rw[this];rfl
  ·unfold Wk;rw[<-HRC.o,HQ.o,AP rfl];exact HRT.o
 ·have HQ:=CY <| hq
  rw[Ac hq];go_wp2_with fail;refine(Ha g1 o1 us _ (HSq.o.el 0 _ _ _ rfl)).mono ?_;rintro e w19 ⟨op,hk,hv,rfl,b⟩;have HKop:AO (Cq op/\ev op=(0-ev us)%fp):=⟨hk,hv⟩
  have HS19:=CY <| HSq.o.call b
  go_wp2_with (first
   |(refine C7 HS19.o rfl (ah 14) (ah 36) rfl op rfl rfl HKop.o.1 rfl ?_)
   |fail)
  intro w20 S;have HS20:=CY <| S
  generalize w19.heap.size=G20 at *;go_wp2_with fail;refine(Uk _).mono ?_;rintro e w21 ⟨tn,hk,hv,rfl,b⟩;have HKtn:AO (Cq tn/\ev tn=ev Kf):=⟨hk,hv⟩
  have HS21:=CY <| HS20.o.call b
  go_wp2_with (first
   |(refine C7 HS21.o rfl (ah 15) (ah 37) rfl tn rfl rfl HKtn.o.1 rfl ?_)
   |fail)
  intro w22 S;have HS22:=CY <| S
  generalize w21.heap.size=G22 at *;go_wp2_with fail;refine(Cr g 0 G22 0 rt tn _ HS22.o.pt.ex (HS22.o.re 0 _ _ rfl)).mono ?_;rintro e w23 ⟨xx,hk,hv,rfl,b⟩;have HKxx:AO (Cq xx/\ev xx=ev rt*ev tn%fp):=⟨hk,hv⟩
  have HS23:=CY <| HS22.o.call b
  go_wp2_with (first
   |(refine Dj HS23.o rfl (ah 41) (ah 40) rfl 0 AK xx xx y z t (Lk HS23.o.pt.x.1 HKxx.o.1.1) ⟨HKxx.o.1,HS23.o.pt.y,HS23.o.pt.z,HS23.o.pt.t⟩ rfl rfl HKxx.o.1 rfl ?_)
   |fail)
  intro w24 S;have HS24:=CY <| S
  have HXX:AO (ev xx=KY (ev us) (ev vs)*ev Kf%fp):=by
   show _=_
   rw[HKxx.o.2,HKtn.o.2,HRT.o]
  go_wp2_with fail;refine(JK G18 0 G20 0 rc op _ (HS24.o.re 2 _ _ rfl) (HS24.o.re 1 _ _ rfl)).mono ?_;rintro e wz ⟨rfl,b⟩;have HSz:AO (Di w wz g xx y z t [(G22,tn),(G20,op),(G18,rc),(G16,sq),(G12,pw),(G10,bs),(G8,f4),(G6,st),(G2,c2)] [(g1,o1,us),(g2,o2,vs)]):=HS24.o.call b;have HD:AO (decide (ev rc=ev op)=Kg (ev us) (ev vs)):=by
   show _=_
   unfold Kg;rw[<-HRC.o,HKop.o.2];simp[HQ.o]
  rw[HD.o];go_wp2
  go_ret
  refine⟨xx,HKxx.o.1,rfl,?_,HSz.o.pt,HSz.o.wrh⟩;unfold Wk;rw[<-HRC.o,AQ HQ.o];exact HXX.o
theorem QR (g:Nat) (x y z t:List Int) (w:aV) (hp:Pt w g x y z t) :
  Calls tP 124 #[aY (aR ⟨g,0,aS⟩)] w (DP w g y z t (uF (ev y)) (vF (ev y))):=by
 have HS0:AO (Di w w g x y z t [] []):=Di.start hp _ (λe he=>by simp at he);go_enter func124,ntmps124;go_wp2_with (first
  |(refine C7 HS0.o rfl (ah 3) (ah 8) rfl Cw rfl rfl El rfl ?_)
  |fail)
 intro w1 S;have HS1:=CY <| S
 generalize w.heap.size=G1 at *;go_wp2_with fail;refine(N5 _).mono ?_;rintro e w2 ⟨dd,hk,hv,rfl,b⟩;have HKdd:AO (Cq dd/\ev dd=ev Fa):=⟨hk,hv⟩
 have HS2:=CY <| HS1.o.call b
 go_wp2_with (first
  |(refine C7 HS2.o rfl (ah 4) (ah 9) rfl dd rfl rfl HKdd.o.1 rfl ?_)
  |fail)
 intro w3 S;have HS3:=CY <| S
 generalize w2.heap.size=G3 at *;go_wp2_with fail;refine(Dp g 5 y 1 _ AK HS3.o.pt.ey).mono ?_;rintro e w4 ⟨sq,hk,hv,rfl,b⟩;have HKsq:AO (Cq sq/\ev sq=Gw (ev y) 1):=⟨hk,hv⟩
 have HS4:=CY <| HS3.o.call b
 go_wp2_with (first
  |(refine C7 HS4.o rfl (ah 5) (ah 13) rfl sq rfl rfl HKsq.o.1 rfl ?_)
  |fail)
 intro w5 S;have HS5:=CY <| S
 generalize w4.heap.size=G5 at *;go_wp2_with fail;refine(Fe G5 0 G1 0 sq Cw _ (HS5.o.re 0 _ _ rfl) (HS5.o.re 2 _ _ rfl)).mono ?_;rintro e w6 ⟨ov,hk,hv,rfl,b⟩;have HKov:AO (Cq ov/\ev ov=(ev sq-ev Cw)%fp):=⟨hk,hv⟩
 have HS6:=CY <| HS5.o.call b
 go_wp2_with (first
  |(refine C7 HS6.o rfl (ah 6) (ah 14) rfl ov rfl rfl HKov.o.1 rfl ?_)
  |fail)
 intro w7 S;have HS7:=CY <| S
 generalize w6.heap.size=G7 at *;go_wp2_with fail;refine(Cr G5 0 G3 0 sq dd _ (HS7.o.re 1 _ _ rfl) (HS7.o.re 2 _ _ rfl)).mono ?_;rintro e w8 ⟨ua,hk,hv,rfl,b⟩;have HKua:AO (Cq ua/\ev ua=ev sq*ev dd%fp):=⟨hk,hv⟩
 have HS8:=CY <| HS7.o.call b
 go_wp2_with (first
  |(refine C7 HS8.o rfl (ah 7) (ah 15) rfl ua rfl rfl HKua.o.1 rfl ?_)
  |fail)
 intro w9 S;have HS9:=CY <| S
 generalize w8.heap.size=G9 at *;go_wp2_with fail;refine(GN G9 0 G1 0 ua Cw _ (HS9.o.re 0 _ _ rfl) (HS9.o.re 4 _ _ rfl)).mono ?_;rintro e w10 ⟨un,hk,hv,rfl,b⟩;have HKun:AO (Cq un/\ev un=(ev ua+ev Cw)%fp):=⟨hk,hv⟩
 have HS10:=CY <| HS9.o.call b
 go_wp2_with (first
  |(refine JL HS10.o rfl (ah 7) (ah 16) rfl 0 G9 ua un rfl rfl rfl HKun.o.1 rfl ?_)
  |fail)
 intro w11 S;have HS11:AO (Di w w11 g x y z t [(G9,un),(G7,ov),(G5,sq),(G3,dd),(G1,Cw)] []):=S;have HUF:AO (ev ov=uF (ev y)):=by
  show _=_
  unfold uF;rw[HKov.o.2,HKsq.o.2]
 have HVF:AO (ev un=vF (ev y)):=by
  show _=_
  unfold vF;rw[HKun.o.2,HKua.o.2,HKsq.o.2,HKdd.o.2]
 have hlt:=HS11.o.lt;have hn1:=(HS11.o.rows _ (List.mem_of_getElem? (i:=1) rfl)).1;have hn2:=(HS11.o.rows _ (List.mem_of_getElem? (i:=0) rfl)).1;dsimp only at hn1 hn2;go_wp2_with fail;refine(KC g x y z t G7 0 G9 0 ov un _ HS11.o.pt (HS11.o.re 1 _ _ rfl) (HS11.o.re 0 _ _ rfl) AJ AJ).mono ?_;rintro e wd ⟨xs,hk,rfl,hx,hp,hw⟩;rw[HUF.o,HVF.o] at hx |-;have HX:AO (Cq xs/\ev xs=Wk (uF (ev y)) (vF (ev y))/\Pt wd g xs y z t/\ET g w wd):=⟨hk,hx,hp,HS11.o.wrh.trans hw⟩
 go_wp2
 go_ret
 exact⟨xs,HX.o.1,rfl,HX.o.2.1,HX.o.2.2.1,HX.o.2.2.2⟩
theorem Z6 (a b:Int) (ha:0<=a) (ha':a<18446744073709551616) (hb:0<=b) (hb':b<18446744073709551616) :
  bits .and .u64 (bits .or .u64 (a/2251799813685248) (IntKind.u64.wrap (b*8192))) 2251799813685247=(a/2251799813685248+b%2251799813685248*8192)%2251799813685248:=by
 have e:IntKind.u64.wrap (b*8192)=b%2251799813685248*8192:=by rw[IntKind.wrap_u64];omega
 rw[e,Ea (b%2251799813685248*8192) (a/2251799813685248) 13 AJ AJ AJ (by rw[show(2:Int)^13=8192 from by decide];omega) AJ (b%2251799813685248) (by rw[show(2:Int)^13=8192 from by decide])];exact DI _ 51 AJ AJ _ AK AK
theorem Z7 (a b:Int) (ha:0<=a) (ha':a<18446744073709551616) (hb:0<=b) (hb':b<18446744073709551616) :
  bits .and .u64 (bits .or .u64 (a/274877906944) (IntKind.u64.wrap (b*67108864))) 2251799813685247=(a/274877906944+b%274877906944*67108864)%2251799813685248:=by
 have e:IntKind.u64.wrap (b*67108864)=b%274877906944*67108864:=by rw[IntKind.wrap_u64];omega
 rw[e,Ea (b%274877906944*67108864) (a/274877906944) 26 AJ AJ AJ (by rw[show(2:Int)^26=67108864 from by decide];omega) AJ (b%274877906944) (by rw[show(2:Int)^26=67108864 from by decide])];exact DI _ 51 AJ AJ _ AK AK
theorem Z8 (a b:Int) (ha:0<=a) (ha':a<18446744073709551616) (hb:0<=b) (hb':b<18446744073709551616) :
  bits .and .u64 (bits .or .u64 (a/33554432) (IntKind.u64.wrap (b*549755813888))) 2251799813685247=(a/33554432+b%33554432*549755813888)%2251799813685248:=by
 have e:IntKind.u64.wrap (b*549755813888)=b%33554432*549755813888:=by rw[IntKind.wrap_u64];omega
 rw[e,Ea (b%33554432*549755813888) (a/33554432) 39 AJ AJ AJ (by rw[show(2:Int)^39=549755813888 from by decide];omega) AJ (b%33554432) (by rw[show(2:Int)^39=549755813888 from by decide])];exact DI _ 51 AJ AJ _ AK AK
def MB (a b c d:Int):List Int:=[a%2251799813685248,(a/2251799813685248+b%2251799813685248*8192)%2251799813685248,(b/274877906944+c%274877906944*67108864)%2251799813685248,(c/33554432+d%33554432*549755813888)%2251799813685248,d/4096%2251799813685248]
theorem SO (a b c d:Int):Cq (MB a b c d):=YJ _ _ _ _ _ AJ AJ AJ AJ AJ
theorem PK (a b c d:Int):KW DD (MB a b c d):=by
 intro z hz;unfold DD;simp only[MB,List.mem_cons,List.not_mem_nil,or_false] at hz;rcases hz with rfl|rfl|rfl|rfl|rfl<;>omega
theorem Ul (a b c d:Int) (ha:0<=a) (ha':a<18446744073709551616) (hb:0<=b) (hb':b<18446744073709551616) (hc:0<=c) (hc':c<18446744073709551616) (hd:0<=d) (hd':d<18446744073709551616) :
  val DD (MB a b c d)=val 18446744073709551616 [a,b,c,d]%(fp+19):=by
 simp only[MB,val,DD,Ey];omega
theorem QS (a b c d:Int):Gi (MB a b c d)=MB a b c d↔val DD (MB a b c d)<fp:=by
 have h:=FZ (SO a b c d);have hb:=Gy (MB a b c d);constructor
 ·intro e;have e2:=h.2.2;rw[e] at e2;rw[e2];exact hb.2
 ·intro e;refine GQ (B:=DD) AK (Jf _) (PK _ _ _ _) (by rw[Ek];rfl) ?_;rw[h.2.2];exact Int.emod_eq_of_lt (C0 AK (PK _ _ _ _)) e
theorem Kh (a b c d:Int) (w:aV) (ha:0<=a) (ha':a<18446744073709551616) (hb:0<=b) (hb':b<18446744073709551616) (hc:0<=c) (hc':c<18446744073709551616) (hd:0<=d) (hd':d<18446744073709551616) :
  Calls tP 122 #[af #[aO .u64 a,aO .u64 b,aO .u64 c,aO .u64 d]] w λe w'=>e=aQ (af ((MB a b c d).map (Value.int .u64)).toArray)/\Below w.heap.size w w':=by
 have l0:bits .and .u64 a 2251799813685247=a%2251799813685248:=DI _ 51 AJ AJ _ AK AK;have l1:=Z6 a b ha ha' hb hb';have l2:=Z7 b c hb hb' hc hc';have l3:=Z8 c d hc hc' hd hd';have l4:bits .and .u64 (d/4096) 2251799813685247=d/4096%2251799813685248:=DI _ 51 AJ AJ _ AK AK;have H0:AO (bits .and .u64 a 2251799813685247=a%2251799813685248/\bits .and .u64 (bits .or .u64 (a/2251799813685248) (IntKind.u64.wrap (b*8192))) 2251799813685247=(a/2251799813685248+b%2251799813685248*8192)%2251799813685248/\bits .and .u64 (bits .or .u64 (b/274877906944) (IntKind.u64.wrap (c*67108864))) 2251799813685247=(b/274877906944+c%274877906944*67108864)%2251799813685248/\bits .and .u64 (bits .or .u64 (c/33554432) (IntKind.u64.wrap (d*549755813888))) 2251799813685247=(c/33554432+d%33554432*549755813888)%2251799813685248/\bits .and .u64 (d/4096) 2251799813685247=d/4096%2251799813685248):=⟨l0,l1,l2,l3,l4⟩
 clear l0 l1 l2 l3 l4;go_enter func122,ntmps122;go_wp2_with fail;obtain⟨l0,l1,l2,l3,l4⟩:=H0.o;rw[l0,l1,l2,l3,l4];exact AU (v:=af ((MB a b c d).map (Value.int .u64)).toArray) (Nz rfl _ _ (w.heap.size+1) (MB a b c d) rfl rfl (heap_alloc2_new _ _ _)) rfl ⟨rfl,(Cf.alloc Ch _).alloc AL _⟩
theorem N6 (g:Nat) (ns:List Int) (w:aV) (hl:ns.length=4) (hr:Cd w g 146 ns) (hw:IE ns) :
  Calls tP 121 #[aY (aR ⟨g,0,aS⟩),aO .i64 255] w λe w'=>e=aQ (aO .u64 (ns.getD 3 0/9223372036854775808))/\w'=w:=by
 have c3:=hr.cell 3 AJ;obtain⟨h0,h1⟩:=hw.get 3;have HA:AO (bits .and .u64 (ns.getD 3 0/9223372036854775808) 1=ns.getD 3 0/9223372036854775808):=by
  show _=_
  rw[DI _ 1 AJ AJ 1 AK AK];omega
 clear hr hw hl;generalize ns.getD 3 0=x at *;go_enter func121,ntmps121;go_wp2;rw[HA.o]
 go_ret
 exact⟨rfl,rfl⟩
def EM (w:aV) (g:Nat) (cs:Array aX):Prop:=w.heap[g]?=aR (aa cs 79 (0,0))
theorem EM.below {w w':aV} {g B:Nat} {cs:Array aX} (h:EM w g cs) (b:Below B w w') (hg:g<B):EM w' g cs:=by unfold EM;rw[b.block g hg];exact h
theorem EM.lt {w:aV} {g:Nat} {cs:Array aX} (h:EM w g cs):g<w.heap.size:=(AR.1 h).1
theorem EM.new (w:aV):EM (w.alloc (aa #[aM aS 0 0,aM aS 0 0,aM aS 0 0,aM aS 0 0] 79)) w.heap.size #[aM aS 0 0,aM aS 0 0,aM aS 0 0,aM aS 0 0]:=AS w _
theorem Tryz.sizePt:(tP.info? 79).map (·.size)=aR 4:=AM
theorem Cc {w:aV} {ops:Array Oper} {rest:List Oper} {o:Oper} {a:Act} {Q:Exit->Act->aV->Prop} (hgd:o.guard=aS) (x y:Operand) (ho:o.op=.store 79 x y)
  (G:Nat) (s1 s2 s3 s4:aX) (old:Array aX) (h1:s1.oneCell'=true) (h2:s2.oneCell'=true) (h3:s3.oneCell'=true) (h4:s4.oneCell'=true) (hx:a.eval x=aY (aR ⟨G,0,aS⟩)) (hy:a.eval y=af #[s1,s2,s3,s4]) (hl:old.size=4) (hr:EM w G old)
  (hK:∀ w',EM w' G #[s1,s2,s3,s4]->Wr G w w'->wpList tP ops Q rest (a.put o.dst undef) w') :
  wpList tP ops Q (o::rest) a w:=
 Bx hgd 79 x y ho G #[s1,s2,s3,s4] hx hy 79 _ hr Tryz.sizePt (by simp[hl]) (by simp[h1,h2,h3,h4]) (hK _ (AB hr) (Wr.setRow _ _ _))
def Z9 (w:aV) (a a':Option Addr) (cap cap':Nat) (x y:Int) (e:Ending) (w':aV):Prop:=
 ∃ gz cz gt ct,e=aQ (af #[aM a 16 cap,aM a' 16 cap',aM (aR ⟨gz,0,aS⟩) 16 cz,aM (aR ⟨gt,0,aS⟩) 16 ct])/\Cy w' (aR ⟨gz,0,aS⟩) (1%fp)/\Cy w' (aR ⟨gt,0,aS⟩) (x*y%fp)/\Below w.heap.size w w'/\w.heap.size<=gz/\w.heap.size<=gt
theorem Cy.wr {w w':aV} {g V:Nat} {x:Int} (h:Cy w (aR ⟨g,0,aS⟩) x) (hw:Wr V w w') (hne:g≠V):Cy w' (aR ⟨g,0,aS⟩) x:=by
 obtain⟨zs,h1,h2,h3⟩:=h;refine⟨zs,?_,h2,h3⟩;obtain⟨b,o,e,hb,hc⟩:=h1.get (AG h2.1);cases e;exact .inr ⟨g,0,rfl,by rw[hw.size];exact hb,λi hi=>by rw[Af (a:=⟨g,0+i,aS⟩) (w:=w) (hw.block g hne)];exact hc i hi⟩
theorem E0 (a a':Option Addr) (cap cap':Nat) (x y:Int) (w:aV) (ha:Cy w a x) (ha':Cy w a' y) :
  Calls tP 58 #[aM a 16 cap,aM a' 16 cap'] w (Z9 w a a' cap cap' x y):=by
 have b0:Below w.heap.size w (w.alloc (aa #[aM aS 0 0,aM aS 0 0,aM aS 0 0,aM aS 0 0] 79)):=Ce _ _;have HP0:=CY <| EM.new w
 have HS0:AO (SR w (w.alloc (aa #[aM aS 0 0,aM aS 0 0,aM aS 0 0,aM aS 0 0] 79)) [(a,x),(a',y)]):=⟨b0,λe he=>by
  simp only[List.mem_cons,List.not_mem_nil,or_false] at he;rcases he with rfl|rfl
  ·exact ha.below b0
  ·exact ha'.below b0⟩
 clear ha ha' b0;go_enter func58,ntmps58;go_wp2_with fail;refine(DA 1 _ AK AK).mono ?_;rintro e w1 ⟨g1,c1,rfl,k1,l1,hf,hb⟩;have HP1:=CY <| HP0.o.below hb HP0.o.lt
 have HS1:=CY <| HS0.o.add hf hb
 have hg1:w.heap.size<g1:=AG HP0.o.lt
 clear hf hb HS0 HP0;go_wp2_with fail;refine(Cs _ _ cap cap' x y _ (HS1.o.at 1 _ _ rfl) (HS1.o.at 2 _ _ rfl)).mono ?_;rintro e w2 ⟨g2,c2,rfl,k2,l2,hf,hb⟩;have HP2:=CY <| HP1.o.below hb HP1.o.lt
 have HS2:=CY <| HS1.o.add hf hb
 have hg2:w.heap.size<g2:=AG HP1.o.lt
 clear hf hb HS1 HP1;go_wp2_with (first
  |(refine Cc rfl (ah 4) (ah 11) rfl w.heap.size _ _ _ _ _ rfl rfl rfl rfl rfl rfl rfl HP2.o ?_)
  |fail)
 intro w3 hp3 hw3;have HP3:AO (EM w3 w.heap.size #[aM a 16 cap,aM a' 16 cap',aM (aR ⟨g1,0,aS⟩) 16 c1,aM (aR ⟨g2,0,aS⟩) 16 c2]):=hp3;have HF:AO (Cy w3 (aR ⟨g1,0,aS⟩) (1%fp)/\Cy w3 (aR ⟨g2,0,aS⟩) (x*y%fp)/\Below w.heap.size w w3):=
  ⟨(HS2.o.at 1 _ _ rfl).wr hw3 AJ,(HS2.o.at 0 _ _ rfl).wr hw3 AJ,HS2.o.below.trans (hw3.below Ch)⟩
 clear hp3 hw3 HS2 HP2;go_wp2;exact AU (v:=af #[aM a 16 cap,aM a' 16 cap',aM (aR ⟨g1,0,aS⟩) 16 c1,aM (aR ⟨g2,0,aS⟩) 16 c2]) (AY rfl _ _ w.heap.size 79 _ (0,0) _ rfl HP3.o underlying79 rfl Tryz.sizePt) rfl ⟨g1,c1,g2,c2,rfl,HF.o.1,HF.o.2.1,HF.o.2.2,AJ,AJ⟩
theorem D3 {fn:Func} {p u:Tmp} (h:fn.results=#[.tmp u,.cell p 79]) (tmps:Array aX) (w:aV) (g:Nat) (s1 s2 s3 s4:aX)
  (v:aX) (hv:tmps.getD u undef=v) (hp:tmps.getD p undef=aY (aR ⟨g,0,aS⟩)) (hg:EM w g #[s1,s2,s3,s4]) :
  (results fn tmps).run tP w=.ok (.tuple #[v,af #[s1,s2,s3,s4]]) w:=by
 have hp':tmps[p]?.getD undef=aY (aR ⟨g,0,aS⟩):=by simpa using hp
 have hv':tmps[u]?.getD undef=v:=by simpa using hv
 have hl:=run_loadVar_row (P:=tP) w g 79 79 #[s1,s2,s3,s4] (0,0) _ hg underlying79 rfl Tryz.sizePt;simp[results,h,hp',hv',asAddr,hl]
theorem PL:fp=57896044618658097711785492504343953926634992332820282019728792003956564819949:=AK
def mY (zs:List Int):Int:=val 256 zs%(fp+19)
def mO (zs:List Int):Int:=zs.getD 31 0/128
def mB (zs:List Int) (D:Int):Bool:=(zs.length == 32) && decide (mY zs<fp) && Lg (mY zs) D && !(mO zs == 1 && decide (GE (mY zs) D=0%fp))
def mX (zs:List Int) (D:Int):Int:=if GE (mY zs) D%2=mO zs then GE (mY zs) D else(0%fp-GE (mY zs) D)%fp
def MD (w:aV) (zs:List Int) (D:Int) (e:Ending) (w':aV):Prop:=
 ∃ s1 s2 s3 s4:aX,e=aQ (.tuple #[ae (mB zs D),af #[s1,s2,s3,s4]])/\Below w.heap.size w w'/\(s1.oneCell'=true/\s2.oneCell'=true/\s3.oneCell'=true/\s4.oneCell'=true)/\
  (mB zs D=true->∃ g1 c1 g2 c2 g3 c3 g4 c4,s1=aM (aR ⟨g1,0,aS⟩) 16 c1/\s2=aM (aR ⟨g2,0,aS⟩) 16 c2/\s3=aM (aR ⟨g3,0,aS⟩) 16 c3/\s4=aM (aR ⟨g4,0,aS⟩) 16 c4/\
   Cy w' (aR ⟨g1,0,aS⟩) (mX zs D)/\Cy w' (aR ⟨g2,0,aS⟩) (mY zs)/\Cy w' (aR ⟨g3,0,aS⟩) (1%fp)/\Cy w' (aR ⟨g4,0,aS⟩) (mX zs D*mY zs%fp))
theorem Lm (ds:List Int) (h:ds.length=16):val 65536 ds%2=ds.getD 0 0%2:=by
 cases ds with
 |nil=>simp at h
 |cons d r=>simp only[val,List.getD_cons_zero];omega
theorem Vw {w:aV} {a:Option Addr} {x:Int} (h:Vu w a x):Cy w a (x%fp):=by
 obtain⟨zs,h1,h2,h3,h4⟩:=h;exact⟨zs,h1,⟨h2,λi=>AG (h3 i)⟩,by unfold fv;rw[h4]⟩
theorem F6 (p a':Option Addr) (n cap cap':Nat) (zs:List Int) (D:Int) (w:aV) (hn:zs.length=n) (hm:n<=1048576) (ha:At .u8 w p zs) (hz:Cb zs) (hD:Cy w a' D) :
  Calls tP 61 #[aM p n cap,aM a' 16 cap'] w (MD w zs D):=by
 have b0:Below w.heap.size w (w.alloc (aa #[aM aS 0 0,aM aS 0 0,aM aS 0 0,aM aS 0 0] 79)):=Ce _ _;have HP0:=CY <| EM.new w
 by_cases h32:n=32
 ·have H32:AO (32<=n/\n<=32):=by show _/\_;omega
  have h32':((n:Int) == 32)=true:=by rw[h32];rfl
  have HLN:AO ((zs.length == 32)=true):=by show _=_;rw[hn,h32];rfl
  have HA0:=CY <| ha
  have HZ:=CY <| hz
  have HB0:=CY <| b0
  have HD0:=CY <| hD
  have hsz0:=HP0.o.lt;clear h32 b0 ha hz hD;go_enter func61,ntmps61;go_wp2_with fail;refine(Kd p n cap zs _ hn H32.o.1 H32.o.2 (HA0.o.below HB0.o) HZ.o).mono ?_;rintro e w1 ⟨gy,cy,rfl,ky,ly,hly,hb1⟩;have HP1:=CY <| HP0.o.below hb1 hsz0
  have HB1:=CY <| HB0.o.trans (hb1.mono HB0.o.size)
  have HLY:AO (Vu w1 (aR ⟨gy,0,aS⟩) (mY zs)):=hly;have hgy:w.heap.size<gy:=AJ
  go_wp2_with fail;refine(Eb _ cy (mY zs%fp) _ (Vw HLY.o)).mono ?_;rintro e w2 ⟨gl,cl,rfl,kl,ll,hll,hb2⟩;have HP2:AO (EM w2 w.heap.size #[aM aS 0 0,aM aS 0 0,aM aS 0 0,aM aS 0 0]):=HP1.o.below hb2 HP1.o.lt;have HB2:AO (Below w.heap.size w w2):=HB1.o.trans (hb2.mono HB1.o.size);have hly2:=HLY.o.below hb2;have HFY:AO (Cy w2 (aR ⟨gy,0,aS⟩) (mY zs%fp)):=Vw hly2;obtain⟨xs,hA1,hx1,hx2,hx3⟩:=hly2;obtain⟨ys,hA2,hy1,hy2,hy3⟩:=hll;have HEQ:AO (mY zs=mY zs%fp↔∀ i,i<16->xs.getD i 0=ys.getD i 0):=by
   show _↔_
   rw[<-hx3] at hy3 |-;rw[<-hy3];exact Vv hx1 hy1 hx2 hy2
  have HC1:AO (∀ i,i<16->w2.cell? ⟨gy,i,aS⟩=aR (aO .i64 (xs.getD i 0))):=λi hi=>by
   obtain⟨b,o,e,_,h⟩:=hA1.get AJ;cases e;have:=h i AJ
   rwa [Ar] at this
  have HC2:AO (∀ i,i<16->w2.cell? ⟨gl,i,aS⟩=aR (aO .i64 (ys.getD i 0))):=λi hi=>by
   obtain⟨b,o,e,_,h⟩:=hA2.get AJ;cases e;have:=h i AJ
   rwa [Ar] at this
  have HYP:AO (mY zs=mY zs%fp↔mY zs<fp):=by
   show _↔_
   have h0:0<=mY zs:=by unfold mY;rw[PL];omega
   rw[PL] at *;omega
  go_wp2
  go_loopw [8] (λi wr=>∃(k q:Nat),k<=16/\i=aO .i64 k/\wr=w2.drewN q/\∀ i,i<k->xs.getD i 0=ys.getD i 0) (λi _=>16-(intOf i).toNat)
  case atStart=>exact⟨0,0,AK,rfl,rfl,λi hi=>AJ⟩
  case round=>
   obtain⟨k,q,hk,rfl,rfl,hall⟩:=hrel;have HALL:=CY <| hall
   by_cases hlt:k<16
   ·have hlt':(k:Int)<16:=AJ
    have c1':=HC1.o k hlt;have c2':=HC2.o k hlt;have HXY:AO (∀ d e:Int,xs.getD k 0=d->ys.getD k 0=e->d=e->∀ i,i<k+1->xs.getD i 0=ys.getD i 0):=λd e h1 h2 h3 i hi=>by
     by_cases h:i=k
     {subst h;rw[h1,h2,h3]};{exact HALL.o i AJ}
    have HNE:AO (xs.getD k 0≠ys.getD k 0->mB zs D=false):=λh=>by
     have:decide (mY zs<fp)=false:=Ac (λe=>h (HEQ.o.1 (HYP.o.2 e) k hlt));unfold mB;rw[this];simp
    by_cases hxy:xs.getD k 0=ys.getD k 0
    ·have HS:=CY <| HXY.o _ _ rfl rfl hxy
     rw[<-hxy] at c2';generalize xs.getD k 0=d at *;go_wp2
     go_quiet (fail)
     rw[Kt];go_wp2;go_roundw
     case rel=>exact⟨k+1,q+nq,AJ,by go_num,rfl,HS.o⟩
     case measure=>simp[intOf];omega
    ·have HR:=CY <| HNE.o hxy
     generalize xs.getD k 0=d at *;generalize ys.getD k 0=d' at *;have hdd:(d == d')=false:=by simpa using hxy
     have hdn:(d != d')=true:=by simpa using hxy
     go_wp2
     go_quiet (fail)
     rw[Kt];have HPQ:AO (EM (w2.drewN (q+nq)) w.heap.size #[aM aS 0 0,aM aS 0 0,aM aS 0 0,aM aS 0 0]):=HP2.o;have HBQ:AO (Below w.heap.size w (w2.drewN (q+nq))):=⟨HB2.o.os,HB2.o.tape,HB2.o.output,HB2.o.size,HB2.o.block⟩
     generalize w2.drewN (q+nq)=w5 at *;go_wp2_with (first
      |(refine Cc rfl (ah 5) (ah 33) rfl w.heap.size _ _ _ _ _ rfl rfl rfl rfl rfl rfl rfl HPQ.o ?_)
      |fail)
     intro wxa hpx hwx;have HPX:=CY <| hpx
     have HBX:=CY <| HBQ.o.trans (hwx.below Ch)
     go_wp2;refine AU (v:=.tuple #[ae false,af #[aM aS 0 0,aM aS 0 0,aM aS 0 0,aM aS 0 0]]) (D3 rfl _ _ w.heap.size _ _ _ _ _ rfl rfl HPX.o) rfl ⟨_,_,_,_,by rw[HR.o],HBX.o,by exact⟨rfl,rfl,rfl,rfl⟩,λh=>?_⟩;rw[HR.o] at h;cases h
   ·have HYL:=CY <| HYP.o.1 (HEQ.o.2 (λi hi=>HALL.o i AJ))
    have hlt':¬ (k:Int)<16:=AJ
    have HP3:AO (EM (w2.drewN q) w.heap.size #[aM aS 0 0,aM aS 0 0,aM aS 0 0,aM aS 0 0]):=HP2.o;have HB3:AO (Below w.heap.size w (w2.drewN q)):=⟨HB2.o.os,HB2.o.tape,HB2.o.output,HB2.o.size,HB2.o.block⟩
    have HF3:AO (Cy (w2.drewN q) (aR ⟨gy,0,aS⟩) (mY zs)):=by
     have h:=HFY.o;rw[<-HYP.o.2 HYL.o] at h;exact h
    have hsq:w2.heap.size<=(w2.drewN q).heap.size:=Aa _;generalize w2.drewN q=w3 at *;go_wp2_with fail;have hgl3:=HP3.o.lt;have hg3:gy<w3.heap.size:=AJ
    refine(SJ _ a' cy cap' (mY zs) D _ HF3.o (HD0.o.below HB3.o)).mono ?_;rintro e w4 ⟨gx,cx,rfl,kx,lx,hfx,hb4⟩;have HP4:=CY <| HP3.o.below hb4 HP3.o.lt
    have HB4:=CY <| HB3.o.trans (hb4.mono HB3.o.size)
    have HF4:=CY <| HF3.o.below hb4
    have HX4:=CY <| hfx
    have hgx:w.heap.size<gx:=AJ
    cases hok:Lg (mY zs) D
    ·have HR:AO (mB zs D=false):=by
      show _=_
      unfold mB;rw[hok];simp
     go_wp2_with (first
      |(refine Cc rfl (ah 5) (ah 42) rfl w.heap.size _ _ _ _ _ rfl rfl rfl rfl rfl rfl rfl HP4.o ?_)
      |fail)
     intro wxb hpx hwx;have HPX:=CY <| hpx
     have HBX:=CY <| HB4.o.trans (hwx.below Ch)
     go_wp2;refine AU (v:=.tuple #[ae false,af #[aM aS 0 0,aM aS 0 0,aM aS 0 0,aM aS 0 0]]) (D3 rfl _ _ w.heap.size _ _ _ _ _ rfl rfl HPX.o) rfl ⟨_,_,_,_,by rw[HR.o],HBX.o,by exact⟨rfl,rfl,rfl,rfl⟩,λh=>?_⟩;rw[HR.o] at h;cases h
    ·obtain⟨bb,off,rfl,hbb,hcc⟩:=(HA0.o.below HB4.o).get (AG H32.o);have c31:=hcc 31 (AG H32.o);obtain⟨q0,q1⟩:=HZ.o.get 31;have HMB:AO (mB zs D=!(mO zs == 1 && decide (GE (mY zs) D=0%fp))):=by
      show _=_
      unfold mB;rw[hok,HLN.o,Aj HYL.o];simp
     have HMO:AO (mO zs=zs.getD 31 0/128):=rfl;generalize zs.getD 31 0=d31 at *;have htd:d31.tdiv 128=d31/128:=Int.tdiv_eq_ediv_of_nonneg q0;have hi31:(31:Int)<(n:Int):=AG H32.o
     have hwd:IntKind.i64.wrap (d31/128)=d31/128:=by rw[Ak];omega
     have hwu:IntKind.u8.wrap (d31/128)=d31/128:=by rw[IntKind.wrap_u8];omega
     by_cases hod:128<=d31
     ·have hd1:d31/128=1:=AJ
      have HOD:=CY <| hd1
      go_wp2_with fail;refine(DA 0 _ AK AK).mono ?_;rintro e w5 ⟨g5,c5,rfl,k5,l5,hf5,hb5⟩;have HP5:=CY <| HP4.o.below hb5 HP4.o.lt
      have HB5:=CY <| HB4.o.trans (hb5.mono HB4.o.size)
      have HF5:=CY <| HF4.o.below hb5
      have HX5:=CY <| HX4.o.below hb5
      have hlt5:=HP5.o.lt;have H05:=CY <| hf5
      go_wp2_with fail;refine(I9 _ _ cx c5 (GE (mY zs) D) (0%fp) _ HX5.o H05.o).mono ?_;rintro e w6 ⟨rfl,hb6⟩;have HP6:=CY <| HP5.o.below hb6 HP5.o.lt
      have HB6:=CY <| HB5.o.trans (hb6.mono HB5.o.size)
      have HF6:=CY <| HF5.o.below hb6
      have HX6:=CY <| HX5.o.below hb6
      have hlt6:=HP6.o.lt;by_cases hz0:GE (mY zs) D=0%fp
      ·have HR:AO (mB zs D=false):=by
        show _=_
        rw[HMB.o,HMO.o,HOD.o,Aj hz0];rfl
       rw[Aj hz0];go_wp2_with (first
        |(refine Cc rfl (ah 5) (ah 55) rfl w.heap.size _ _ _ _ _ rfl rfl rfl rfl rfl rfl rfl HP6.o ?_)
        |fail)
       intro wxc hpx hwx;have HPX:=CY <| hpx
       have HBX:=CY <| HB6.o.trans (hwx.below Ch)
       go_wp2;refine AU (v:=.tuple #[ae false,af #[aM aS 0 0,aM aS 0 0,aM aS 0 0,aM aS 0 0]]) (D3 rfl _ _ w.heap.size _ _ _ _ _ rfl rfl HPX.o) rfl ⟨_,_,_,_,by rw[HR.o],HBX.o,by exact⟨rfl,rfl,rfl,rfl⟩,λh=>?_⟩;rw[HR.o] at h;cases h
      ·have HMT:AO (mB zs D=true):=by
        show _=_
        rw[HMB.o,HMO.o,HOD.o,Ac hz0];rfl
       rw[Ac hz0];go_wp2_with fail;refine(Eb _ cx (GE (mY zs) D) _ HX6.o).mono ?_;rintro e wl ⟨g6,c6,rfl,k6,l6,hl6,hb6⟩;have HPL:=CY <| HP6.o.below hb6 HP6.o.lt
       have HBL:=CY <| HB6.o.trans (hb6.mono HB6.o.size)
       have HFL:=CY <| HF6.o.below hb6
       have HXL:=CY <| HX6.o.below hb6
       have hltL:=HPL.o.lt;obtain⟨ds,hA6,hs1,hs2,hs3⟩:=hl6;have c60:wl.cell? ⟨g6,0,aS⟩=aR (aO .i64 (ds.getD 0 0)):=by
        obtain⟨b,o,e,_,h⟩:=hA6.get AJ;cases e;exact h 0 AJ
       have hpar:ds.getD 0 0%2=GE (mY zs) D%2:=by rw[<-hs3];exact(Lm ds hs1).symm
       have HPAR:=CY <| hpar
       obtain⟨e0,e1⟩:=hs2 0;generalize ds.getD 0 0=dd at *;have htm:dd.tmod 2=dd%2:=Ah e0;by_cases hpp:dd%2=1
       ·have HMX:AO (mX zs D=GE (mY zs) D):=by
         show _=_
         unfold mX;rw[AP (by rw[HMO.o,<-HPAR.o,hpp,HOD.o])]
        go_wp2_with fail;refine(E0 _ _ cx cy (GE (mY zs) D) (mY zs) _ HXL.o HFL.o).mono ?_;rintro e wa ⟨gz,cz,gt,ct,rfl,hfz,hft,hba,hz1,hz2⟩;have HPA:=CY <| HPL.o.below hba HPL.o.lt
        have HBA:=CY <| HBL.o.trans (hba.mono HBL.o.size)
        have HFA:=CY <| HFL.o.below hba
        have HXA:=CY <| HXL.o.below hba
        have hltA:=HPA.o.lt;have HZA:AO (Cy wa (aR ⟨gz,0,aS⟩) (1%fp)/\Cy wa (aR ⟨gt,0,aS⟩) (GE (mY zs) D*mY zs%fp)):=⟨hfz,hft⟩
        have hnz:gz≠w.heap.size/\gt≠w.heap.size/\gx≠w.heap.size/\gy≠w.heap.size:=AJ
        have HNZ:=CY <| hnz
        go_wp2_with (first
         |(refine Cc rfl (ah 5) (ah 68) rfl w.heap.size _ _ _ _ _ rfl rfl rfl rfl rfl rfl rfl HPA.o ?_)
         |fail)
        intro wb hpb hwb;have HPB:=CY <| hpb
        have HALLB:AO (Below w.heap.size w wb/\Cy wb (aR ⟨gx,0,aS⟩) (mX zs D)/\Cy wb (aR ⟨gy,0,aS⟩) (mY zs)/\Cy wb (aR ⟨gz,0,aS⟩) (1%fp)/\Cy wb (aR ⟨gt,0,aS⟩) (mX zs D*mY zs%fp)):=by
         rw[HMX.o];exact⟨HBA.o.trans (hwb.below Ch),HXA.o.wr hwb HNZ.o.2.2.1,HFA.o.wr hwb HNZ.o.2.2.2,HZA.o.1.wr hwb HNZ.o.1,HZA.o.2.wr hwb HNZ.o.2.1⟩
        go_wp2;exact AU (v:=.tuple #[ae true,af #[aM (aR ⟨gx,0,aS⟩) 16 cx,aM (aR ⟨gy,0,aS⟩) 16 cy,aM (aR ⟨gz,0,aS⟩) 16 cz,aM (aR ⟨gt,0,aS⟩) 16 ct]]) (D3 rfl _ _ w.heap.size _ _ _ _ _ rfl rfl HPB.o) rfl ⟨_,_,_,_,by rw[HMT.o],HALLB.o.1,by exact⟨rfl,rfl,rfl,rfl⟩,λ_=>⟨gx,cx,gy,cy,gz,cz,gt,ct,rfl,rfl,rfl,rfl,HALLB.o.2.1,HALLB.o.2.2.1,HALLB.o.2.2.2.1,HALLB.o.2.2.2.2⟩⟩
       ·have hpq:dd%2=0:=AJ
        have HMX:AO (mX zs D=(0%fp-GE (mY zs) D)%fp):=by
         show _=_
         unfold mX;rw[AQ (by rw[HMO.o,<-HPAR.o,hpq,HOD.o];decide)]
        go_wp2_with fail;refine(DA 0 _ AK AK).mono ?_;rintro e wm ⟨g7,c7,rfl,k7,l7,hf7,hb7⟩;have HPM:=CY <| HPL.o.below hb7 HPL.o.lt
        have HBM:=CY <| HBL.o.trans (hb7.mono HBL.o.size)
        have HFM:=CY <| HFL.o.below hb7
        have HXM:=CY <| HXL.o.below hb7
        have hltM:=HPM.o.lt;have H07:=CY <| hf7
        go_wp2_with fail;refine(Fs _ _ c7 cx (0%fp) (GE (mY zs) D) _ H07.o HXM.o).mono ?_;rintro e wn ⟨g8,c8,rfl,k8,l8,hf8,hb8⟩;have HPN0:=CY <| HPM.o.below hb8 HPM.o.lt
        have HBN0:=CY <| HBM.o.trans (hb8.mono HBM.o.size)
        have HFN0:=CY <| HFM.o.below hb8
        have HXN0:=CY <| HXM.o.below hb8
        have hltN0:=HPN0.o.lt;have HPN:=CY <| HPN0.o
        have HBN:=CY <| HBN0.o
        have HFN:=CY <| HFN0.o
        have HXN:=CY <| hf8
        have hg8:w.heap.size<g8:=AJ
        go_wp2_with fail;refine(E0 _ _ c8 cy ((0%fp-GE (mY zs) D)%fp) (mY zs) _ HXN.o HFN.o).mono ?_;rintro e wa ⟨gz,cz,gt,ct,rfl,hfz,hft,hba,hz1,hz2⟩;have HPA:=CY <| HPN.o.below hba HPN.o.lt
        have HBA:=CY <| HBN.o.trans (hba.mono HBN.o.size)
        have HFA:=CY <| HFN.o.below hba
        have HXA:=CY <| HXN.o.below hba
        have hltA:=HPA.o.lt;have HZA:AO (Cy wa (aR ⟨gz,0,aS⟩) (1%fp)/\Cy wa (aR ⟨gt,0,aS⟩) ((0%fp-GE (mY zs) D)%fp*mY zs%fp)):=⟨hfz,hft⟩
        have hnz:gz≠w.heap.size/\gt≠w.heap.size/\g8≠w.heap.size/\gy≠w.heap.size:=AJ
        have HNZ:=CY <| hnz
        go_wp2_with (first
         |(refine Cc rfl (ah 5) (ah 68) rfl w.heap.size _ _ _ _ _ rfl rfl rfl rfl rfl rfl rfl HPA.o ?_)
         |fail)
        intro wb hpb hwb;have HPB:=CY <| hpb
        have HALLB:AO (Below w.heap.size w wb/\Cy wb (aR ⟨g8,0,aS⟩) (mX zs D)/\Cy wb (aR ⟨gy,0,aS⟩) (mY zs)/\Cy wb (aR ⟨gz,0,aS⟩) (1%fp)/\Cy wb (aR ⟨gt,0,aS⟩) (mX zs D*mY zs%fp)):=by
         rw[HMX.o];exact⟨HBA.o.trans (hwb.below Ch),HXA.o.wr hwb HNZ.o.2.2.1,HFA.o.wr hwb HNZ.o.2.2.2,HZA.o.1.wr hwb HNZ.o.1,HZA.o.2.wr hwb HNZ.o.2.1⟩
        go_wp2;exact AU (v:=.tuple #[ae true,af #[aM (aR ⟨g8,0,aS⟩) 16 c8,aM (aR ⟨gy,0,aS⟩) 16 cy,aM (aR ⟨gz,0,aS⟩) 16 cz,aM (aR ⟨gt,0,aS⟩) 16 ct]]) (D3 rfl _ _ w.heap.size _ _ _ _ _ rfl rfl HPB.o) rfl ⟨_,_,_,_,by rw[HMT.o],HALLB.o.1,by exact⟨rfl,rfl,rfl,rfl⟩,λ_=>⟨g8,c8,gy,cy,gz,cz,gt,ct,rfl,rfl,rfl,rfl,HALLB.o.2.1,HALLB.o.2.2.1,HALLB.o.2.2.2.1,HALLB.o.2.2.2.2⟩⟩
     ·have hd0:d31/128=0:=AJ
      have HOD:=CY <| hd0
      have HMT:AO (mB zs D=true):=by
       show _=_
       rw[HMB.o,HMO.o,HOD.o];rfl
      go_wp2_with fail;refine(Eb _ cx (GE (mY zs) D) _ HX4.o).mono ?_;rintro e wl ⟨g6,c6,rfl,k6,l6,hl6,hb6⟩;have HPL:=CY <| HP4.o.below hb6 HP4.o.lt
      have HBL:=CY <| HB4.o.trans (hb6.mono HB4.o.size)
      have HFL:=CY <| HF4.o.below hb6
      have HXL:=CY <| HX4.o.below hb6
      have hltL:=HPL.o.lt;obtain⟨ds,hA6,hs1,hs2,hs3⟩:=hl6;have c60:wl.cell? ⟨g6,0,aS⟩=aR (aO .i64 (ds.getD 0 0)):=by
       obtain⟨b,o,e,_,h⟩:=hA6.get AJ;cases e;exact h 0 AJ
      have hpar:ds.getD 0 0%2=GE (mY zs) D%2:=by rw[<-hs3];exact(Lm ds hs1).symm
      have HPAR:=CY <| hpar
      obtain⟨e0,e1⟩:=hs2 0;generalize ds.getD 0 0=dd at *;have htm:dd.tmod 2=dd%2:=Ah e0;by_cases hpp:dd%2=0
      ·have HMX:AO (mX zs D=GE (mY zs) D):=by
        show _=_
        unfold mX;rw[AP (by rw[HMO.o,<-HPAR.o,hpp,HOD.o])]
       go_wp2_with fail;refine(E0 _ _ cx cy (GE (mY zs) D) (mY zs) _ HXL.o HFL.o).mono ?_;rintro e wa ⟨gz,cz,gt,ct,rfl,hfz,hft,hba,hz1,hz2⟩;have HPA:=CY <| HPL.o.below hba HPL.o.lt
       have HBA:=CY <| HBL.o.trans (hba.mono HBL.o.size)
       have HFA:=CY <| HFL.o.below hba
       have HXA:=CY <| HXL.o.below hba
       have hltA:=HPA.o.lt;have HZA:AO (Cy wa (aR ⟨gz,0,aS⟩) (1%fp)/\Cy wa (aR ⟨gt,0,aS⟩) (GE (mY zs) D*mY zs%fp)):=⟨hfz,hft⟩
       have hnz:gz≠w.heap.size/\gt≠w.heap.size/\gx≠w.heap.size/\gy≠w.heap.size:=AJ
       have HNZ:=CY <| hnz
       go_wp2_with (first
        |(refine Cc rfl (ah 5) (ah 68) rfl w.heap.size _ _ _ _ _ rfl rfl rfl rfl rfl rfl rfl HPA.o ?_)
        |fail)
       intro wb hpb hwb;have HPB:=CY <| hpb
       have HALLB:AO (Below w.heap.size w wb/\Cy wb (aR ⟨gx,0,aS⟩) (mX zs D)/\Cy wb (aR ⟨gy,0,aS⟩) (mY zs)/\Cy wb (aR ⟨gz,0,aS⟩) (1%fp)/\Cy wb (aR ⟨gt,0,aS⟩) (mX zs D*mY zs%fp)):=by
        rw[HMX.o];exact⟨HBA.o.trans (hwb.below Ch),HXA.o.wr hwb HNZ.o.2.2.1,HFA.o.wr hwb HNZ.o.2.2.2,HZA.o.1.wr hwb HNZ.o.1,HZA.o.2.wr hwb HNZ.o.2.1⟩
       go_wp2;exact AU (v:=.tuple #[ae true,af #[aM (aR ⟨gx,0,aS⟩) 16 cx,aM (aR ⟨gy,0,aS⟩) 16 cy,aM (aR ⟨gz,0,aS⟩) 16 cz,aM (aR ⟨gt,0,aS⟩) 16 ct]]) (D3 rfl _ _ w.heap.size _ _ _ _ _ rfl rfl HPB.o) rfl ⟨_,_,_,_,by rw[HMT.o],HALLB.o.1,by exact⟨rfl,rfl,rfl,rfl⟩,λ_=>⟨gx,cx,gy,cy,gz,cz,gt,ct,rfl,rfl,rfl,rfl,HALLB.o.2.1,HALLB.o.2.2.1,HALLB.o.2.2.2.1,HALLB.o.2.2.2.2⟩⟩
      ·have hpq:dd%2=1:=AJ
       have HMX:AO (mX zs D=(0%fp-GE (mY zs) D)%fp):=by
        show _=_
        unfold mX;rw[AQ (by rw[HMO.o,<-HPAR.o,hpq,HOD.o];decide)]
       go_wp2_with fail;refine(DA 0 _ AK AK).mono ?_;rintro e wm ⟨g7,c7,rfl,k7,l7,hf7,hb7⟩;have HPM:=CY <| HPL.o.below hb7 HPL.o.lt
       have HBM:=CY <| HBL.o.trans (hb7.mono HBL.o.size)
       have HFM:=CY <| HFL.o.below hb7
       have HXM:=CY <| HXL.o.below hb7
       have hltM:=HPM.o.lt;have H07:=CY <| hf7
       go_wp2_with fail;refine(Fs _ _ c7 cx (0%fp) (GE (mY zs) D) _ H07.o HXM.o).mono ?_;rintro e wn ⟨g8,c8,rfl,k8,l8,hf8,hb8⟩;have HPN0:=CY <| HPM.o.below hb8 HPM.o.lt
       have HBN0:=CY <| HBM.o.trans (hb8.mono HBM.o.size)
       have HFN0:=CY <| HFM.o.below hb8
       have HXN0:=CY <| HXM.o.below hb8
       have hltN0:=HPN0.o.lt;have HPN:=CY <| HPN0.o
       have HBN:=CY <| HBN0.o
       have HFN:=CY <| HFN0.o
       have HXN:=CY <| hf8
       have hg8:w.heap.size<g8:=AJ
       go_wp2_with fail;refine(E0 _ _ c8 cy ((0%fp-GE (mY zs) D)%fp) (mY zs) _ HXN.o HFN.o).mono ?_;rintro e wa ⟨gz,cz,gt,ct,rfl,hfz,hft,hba,hz1,hz2⟩;have HPA:=CY <| HPN.o.below hba HPN.o.lt
       have HBA:=CY <| HBN.o.trans (hba.mono HBN.o.size)
       have HFA:=CY <| HFN.o.below hba
       have HXA:=CY <| HXN.o.below hba
       have hltA:=HPA.o.lt;have HZA:AO (Cy wa (aR ⟨gz,0,aS⟩) (1%fp)/\Cy wa (aR ⟨gt,0,aS⟩) ((0%fp-GE (mY zs) D)%fp*mY zs%fp)):=⟨hfz,hft⟩
       have hnz:gz≠w.heap.size/\gt≠w.heap.size/\g8≠w.heap.size/\gy≠w.heap.size:=AJ
       have HNZ:=CY <| hnz
       go_wp2_with (first
        |(refine Cc rfl (ah 5) (ah 68) rfl w.heap.size _ _ _ _ _ rfl rfl rfl rfl rfl rfl rfl HPA.o ?_)
        |fail)
       intro wb hpb hwb;have HPB:=CY <| hpb
       have HALLB:AO (Below w.heap.size w wb/\Cy wb (aR ⟨g8,0,aS⟩) (mX zs D)/\Cy wb (aR ⟨gy,0,aS⟩) (mY zs)/\Cy wb (aR ⟨gz,0,aS⟩) (1%fp)/\Cy wb (aR ⟨gt,0,aS⟩) (mX zs D*mY zs%fp)):=by
        rw[HMX.o];exact⟨HBA.o.trans (hwb.below Ch),HXA.o.wr hwb HNZ.o.2.2.1,HFA.o.wr hwb HNZ.o.2.2.2,HZA.o.1.wr hwb HNZ.o.1,HZA.o.2.wr hwb HNZ.o.2.1⟩
       go_wp2;exact AU (v:=.tuple #[ae true,af #[aM (aR ⟨g8,0,aS⟩) 16 c8,aM (aR ⟨gy,0,aS⟩) 16 cy,aM (aR ⟨gz,0,aS⟩) 16 cz,aM (aR ⟨gt,0,aS⟩) 16 ct]]) (D3 rfl _ _ w.heap.size _ _ _ _ _ rfl rfl HPB.o) rfl ⟨_,_,_,_,by rw[HMT.o],HALLB.o.1,by exact⟨rfl,rfl,rfl,rfl⟩,λ_=>⟨g8,c8,gy,cy,gz,cz,gt,ct,rfl,rfl,rfl,rfl,HALLB.o.2.1,HALLB.o.2.2.1,HALLB.o.2.2.2.1,HALLB.o.2.2.2.2⟩⟩
 ·have h32':((n:Int) == 32)=false:=by simp;omega
  have HR:AO (mB zs D=false):=by
   show _=_
   unfold mB;have:(zs.length == 32)=false:=by simp;omega
   rw[this];rfl
  have HB0:=CY <| b0
  go_enter func61,ntmps61;go_wp2_with (first
   |(refine Cc rfl (ah 5) (ah 15) rfl w.heap.size _ _ _ _ _ rfl rfl rfl rfl rfl rfl rfl HP0.o ?_)
   |fail)
  intro w3 hp3 hw3;have HP3:=CY <| hp3
  have HB3:AO (Below w.heap.size w w3):=HB0.o.trans (hw3.below Ch);go_wp2;refine AU (v:=.tuple #[ae false,af #[aM aS 0 0,aM aS 0 0,aM aS 0 0,aM aS 0 0]]) (D3 rfl _ _ w.heap.size _ _ _ _ _ rfl rfl HP3.o) rfl ⟨_,_,_,_,by rw[HR.o],HB3.o,by exact⟨rfl,rfl,rfl,rfl⟩,λh=>?_⟩;rw[HR.o] at h;cases h
def Jg (zs:List Int):List Int:=(EG zs).set zs.length 128
def Hy (bs:List Int) (n:Int):List Int:=P9 (P9 bs 112 (n/2^61) 8) 120 (IntKind.u64.wrap (n*8)) 8
def Ig (hs zs:List Int) (n:Int):List Int:=
 if zs.length<112 then EL hs (Hy (Jg zs) n) else EL (EL hs (Jg zs)) (Hy (List.replicate 128 0) n)
theorem GY (zs:List Int):(Jg zs).length=128:=by unfold Jg;rw[List.length_set,EA]
theorem Mi {bs:List Int} (h:Cb bs) (o:Nat) (v:Int) (k:Nat):Cb (P9 bs o v k):=by
 induction k with
 |zero=>exact h
 |succ k ih=>
  intro z hz;rcases List.mem_or_eq_of_mem_set hz with h'|rfl
  {exact ih z h'};{omega}
theorem Mj {zs:List Int} (h:Cb zs):Cb (Jg zs):=by
 intro z hz;rcases List.mem_or_eq_of_mem_set hz with h'|rfl
 ·exact J6 h z h'
 ·exact⟨AK,AK⟩
theorem Ih {bs:List Int} (h:bs.length=128) (n:Int):(Hy bs n).length=128:=by unfold Hy;rw[Hl,Hl,h]
theorem K3 {bs:List Int} (h:Cb bs) (n:Int):Cb (Hy bs n):=Mi (Mi h _ _ _) _ _ _
theorem QT (n:Nat):Cb (List.replicate n 0):=λz h=>by rw[(List.mem_replicate.1 h).2];exact⟨AK,AK⟩
theorem SP (l:Nat) (J:Act->aV->Prop) (Q:Exit->Act->aV->Prop) (a:Act) (w:aV):Exit.jump l J Q .ret a w=Q .ret a w:=rfl
theorem Ln {P:Program} {a:Act} {w:aV} {Q:Exit->Act->aV->Prop} {c r0 r1:Code} (J0 J1:Act->aV->Prop) (h0:findLabel c 0=aR r0) (h1:findLabel c 1=aR r1)
  (first:c.wp P (Exit.jump 0 J0 Q) a w) (p0:∀ a w,J0 a w->r0.wp P (Exit.jump 1 J1 Q) a w) (p1:∀ a w,J1 a w->r1.wp P (Exit.jump 0 (λ_ _=>False) Q) a w):(Code.scope c).wp P Q a w:=by
 intro b k cs;have hg0:gotoIn 0 (.inScope c::k)=aR (.code r0::.inScope c::k):=by simp[gotoIn,h0]
 have hg1:gotoIn 1 (.inScope c::k)=aR (.code r1::.inScope c::k):=by simp[gotoIn,h1]
 have k1:∀ a w,J1 a w->∃ e a' w',Q e a' w'/\Arrives P (lone (b.at a (.code r1::.inScope c::k)) cs w) b k cs e a' w':=by
  intro a w hJ;obtain⟨e,a₁,w₁,hq,harr⟩:=p1 a w hJ b (.inScope c::k) cs;cases e with
  |normal=>exact⟨.normal,a₁,w₁,hq,Steps.trans harr (.one step_inScope)⟩
  |exit id=>exact⟨.exit id,a₁,w₁,hq,λk' hk=>harr k' (by simp[exitTo,hk])⟩
  |goto l'=>exact absurd hq.2 id
  |ret=>exact⟨_,a₁,w₁,hq,harr⟩
  |panic ch=>exact⟨_,a₁,w₁,hq,harr⟩
  |outgrown=>exact⟨_,a₁,w₁,hq,harr⟩
 have k0:∀ a w,J0 a w->∃ e a' w',Q e a' w'/\Arrives P (lone (b.at a (.code r0::.inScope c::k)) cs w) b k cs e a' w':=by
  intro a w hJ;obtain⟨e,a₁,w₁,hq,harr⟩:=p0 a w hJ b (.inScope c::k) cs;cases e with
  |normal=>exact⟨.normal,a₁,w₁,hq,Steps.trans harr (.one step_inScope)⟩
  |exit id=>exact⟨.exit id,a₁,w₁,hq,λk' hk=>harr k' (by simp[exitTo,hk])⟩
  |goto l'=>
   obtain⟨rfl,hJ'⟩:=hq;obtain⟨e₂,a₂,w₂,hq₂,harr₂⟩:=k1 a₁ w₁ hJ';exact⟨e₂,a₂,w₂,hq₂,.of_steps (harr _ hg1) harr₂⟩
  |ret=>exact⟨_,a₁,w₁,hq,harr⟩
  |panic ch=>exact⟨_,a₁,w₁,hq,harr⟩
  |outgrown=>exact⟨_,a₁,w₁,hq,harr⟩
 obtain⟨e,a₁,w₁,hq,harr⟩:=first b (.inScope c::k) cs
 cases e with
 |normal=>exact⟨.normal,a₁,w₁,hq,.head step_scope (Steps.trans harr (.one step_inScope))⟩
 |exit id=>exact⟨.exit id,a₁,w₁,hq,λk' hk=>.head step_scope (harr k' (by simp[exitTo,hk]))⟩
 |goto l'=>
  obtain⟨rfl,hJ'⟩:=hq;obtain⟨e₂,a₂,w₂,hq₂,harr₂⟩:=k0 a₁ w₁ hJ';exact⟨e₂,a₂,w₂,hq₂,.of_steps (.head step_scope (harr _ hg0)) harr₂⟩
 |ret=>exact⟨_,a₁,w₁,hq,.of_steps (.one step_scope) harr⟩
 |panic ch=>exact⟨_,a₁,w₁,hq,.of_steps (.one step_scope) harr⟩
 |outgrown=>exact⟨_,a₁,w₁,hq,.of_steps (.one step_scope) harr⟩
structure FS (w:aV) (g gL:Nat) (hs bs:List Int) (y:aV):Prop where
 row:Er y gL 178 bs
 wds:Cd y g 175 hs
 tab:EF y
 fr:MQ g w y
 hi:w.heap.size<=gL
theorem FS.mix {w:aV} {g gL:Nat} {hs hs' bs:List Int} {y y':aV} (h:FS w g gL hs bs y) (hg:g<w.heap.size) (h0:g≠1) (hr:Cd y' g 175 hs') (hf:MQ g y y'):FS w g gL hs' bs y':=
 ⟨hf.row h.row (AG h.hi),hr,h.tab.frg (λk hk e=>hf.block k hk AJ),h.fr.trans hf,h.hi⟩
theorem FS.put {w:aV} {g gL:Nat} {hs bs bs':List Int} {y y':aV} (h:FS w g gL hs bs y) (hg:g<w.heap.size) (h0:1<w.heap.size) (hr:Er y' gL 178 bs') (hw:Wr gL y y'):FS w g gL hs bs' y':=by
 have:=h.hi;exact⟨hr,hw.rowW h.wds AJ,h.tab.frg (λk hk e=>hw.block k AJ),⟨hw.os.trans h.fr.os,hw.tape.trans h.fr.tape,hw.output.trans h.fr.output,by rw[hw.size];exact h.fr.size,λk hk hkg=>(hw.block k AJ).trans (h.fr.block k hk hkg)⟩,h.hi⟩
theorem Um (g:Nat) (hs:List Int) (a:Option Addr) (n cap:Nat) (zs:List Int) (len:Int) (w:aV) (hr:Cd w g 175 hs) (h8:W8 hs) (hn:zs.length=n) (ha:At .u8 w a zs) (hz:Cb zs) (hm:n<128) (hT:EF w) (hg0:g≠1) (hu:EQ len) :
  Calls tP 134 #[aY (aR ⟨g,0,aS⟩),aM a n cap,aO .u64 len] w λe w'=>e=aQ (.tuple #[])/\Cd w' g 175 (Ig hs zs len)/\MQ g w w':=by
 have hV:=block_lt_of_cell (a:=⟨1,0,aS⟩) (hT 0 AK);have hgl:=hr.lt;have z1:=Rn;have z2:=O8;have z3:=Ro;have A:=CX (PD a n cap zs w hn ha AJ);have HR:=CX hr;have H8:=CX h8;have HT:=CX hT;have HU:=CX hu;have HZ:=CX hz;have HN:=CX hn;have hm':(n:Int)<128:=AJ
 by_cases hc:n<112
 ·have hc':(n:Int)<112:=AJ
  have HF:AO (Ig hs zs len=EL hs (Hy (Jg zs) len)):=by show _=_;unfold Ig;rw[HN.o,AP hc]
  go_enter func134,ntmps134
  go_step3
  go_wp2_with fail;refine A.o.mono ?_;rintro e w1 ⟨rfl,b1⟩;have HB1:=CX b1;have HZN:AO (Er (w1.alloc (aa I4 178)) w1.heap.size 178 (List.replicate 128 0)):=by show _=_;rw[AS,MN]
  have HAL:AO (Below w1.heap.size w1 (w1.alloc (aa I4 178))):=Cf.alloc Ch _;have HLB:=CX (EA zs);go_wp2_with (first
   |(refine EK rfl (ah 6) (ah 8) rfl Tryz.sizeBlk w1.heap.size (EG zs) (List.replicate 128 0) rfl rfl HLB.o AL HZN.o ?_)
   |fail)
  intro w2 hr2 hw2;have hs1:=HB1.o.size;have F2:FS w g w1.heap.size hs (EG zs) w2:=⟨hr2,hw2.rowW ((HR.o.below HB1.o hgl).below HAL.o AJ) AJ,((HT.o.frg (λk hk _=>HB1.o.block k hk)).frg (λk hk _=>HAL.o.block k hk)).frg (λk _ e=>hw2.block k AJ),
   ⟨hw2.os.trans (HAL.o.os.trans HB1.o.os),hw2.tape.trans (HAL.o.tape.trans HB1.o.tape),hw2.output.trans (HAL.o.output.trans HB1.o.output),by rw[hw2.size];exact Ai hs1 HAL.o.size,λk hk _=>(hw2.block k AJ).trans ((HAL.o.block k AJ).trans (HB1.o.block k hk))⟩,hs1⟩
  have hcl:=hr2.cell n (by rw[EA];exact hm);have hfz:=hr2.frozen n;have HS:AO (FS w g w1.heap.size hs (Jg zs) (w2.setCell ⟨w1.heap.size,n,aS⟩ (aO .u8 128))):=by
   have:=F2.put hgl hV (hr2.set n 128) ((Wr.refl _ _).setCell n _);unfold Jg;rw[HN.o];exact this
  obtain⟨w3,hw3⟩:∃ w3,w3=w2.setCell ⟨w1.heap.size,n,aS⟩ (aO .u8 128):=⟨_,rfl⟩
  rw[<-hw3] at HS;have HW3:=CX hw3;clear hw3
  go_upto_region 2 with fail
  rw[<-HW3.o];clear hcl hfz HW3 z1 z2 z3;go_wp2
  go_step3
  go_wp2_with fail;have B:=CX (MO w1.heap.size len (Jg zs) w3 HS.o.row (GY _) HU.o);refine B.o.mono ?_;rintro e w4 ⟨rfl,r4,b4⟩;have HS4:=CY <| HS.o.put hgl hV r4 b4
  have C:=CX (Je g w1.heap.size hs (Hy (Jg zs) len) w4 HS4.o.wds H8.o HS4.o.row (Ih (GY _) _) (K3 (Mj HZ.o) _) HS4.o.tab hg0);go_wp2_with fail;refine C.o.mono ?_;rintro e w5 ⟨rfl,r5,b5⟩;have HS5:AO (FS w g w1.heap.size (Ig hs zs len) (Hy (Jg zs) len) w5):=by rw[HF.o];exact HS4.o.mix hgl hg0 r5 b5
  go_wp2;rw[Exit.noGoto_ret];refine AU (results_none rfl _ _ _) rfl ?_;exact⟨rfl,HS5.o.wds,HS5.o.fr⟩
 ·have hc':¬ ((n:Int)<112):=AJ
  have HF:AO (Ig hs zs len=EL (EL hs (Jg zs)) (Hy (List.replicate 128 0) len)):=by show _=_;unfold Ig;rw[HN.o,AQ hc]
  go_enter func134,ntmps134;refine Ln
   (λa' w'=>∃ gL u3 u4 u5 u7 u8 u9 u10 u11 u12 u13 u14 u15 u16 u17 u18 u19 u20 u21,a'=⟨#[aY (aR ⟨g,0,aS⟩),aM a n cap,aO .u64 len,u3,u4,u5,aY (aR ⟨gL,0,aS⟩),u7,u8,u9,u10,u11,u12,u13,u14,u15,u16,u17,u18,u19,u20,u21],[]⟩/\FS w g gL hs (Jg zs) w')
   (λa' w'=>∃ gL u3 u4 u5 u7 u8 u9 u10 u11 u12 u13 u14 u15 u16 u17 u18 u19 u20 u21,a'=⟨#[aY (aR ⟨g,0,aS⟩),aM a n cap,aO .u64 len,u3,u4,u5,aY (aR ⟨gL,0,aS⟩),u7,u8,u9,u10,u11,u12,u13,u14,u15,u16,u17,u18,u19,u20,u21],[]⟩/\FS w g gL (EL hs (Jg zs)) (List.replicate 128 0) w')
   rfl rfl ?first ?p0 ?p1
  case first=>
   go_wp2_with fail;refine A.o.mono ?_;rintro e w1 ⟨rfl,b1⟩;have HB1:=CX b1;have HZN:AO (Er (w1.alloc (aa I4 178)) w1.heap.size 178 (List.replicate 128 0)):=by show _=_;rw[AS,MN]
   have HAL:AO (Below w1.heap.size w1 (w1.alloc (aa I4 178))):=Cf.alloc Ch _;have HLB:=CX (EA zs);go_wp2_with (first
    |(refine EK rfl (ah 6) (ah 8) rfl Tryz.sizeBlk w1.heap.size (EG zs) (List.replicate 128 0) rfl rfl HLB.o AL HZN.o ?_)
    |fail)
   intro w2 hr2 hw2;have hs1:=HB1.o.size;have F2:FS w g w1.heap.size hs (EG zs) w2:=⟨hr2,hw2.rowW ((HR.o.below HB1.o hgl).below HAL.o AJ) AJ,((HT.o.frg (λk hk _=>HB1.o.block k hk)).frg (λk hk _=>HAL.o.block k hk)).frg (λk _ e=>hw2.block k AJ),
    ⟨hw2.os.trans (HAL.o.os.trans HB1.o.os),hw2.tape.trans (HAL.o.tape.trans HB1.o.tape),hw2.output.trans (HAL.o.output.trans HB1.o.output),by rw[hw2.size];exact Ai hs1 HAL.o.size,λk hk _=>(hw2.block k AJ).trans ((HAL.o.block k AJ).trans (HB1.o.block k hk))⟩,hs1⟩
   have hcl:=hr2.cell n (by rw[EA];exact hm);have hfz:=hr2.frozen n;have HS:AO (FS w g w1.heap.size hs (Jg zs) (w2.setCell ⟨w1.heap.size,n,aS⟩ (aO .u8 128))):=by
    have:=F2.put hgl hV (hr2.set n 128) ((Wr.refl _ _).setCell n _);unfold Jg;rw[HN.o];exact this
   obtain⟨w3,hw3⟩:∃ w3,w3=w2.setCell ⟨w1.heap.size,n,aS⟩ (aO .u8 128):=⟨_,rfl⟩
   rw[<-hw3] at HS;have HW3:=CX hw3;clear hw3
   go_upto_region 2 with fail
   rw[<-HW3.o];clear hcl hfz HW3 z1 z2 z3;go_wp2
   go_step3
   exact⟨rfl,w1.heap.size,_,_,_,_,_,_,_,_,_,_,_,_,_,_,_,_,_,_,rfl,HS.o⟩
  case p0=>
   rintro a' w' ⟨gL,u3,u4,u5,u7,u8,u9,u10,u11,u12,u13,u14,u15,u16,u17,u18,u19,u20,u21,rfl,hs'⟩;have HS:=CX hs';have C:=CX (Je g gL hs (Jg zs) w' hs'.wds H8.o hs'.row (GY _) (Mj HZ.o) hs'.tab hg0);go_wp2_with fail;refine C.o.mono ?_;rintro e w5 ⟨rfl,r5,b5⟩;have HS5:=CY <| HS.o.mix hgl hg0 r5 b5
   go_wp2_with (first
    |(refine EK rfl (ah 6) (ah 21) rfl Tryz.sizeBlk gL (List.replicate 128 0) (Jg zs) rfl rfl AL (GY _) HS5.o.row ?_)
    |fail)
   intro w6 r6 b6;have HS6:=CY <| HS5.o.put hgl hV r6 b6
   go_wp2
   go_step3
   exact⟨rfl,gL,_,_,_,_,_,_,_,_,_,_,_,_,_,_,_,_,_,_,rfl,HS6.o⟩
  case p1=>
   rintro a' w' ⟨gL,u3,u4,u5,u7,u8,u9,u10,u11,u12,u13,u14,u15,u16,u17,u18,u19,u20,u21,rfl,hs'⟩;have HS:=CX hs';go_wp2_with fail;have B:=CX (MO gL len (List.replicate 128 0) w' HS.o.row AL HU.o);refine B.o.mono ?_;rintro e w4 ⟨rfl,r4,b4⟩;have HS4:=CY <| HS.o.put hgl hV r4 b4
   have C:=CX (Je g gL (EL hs (Jg zs)) (Hy (List.replicate 128 0) len) w4 HS4.o.wds (F5 _ _) HS4.o.row (Ih AL _) (K3 (QT _) _) HS4.o.tab hg0);go_wp2_with fail;refine C.o.mono ?_;rintro e w5 ⟨rfl,r5,b5⟩;have HS5:AO (FS w g gL (Ig hs zs len) (Hy (List.replicate 128 0) len) w5):=by rw[HF.o];exact HS4.o.mix hgl hg0 r5 b5
   go_wp2;rw[SP];refine AU (results_none rfl _ _ _) rfl ?_;exact⟨rfl,HS5.o.wds,HS5.o.fr⟩
end Go.Proofs.YtncomnkdlpoelaaGreatDoor
