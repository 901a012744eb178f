import Derived.Test.YtjdhhgaelgemcaaGreatDoorMEl
import Derived.Test.YtjdhhgaelgemcaaGreatDoorMSPow
open Go.Proofs.Tryz renaming prog->tP
open Go.Proofs.Tryz
open Go.Value renaming int->Z8,pointer->aF,agg->aH
open Go.Obj renaming cells->aJ
open Go.Ending renaming returned->aK
open Go.Operand renaming tmp->aM
open Option renaming some->aE,none->aA
open Go renaming World->aC
set_option maxHeartbeats 2000000
namespace Go.Proofs.YtjdhhgaelgemcaaGreatDoor
open Go.ChangeShapes Go.WideShapes Go.ChangeAt Go.RowKit
set_option linter.unusedVariables false
structure EL (w wr:aC) (R:List (Nat×List Int)) (E:List (Nat×Nat×List Int)):Prop where
 below:Below w.heap.size w wr
 rows:∀ r∈R,w.heap.size<=r.1/\Ch wr r.1 138 r.2/\Cs r.2
 order:R.Pairwise λa b=>b.1<a.1
 els:∀ e∈E,e.1<w.heap.size/\Dj wr e.1 e.2.1 e.2.2
theorem EL.start (w:aC) (E:List (Nat×Nat×List Int)) (h:∀ e∈E,Dj w e.1 e.2.1 e.2.2):EL w w [] E:=
 ⟨A9 _ _,AL,List.Pairwise.nil,λe he=>⟨(h e he).1,h e he⟩⟩
theorem EL.call {w wr w':aC} {R:List (Nat×List Int)} {E:List (Nat×Nat×List Int)} (h:EL w wr R E) (b:Below wr.heap.size wr w'):EL w w' R E:=
 ⟨h.below.trans (b.mono h.below.size),λr hr=>⟨(h.rows r hr).1,(h.rows r hr).2.1.below b (h.rows r hr).2.1.lt,(h.rows r hr).2.2⟩,h.order,λe he=>⟨(h.els e he).1,(h.els e he).2.below b⟩⟩
theorem EL.push {w wr w':aC} {R:List (Nat×List Int)} {E:List (Nat×Nat×List Int)} (h:EL w wr R E) (b:Below wr.heap.size wr w') {es:List Int} (hr:Ch w' wr.heap.size 138 es) (hk:Cs es) :
  EL w w' ((wr.heap.size,es)::R) E:=by
 have c:=h.call b;refine⟨c.below,?_,?_,c.els⟩
 ·intro r hm;rcases Aa.1 hm with rfl|hm
  ·exact⟨h.below.size,hr,hk⟩
  ·exact c.rows r hm
 ·exact List.Pairwise.cons (λr hm=>(h.rows r hm).2.1.lt) h.order
theorem FN:Cs [0,0,0,0,0]:=⟨rfl,λi=>by rcases i with _|_|_|_|_|i<;>simp,λi _=>by rcases i with _|_|_|_|_|i<;>simp,AK⟩
theorem EL.room {w wr:aC} {R:List (Nat×List Int)} {E:List (Nat×Nat×List Int)} (h:EL w wr R E) :
  EL w (wr.alloc (aJ CQ 138)) ((wr.heap.size,[0,0,0,0,0])::R) E:=
 h.push (Cx _ _) (Jo wr) FN
theorem EL.el {w wr:aC} {R:List (Nat×List Int)} {E:List (Nat×Nat×List Int)} (h:EL w wr R E) (i:Nat) (g o:Nat) (es:List Int) (hi:E[i]?=aE (g,o,es)):Dj wr g o es:=
 (h.els _ (List.mem_of_getElem? hi)).2
theorem EL.row {w wr:aC} {R:List (Nat×List Int)} {E:List (Nat×Nat×List Int)} (h:EL w wr R E) (i:Nat) (g:Nat) (es:List Int) (hi:R[i]?=aE (g,es)):Ch wr g 138 es:=
 (h.rows _ (List.mem_of_getElem? hi)).2.1
theorem EL.ok {w wr:aC} {R:List (Nat×List Int)} {E:List (Nat×Nat×List Int)} (h:EL w wr R E) (i:Nat) (g:Nat) (es:List Int) (hi:R[i]?=aE (g,es)):Cs es:=
 (h.rows _ (List.mem_of_getElem? hi)).2.2
theorem EL.re {w wr:aC} {R:List (Nat×List Int)} {E:List (Nat×Nat×List Int)} (h:EL w wr R E) (i:Nat) (g:Nat) (es:List Int) (hi:R[i]?=aE (g,es)):Dj wr g 0 es:=
 Dj.of_row (h.row i g es hi) (h.ok i g es hi)
theorem EL.put {w wr w':aC} {R:List (Nat×List Int)} {E:List (Nat×Nat×List Int)} (h:EL w wr R E) (i:Nat) (g:Nat) (zs es:List Int) (hi:R[i]?=aE (g,zs)) (hw:Wr g wr w') (hr:Ch w' g 138 es) (hk:Cs es) :
  EL w w' (R.set i (g,es)) E:=by
 have hg:w.heap.size<=g:=(h.rows _ (List.mem_of_getElem? hi)).1;have hil:i<R.length:=(Ao.1 hi).1;have hie:R[i]=(g,zs):=(Ao.1 hi).2;have ho:=List.pairwise_iff_getElem.1 h.order;refine⟨h.below.trans (hw.below hg),?_,?_,λe he=>⟨(h.els e he).1,(h.els e he).2.wr hw (AG (h.els e he).1)⟩⟩
 ·intro r hm;obtain⟨j,hj,rfl⟩:=Br hm;rw[List.length_set] at hj;rw[List.getElem_set];split
  ·exact⟨hg,hr,hk⟩
  ·rename_i hne
   have q:=h.rows _ (Bl hj);refine⟨q.1,hw.rowW q.2.1 ?_,q.2.2⟩;rcases Nat.lt_or_gt_of_ne hne with hlt|hgt
   ·have:=ho i j hil hj hlt;rw[hie] at this;simp only at this;omega
   ·have:=ho j i hj hil hgt;rw[hie] at this;simp only at this;omega
 ·rw[List.pairwise_iff_getElem];intro a b ha hb hab;rw[List.length_set] at ha hb;have:=ho a b ha hb hab;rw[List.getElem_set,List.getElem_set];split<;>split<;>simp_all
theorem Ew {w wr:aC} {R:List (Nat×List Int)} {E:List (Nat×Nat×List Int)} (S:EL w wr R E)
  {ops:Array Oper} {rest:List Oper} {o:Oper} {a:Act} {Q:Exit->Act->aC->Prop} (hgd:o.guard=aA) (x y:Operand) (ho:o.op=.store 138 x y)
  (es:List Int) (hx:a.eval x=aF (aE ⟨wr.heap.size,0,aA⟩)) (hy:a.eval y=aH (es.map (Value.int .u64)).toArray) (hk:Cs es)
  {wa:aC} (hwa:wa=wr.alloc (aJ CQ 138))
  (hK:∀ w',EL w w' ((wr.heap.size,es)::R) E->wpList tP ops Q rest (a.put o.dst undef) w') :
  wpList tP ops Q (o::rest) a wa:=by
 subst hwa;exact Co hgd x y ho wr.heap.size es [0,0,0,0,0] hx hy hk.1 rfl (Jo wr) λw' hr hw=>hK w' (S.push ((Cx _ _).trans (hw.below Cl)) hr hk)
theorem Dc {w wr:aC} {R:List (Nat×List Int)} {E:List (Nat×Nat×List Int)} (S:EL w wr R E)
  {ops:Array Oper} {rest:List Oper} {o:Oper} {a:Act} {Q:Exit->Act->aC->Prop} (hgd:o.guard=aA) (x y:Operand) (ho:o.op=.store 138 x y)
  (i g:Nat) (zs es:List Int) (hi:R[i]?=aE (g,zs)) (hx:a.eval x=aF (aE ⟨g,0,aA⟩)) (hy:a.eval y=aH (es.map (Value.int .u64)).toArray) (hk:Cs es)
  {wa:aC} (hwa:wa=wr)
  (hK:∀ w',EL w w' (R.set i (g,es)) E->wpList tP ops Q rest (a.put o.dst undef) w') :
  wpList tP ops Q (o::rest) a wa:=by
 subst hwa;exact Co hgd x y ho g es zs hx hy hk.1 (S.ok i g zs hi).1 (S.row i g zs hi) λw' hr hw=>hK w' (S.put i g zs es hi hw hr hk)
theorem EL.ret {w wr:aC} {R:List (Nat×List Int)} {E:List (Nat×Nat×List Int)} (S:EL w wr R E) {fn:Func} {p:Tmp} (h:fn.results=#[.cell p 138]) (tmps:Array Value)
  (i g:Nat) (es:List Int) (hi:R[i]?=aE (g,es)) (hp:tmps.getD p undef=aF (aE ⟨g,0,aA⟩)) :
  (results fn tmps).run tP wr=.ok (aH (es.map (Value.int .u64)).toArray) wr:=
 Nv h tmps wr g es (S.ok i g es hi).1 hp (S.row i g es hi)
def Wf (n:Nat):Nat:=2^n-1
def H9:Nat:=Wf 250
theorem Iw (g o:Nat) (xs:List Int) (w:aC) (h:Dj w g o xs) :
  Calls tP 160 #[aF (aE ⟨g,o,aA⟩),Z8 .i64 250] w (EP w (ev xs^H9%fp)):=SP 250 g o xs w AK AK h
theorem YH (x:Int) (m k r:Nat):GT (x^m%fp) k*(x^r%fp)%fp=x^(m*2^k+r)%fp:=by
 have b:0<=x^m%fp/\x^m%fp<fp:=by unfold fp;omega
 rw[Nw _ b.1 b.2,Gj,DL,<-Int.pow_add]
theorem SQ (x:Int) (h0:0<=x) (h1:x<fp):x^1%fp=x:=by
 rw[Int.pow_succ,Int.pow_zero,Int.one_mul];exact Int.emod_eq_of_lt h0 h1
theorem LR (g o:Nat) (xs:List Int) (w:aC) (h:Dj w g o xs) (v1 goalv:Int) (hv1:ev xs^H9%fp=v1) (hgoal:GT v1 2*ev xs%fp=goalv) :
  Calls tP 162 #[aF (aE ⟨g,o,aA⟩)] w (EP w goalv):=by
 have hev:=Gk xs;have HE:AO (GT v1 2*ev xs%fp=goalv):=hgoal;have HV1:AO (ev xs^H9%fp=v1):=hv1;have S0:=(EL.start w [(g,o,xs)] (λe he=>by rcases List.mem_singleton.1 he with rfl;exact h)).room;have HO:AO (EL w (w.alloc (aJ CQ 138)) [(w.heap.size,[0,0,0,0,0])] [(g,o,xs)]):=S0;clear S0 h hv1 hev hgoal;go_enter func162,ntmps162;go_wp2_with fail;refine(Iw g o xs _ (HO.o.el 0 _ _ _ rfl)).mono ?_;rintro e w1 ⟨es,hk,hv,rfl,b⟩;have HK1:AO (Cs es/\ev es=v1):=⟨hk,hv.trans HV1.o⟩
 have S1:=HO.o.call b;have H1:AO (EL w w1 [(w.heap.size,[0,0,0,0,0])] [(g,o,xs)]):=S1;clear S1 hk hv b HV1;go_wp2_with (first
  |(refine Ew H1.o rfl (aM 3) (aM 6) rfl es rfl rfl HK1.o.1 rfl ?_)
  |fail)
 intro w2 S2;have H2:AO (EL w w2 [(w1.heap.size,es),(w.heap.size,[0,0,0,0,0])] [(g,o,xs)]):=S2;clear S2 H1 HO;generalize w1.heap.size=G1 at *;go_wp2_with fail;refine(Dq G1 0 es 2 _ AK (H2.o.re 0 _ _ rfl)).mono ?_;rintro e w3 ⟨fs,hk,hv,rfl,b⟩;have HK2:AO (Cs fs/\ev fs=GT v1 2):=⟨hk,by rw[hv,HK1.o.2]⟩
 have H3:AO (EL w w3 [(G1,es),(w.heap.size,[0,0,0,0,0])] [(g,o,xs)]):=H2.o.call b;clear H2 hk hv b;go_wp2_with (first
  |(refine Ew H3.o rfl (aM 4) (aM 7) rfl fs rfl rfl HK2.o.1 rfl ?_)
  |fail)
 intro w4 S4;have H4:AO (EL w w4 [(w3.heap.size,fs),(G1,es),(w.heap.size,[0,0,0,0,0])] [(g,o,xs)]):=S4;clear S4 H3;generalize w3.heap.size=G2 at *;go_wp2_with fail;refine(Ct G2 0 g o fs xs _ (H4.o.re 0 _ _ rfl) (H4.o.el 0 _ _ _ rfl)).mono ?_;rintro e w5 ⟨us,hk,hv,rfl,b⟩;have HK3:AO (Cs us/\ev us=goalv):=⟨hk,by rw[hv,HK2.o.2];exact HE.o⟩
 have H5:AO (EL w w5 [(G2,fs),(G1,es),(w.heap.size,[0,0,0,0,0])] [(g,o,xs)]):=H4.o.call b;clear H4 hk hv b;go_wp2_with (first
  |(refine Dc H5.o rfl (aM 2) (aM 9) rfl 2 w.heap.size [0,0,0,0,0] us rfl rfl rfl HK3.o.1 rfl ?_)
  |fail)
 intro w6 S6;have H6:AO (EL w w6 [(G2,fs),(G1,es),(w.heap.size,us)] [(g,o,xs)]):=S6;clear S6 H5;go_wp2;exact Ab (v:=aH (us.map (Value.int .u64)).toArray) (H6.o.ret rfl _ 2 w.heap.size us rfl rfl) rfl ⟨us,HK3.o.1,HK3.o.2,rfl,H6.o.below⟩
theorem KC (g o:Nat) (xs:List Int) (w:aC) (h:Dj w g o xs) :
  Calls tP 162 #[aF (aE ⟨g,o,aA⟩)] w (EP w (ev xs^(H9*4+1)%fp)):=by
 have hev:=Gk xs;have e:=YH (ev xs) H9 2 1;rw[SQ _ hev.1 hev.2] at e;exact LR g o xs w h _ _ rfl e
def LS (xs:List Int):Int:=Dr C3 (xs.set 0 (xs.getD 0 0+19)) 5
def Fo (xs:List Int):List Int:=GS (xs.set 0 (xs.getD 0 0+19*LS xs)) 5
theorem JH (xs:List Int):J2 C3 (GS xs 5):=by
 intro z hz;obtain⟨i,hi,rfl⟩:=Br hz;have:=FF xs i;have e:(GS xs 5).getD i 0=(GS xs 5)[i]:=by simp[hi]
 rw[e] at this;unfold C3;exact this
theorem Er:fp=57896044618658097711785492504343953926634992332820282019728792003956564819949:=AK
theorem SS (xs:List Int):0<=val C3 (GS xs 5)/\val C3 (GS xs 5)<fp+19:=by
 have d:=JH xs;have a:=C0 (B:=C3) AK d;have b:=EZ (B:=C3) AK d;rw[Dn] at b;have e2:(C3:Int)^5=fp+19:=AK
 rw[e2] at b;exact⟨a,b⟩
theorem Cs.val {xs:List Int} (h:Cs xs):0<=val C3 xs/\val C3 xs<fp+19+256:=by
 obtain⟨hl,h0,h1,h2⟩:=h
 match xs,hl with
 |[a,b,c,d,e],_=>
  have a0:=h0 0;have b0:=h0 1;have c0:=h0 2;have d0:=h0 3;have e0:=h0 4;have b1:=h1 1 AK;have c1:=h1 2 AK;have d1:=h1 3 AK;have e1:=h1 4 AK;simp only[List.getD_cons_zero,List.getD_cons_succ] at a0 b0 c0 d0 e0 b1 c1 d1 e1 h2;simp only[Go.Proofs.YtjdhhgaelgemcaaGreatDoor.val,C3,Er];omega
theorem Ug (V t r L c:Int) (h1:r+t*(fp+19)=V+19) (h2:L+c*(fp+19)=V+19*t) (hr:0<=r/\r<fp+19) (hL:0<=L/\L<fp+19) (hV:0<=V/\V<fp+19+256) :
  0<=t/\t<=1/\L=V%fp:=by
 rw[Er] at *;have ht:t=0\/t=1:=AJ
 rcases ht with rfl|rfl
 ·have hc:c=0:=AJ
  subst hc;omega
 ·have hc:c=1:=AJ
  subst hc;omega
theorem FO {xs:List Int} (h:Cs xs):0<=LS xs/\LS xs<=1/\val C3 (Fo xs)=ev xs:=by
 have hl:=h.1;have s1:=LO (xs.set 0 (xs.getD 0 0+19)) (by simp[hl]);have s2:=LO (xs.set 0 (xs.getD 0 0+19*LS xs)) (by simp[hl]);rw[FJ _ _ _ _ AJ] at s1 s2;simp only[Int.pow_zero,Int.mul_one] at s1 s2;have hV:=h.val;have hr:=SS (xs.set 0 (xs.getD 0 0+19));have hL:=SS (xs.set 0 (xs.getD 0 0+19*LS xs));have e1:Dr C3 (xs.set 0 (xs.getD 0 0+19)) 5=LS xs:=rfl;rw[e1] at s1;unfold ev Fo;generalize Dr C3 (xs.set 0 (xs.getD 0 0+19*LS xs)) 5=c at *;generalize val C3 (GS (xs.set 0 (xs.getD 0 0+19*LS xs)) 5)=L at *;generalize val C3 (GS (xs.set 0 (xs.getD 0 0+19)) 5)=r at *;generalize xs.getD 0 0=x0 at *;generalize LS xs=t at *;generalize val C3 xs=V at *;exact Ug V t r L c AJ AJ hr hL hV
theorem Eg (xs:List Int):(Fo xs).length=5:=Dn _ _
theorem Nx (xs:List Int):Cs (Fo xs):=⟨Eg xs,λi=>(FF _ i).1,λi _=>(FF _ i).2,by have:=(FF (xs.set 0 (xs.getD 0 0+19*LS xs)) 0).2;unfold Fo;omega⟩
theorem Wg {xs ys:List Int} (hx:Cs xs) (hy:Cs ys):Fo xs=Fo ys↔ev xs=ev ys:=by
 constructor
 ·intro h;rw[<-(FO hx).2.2,<-(FO hy).2.2,h]
 ·intro h;exact F6 (B:=C3) AK (JH _) (JH _) (by rw[Eg,Eg]) (by rw[(FO hx).2.2,(FO hy).2.2,h])
theorem PB {xs:List Int} (h:Cs xs) (k:Int) (h0:0<=k) (h1:k<=19):Tj (xs.set 0 (xs.getD 0 0+k)):=by
 intro i;have hl:=h.1;rw[Cy _ _ _ _ AJ];have a:=h.2.1 i;have a0:=h.2.1 0;have b0:=h.2.2.2;split
 ·omega
 ·have b:=h.2.2.1 i AJ;omega
theorem Uh (es:List Int) (h:es.length=5):val C3 es%2=es.getD 0 0%2:=by
 match es,h with
 |[a,b,c,d,e],_=>
  simp only[Go.Proofs.YtjdhhgaelgemcaaGreatDoor.val,C3,List.getD_cons_zero];omega
theorem Es (g o:Nat) (xs:List Int) (w:aC) (h:Dj w g o xs) :
  Calls tP 124 #[aF (aE ⟨g,o,aA⟩)] w λe w'=>e=aK (aH ((Fo xs).map (Value.int .u64)).toArray)/\Below w.heap.size w w':=by
 have hk:=h.2.1;obtain⟨ht0,ht1,_⟩:=FO hk;have HX:AO (Cs xs):=hk;have HO:AO (EL w (w.alloc (aJ CQ 138)) [(w.heap.size,[0,0,0,0,0])] [(g,o,xs)]):=
  (EL.start w [(g,o,xs)] (λe he=>by rcases List.mem_singleton.1 he with rfl;exact h)).room
 have HN:AO (EL w ((w.alloc (aJ CQ 138)).alloc (aJ CQ 138)) [(w.heap.size+1,[0,0,0,0,0]),(w.heap.size,[0,0,0,0,0])] [(g,o,xs)]):=by
  have:=HO.o.room;rw[show(w.alloc (aJ CQ 138)).heap.size=w.heap.size+1 from by simp] at this;exact this
 clear h hk;go_enter func124,ntmps124;go_wp2_with (first
  |(refine DT rfl (aM 7) rfl g o xs rfl (HO.o.el 0 _ _ _ rfl) ?_)
  |(refine Dc HN.o rfl (aM 3) (aM 8) rfl 0 (w.heap.size+1) [0,0,0,0,0] xs rfl rfl rfl HX.o rfl ?_)
  |fail)
 intro w1 S1;clear HO HN;have hl:=HX.o.1;have hx0:=HX.o.2.1 0;have hx1:=HX.o.2.2.2;have r1:=S1.row 0 (w.heap.size+1) xs rfl;have z1:=S1.row 1 w.heap.size [0,0,0,0,0] rfl;have e1:=S1.el 0 g o xs rfl;have b1:=S1.below;have hgw:g<w.heap.size:=(S1.els (g,o,xs) AL).1;have c0:=r1.cell 0 AJ;have f0:=r1.frozen 0;have s1:PA w1 (w.heap.size+1) (xs.set 0 (xs.getD 0 0+19)) (w1.setCell ⟨w.heap.size+1,0,aA⟩ (Z8 .u64 (xs.getD 0 0+19))):=⟨r1.set 0 _,(Wr.refl _ _).setCell 0 _⟩
 have HU1:AO (Tj (xs.set 0 (xs.getD 0 0+19))):=PB HX.o 19 AK AK;have HU2:AO (Tj (xs.set 0 (xs.getD 0 0+19*LS xs))):=PB HX.o (19*LS xs) AJ AJ;have HT:AO (Dr C3 (xs.set 0 (xs.getD 0 0+19)) 5=LS xs):=rfl;have HL5:AO (xs.length=5):=hl;have HS1:AO (PA w1 (w.heap.size+1) (xs.set 0 (xs.getD 0 0+19)) (w1.setCell ⟨w.heap.size+1,0,aA⟩ (Z8 .u64 (xs.getD 0 0+19)))):=s1;have HLS:AO (GS (xs.set 0 (xs.getD 0 0+19*LS xs)) 5=Fo xs):=rfl;have HZ1:AO (Ch w1 w.heap.size 138 [0,0,0,0,0]):=z1;have HE1:AO (Dj w1 g o xs):=e1;have HB1:AO (Below w.heap.size w w1):=b1;have HXX:AO (xs.getD 0 0=xs.getD 0 0):=rfl;clear S1 r1 z1 e1 b1 s1 hl;have hxx:∃ x0,x0=xs.getD 0 0:=⟨_,rfl⟩
 obtain⟨x0,hx0e⟩:=hxx;rw[<-hx0e] at c0 hx0 hx1 HU1 HU2 HT HS1 HLS;have HX0:AO (x0=xs.getD 0 0):=hx0e;clear hx0e;go_wp2_with fail;generalize w1.setCell ⟨w.heap.size+1,0,aA⟩ (Z8 .u64 (x0+19))=w2 at *;refine(Hy (w.heap.size+1) (xs.set 0 (x0+19)) _ (by rw[List.length_set];exact HL5.o) HS1.o.row HU1.o).mono ?_;rintro e w3 ⟨rfl,st⟩;rw[HT.o];have W3:Wr (w.heap.size+1) w1 w3:=HS1.o.wr.trans st.wr;have HZ3:AO (Ch w3 w.heap.size 138 [0,0,0,0,0]):=W3.rowW HZ1.o AJ;have HE3:AO (Dj w3 g o xs):=HE1.o.wr W3 AJ;have HB3:AO (Below w.heap.size w w3):=HB1.o.trans (W3.below AJ);clear st W3 HS1 HZ1 HE1 HB1 HU1 HT c0 f0;have s3:=HB3.o.size;have HZN:AO (Ch (w3.alloc (aJ CQ 138)) w3.heap.size 138 [0,0,0,0,0]):=Jo w3;go_wp2_with (first
  |(refine DT rfl (aM 15) rfl g o xs rfl HE3.o ?_)
  |(refine Co rfl (aM 5) (aM 16) rfl w3.heap.size xs [0,0,0,0,0] rfl rfl HL5.o rfl HZN.o ?_)
  |fail)
 intro w4 r4 W4;have b4:Below w3.heap.size w3 w4:=(Cx _ _).trans (W4.below Cl);have hz3:=HZ3.o.lt;have HZ4:AO (Ch w4 w.heap.size 138 [0,0,0,0,0]):=HZ3.o.below b4 hz3;have HB4:AO (Below w.heap.size w w4):=HB3.o.trans (b4.mono s3);clear b4 W4 HZ3 HB3 HE3 HZN;generalize w3.heap.size=V at *;have c4:=r4.cell 0 (by rw[HL5.o];decide);have f4:=r4.frozen 0;rw[<-HX0.o] at c4;have HS4:AO (PA w4 V (xs.set 0 (x0+19*LS xs)) (w4.setCell ⟨V,0,aA⟩ (Z8 .u64 (x0+19*LS xs)))):=⟨r4.set 0 _,(Wr.refl _ _).setCell 0 _⟩
 clear r4;generalize LS xs=t at *;go_wp2_with fail;generalize w4.setCell ⟨V,0,aA⟩ (Z8 .u64 (x0+19*t))=w5 at *;refine(Hy V (xs.set 0 (x0+19*t)) _ (by rw[List.length_set];exact HL5.o) HS4.o.row HU2.o).mono ?_;rintro e w6 ⟨rfl,st⟩;have W6:Wr V w4 w6:=HS4.o.wr.trans st.wr;have HZ6:AO (Ch w6 w.heap.size 138 [0,0,0,0,0]):=W6.rowW HZ4.o AJ;have HB6:AO (Below w.heap.size w w6):=HB4.o.trans (W6.below AJ);have r6:=st.row;rw[HLS.o] at r6;have HE6:AO (Dj w6 V 0 (Fo xs)):=Dj.of_row r6 (Nx xs);have HLL:AO ((Fo xs).length=5):=Eg xs;clear st W6 HS4 HZ4 HB4 c4 f4 r6 HLS HU2;go_wp2_with (first
  |(refine DT rfl (aM 5) rfl V 0 (Fo xs) rfl HE6.o ?_)
  |(refine Co rfl (aM 2) (aM 24) rfl w.heap.size (Fo xs) [0,0,0,0,0] rfl rfl HLL.o rfl HZ6.o ?_)
  |fail)
 intro w7 r7 W7;have HR7:AO (Ch w7 w.heap.size 138 (Fo xs)):=r7;have HB7:AO (Below w.heap.size w w7):=HB6.o.trans (W7.below Cl);clear r7 W7 HZ6 HE6 HB6;go_wp2;exact Ab (v:=aH ((Fo xs).map (Value.int .u64)).toArray) (Nv rfl _ _ w.heap.size (Fo xs) HLL.o rfl HR7.o) rfl ⟨rfl,HB7.o⟩
theorem Ny {xs ys:List Int} (hx:Cs xs) (hy:Cs ys):decide (Fo xs=Fo ys)=decide (ev xs=ev ys):=by
 rw[decide_eq_decide];exact Wg hx hy
theorem Ix (g1 o1 g2 o2:Nat) (xs ys:List Int) (w:aC) (h1:Dj w g1 o1 xs) (h2:Dj w g2 o2 ys) :
  Calls tP 163 #[aF (aE ⟨g1,o1,aA⟩),aF (aE ⟨g2,o2,aA⟩)] w λe w'=>e=aK (.bool (decide (ev xs=ev ys)))/\Below w.heap.size w w':=by
 have HD:AO (decide (Fo xs=Fo ys)=decide (ev xs=ev ys)):=Ny h1.2.1 h2.2.1;have H2:AO (Dj w g2 o2 ys):=h2;have hml:=Eg xs;have hnl:=Eg ys;go_enter func163,ntmps163;go_wp2_with fail;refine(Es g1 o1 xs _ h1).mono ?_;rintro e w1 ⟨rfl,b1⟩;have h2':=H2.o.below b1;have HB1:AO (Below w.heap.size w w1):=b1;clear h1 h2 b1 H2;go_wp2_with fail;refine(Es g2 o2 ys _ h2').mono ?_;rintro e w2 ⟨rfl,b2⟩;have HB2:AO (Below w.heap.size w w2):=HB1.o.trans (b2.mono HB1.o.size);clear h2' b2 HB1;go_wp2_with (simp only[IF _ 9998 5 138 underlying138 (Fo xs) (Fo ys) hml hnl]);rw[HD.o];obtain⟨q,hq⟩:∃ q,q=decide (ev xs=ev ys):=⟨_,rfl⟩
 rw[<-hq];have HQQ:AO (q=decide (ev xs=ev ys)):=hq;clear hq HD;simp only[Result.andThen_ok];go_simp;go_wp2
 go_ret
 exact⟨by rw[HQQ.o];rfl,HB2.o⟩
theorem FT (g o:Nat) (xs:List Int) (w:aC) (h:Dj w g o xs) :
  Calls tP 126 #[aF (aE ⟨g,o,aA⟩)] w λe w'=>e=aK (.bool (ev xs%2 == 1))/\Below w.heap.size w w':=by
 have HV:AO ((Fo xs).getD 0 0%2=ev xs%2):=by
  show _=_
  rw[<-Uh _ (Eg xs),(FO h.2.1).2.2]
 have HA:AO (bits .and .u64 ((Fo xs).getD 0 0) 1=(Fo xs).getD 0 0%2):=DH _ 1 ((Nx xs).2.1 0) (AG (Nx xs).2.2.2) 1 AK AK;go_enter func126,ntmps126;go_wp2_with fail;refine(Es g o xs _ h).mono ?_;rintro e w1 ⟨rfl,b1⟩;have HB1:AO (Below w.heap.size w w1):=b1;have HLL:AO ((Fo xs).length=5):=Eg xs;have HZN:AO (Ch (w1.alloc (aJ CQ 138)) w1.heap.size 138 [0,0,0,0,0]):=Jo w1;clear h b1;go_wp2_with (first
  |(refine Co rfl (aM 3) (aM 5) rfl w1.heap.size (Fo xs) [0,0,0,0,0] rfl rfl HLL.o rfl HZN.o ?_)
  |fail)
 intro w2 r2 W2;have HB2:AO (Below w.heap.size w w2):=HB1.o.trans (((Cx _ _).trans (W2.below Cl)).mono HB1.o.size);have c2:=r2.cell 0 (by rw[HLL.o];decide);clear W2 HZN r2 HB1;generalize w1.heap.size=V at *;generalize (Fo xs).getD 0 0=x at *;go_wp2;rw[HA.o,HV.o]
 go_ret
 exact⟨rfl,HB2.o⟩
theorem Gm (g o:Nat) (xs:List Int) (w:aC) (h:Dj w g o xs) :
  Calls tP 127 #[aF (aE ⟨g,o,aA⟩)] w (EP w ((0-ev xs)%fp)):=by
 have HO:AO (EL w (w.alloc (aJ CQ 138)) [(w.heap.size,[0,0,0,0,0])] [(g,o,xs)]):=
  (EL.start w [(g,o,xs)] (λe he=>by rcases List.mem_singleton.1 he with rfl;exact h)).room
 have HN:AO (EL w ((w.alloc (aJ CQ 138)).alloc (aJ CQ 138)) [(w.heap.size+1,[0,0,0,0,0]),(w.heap.size,[0,0,0,0,0])] [(g,o,xs)]):=by
  have:=HO.o.room;rw[show(w.alloc (aJ CQ 138)).heap.size=w.heap.size+1 from by simp] at this;exact this
 have HZ:AO (ev [0,0,0,0,0]=0):=by show _=_;decide
 clear h HO;go_enter func127,ntmps127;go_wp2_with fail;refine(FR (w.heap.size+1) 0 g o [0,0,0,0,0] xs _ (HN.o.re 0 _ _ rfl) (HN.o.el 0 _ _ _ rfl)).mono ?_;rintro e w1 ⟨es,hk,hv,rfl,b⟩;rw[HZ.o] at hv;have HK:AO (Cs es/\ev es=(0-ev xs)%fp):=⟨hk,hv⟩
 have H1:AO (EL w w1 [(w.heap.size+1,[0,0,0,0,0]),(w.heap.size,[0,0,0,0,0])] [(g,o,xs)]):=HN.o.call b;clear hk hv b HN;go_wp2_with (first
  |(refine Dc H1.o rfl (aM 2) (aM 5) rfl 1 w.heap.size [0,0,0,0,0] es rfl rfl rfl HK.o.1 rfl ?_)
  |fail)
 intro w2 S2;have H2:AO (EL w w2 [(w.heap.size+1,[0,0,0,0,0]),(w.heap.size,es)] [(g,o,xs)]):=S2;clear S2 H1;go_wp2;exact Ab (v:=aH (es.map (Value.int .u64)).toArray) (H2.o.ret rfl _ 1 w.heap.size es rfl rfl) rfl ⟨es,HK.o.1,HK.o.2,rfl,H2.o.below⟩
def pl (x y z t:List Int):List Int:=x++(y++(z++t))
def over (zs:List Int):Nat->List Int->List Int
 |_,[]=>zs
 |o,a::r=>over (zs.set o a) (o+1) r
theorem Ch.setCells {g:Nat} {e:TypeId}:∀(es zs:List Int) (w:aC) (o:Nat),Ch w g e zs->Ch (w.setCells g o (es.map (Value.int .u64))) g e (over zs o es)
 |[],_,_,_,h=>h
 |a::r,zs,w,o,h=>Ch.setCells r (zs.set o a) _ (o+1) (h.set o a)
theorem Wr.setCells {g:Nat} {v:aC}:∀(es:List Value) (w:aC) (o:Nat),Wr g v w->Wr g v (w.setCells g o es)
 |[],_,_,h=>h
 |a::r,w,o,h=>Wr.setCells r _ (o+1) (h.setCell o a)
theorem LT {x y z t es:List Int} (hx:x.length=5) (he:es.length=5):over (pl x y z t) 0 es=pl es y z t:=by
 match x,hx,es,he with
 |[_,_,_,_,_],_,[_,_,_,_,_],_=>rfl
theorem Wh {x y z t es:List Int} (hx:x.length=5) (hy:y.length=5) (he:es.length=5):over (pl x y z t) 5 es=pl x es z t:=by
 match x,hx,y,hy,es,he with
 |[_,_,_,_,_],_,[_,_,_,_,_],_,[_,_,_,_,_],_=>rfl
theorem LU {x y z t es:List Int} (hx:x.length=5) (hy:y.length=5) (hz:z.length=5) (he:es.length=5):over (pl x y z t) 10 es=pl x y es t:=by
 match x,hx,y,hy,z,hz,es,he with
 |[_,_,_,_,_],_,[_,_,_,_,_],_,[_,_,_,_,_],_,[_,_,_,_,_],_=>rfl
theorem Wi {x y z t es:List Int} (hx:x.length=5) (hy:y.length=5) (hz:z.length=5) (ht:t.length=5) (he:es.length=5):over (pl x y z t) 15 es=pl x y z es:=by
 match x,hx,y,hy,z,hz,t,ht,es,he with
 |[_,_,_,_,_],_,[_,_,_,_,_],_,[_,_,_,_,_],_,[_,_,_,_,_],_,[_,_,_,_,_],_=>rfl
structure Pt (w:aC) (g:Nat) (x y z t:List Int):Prop where
 row:Ch w g 140 (pl x y z t)
 x:Cs x
 y:Cs y
 z:Cs z
 t:Cs t
theorem Pt.at {w:aC} {g:Nat} {x y z t:List Int} (h:Pt w g x y z t) (o:Nat) (es:List Int) (hk:Cs es) (ho:o+5<=20) (he:∀ i,i<5->(pl x y z t).getD (o+i) 0=es.getD i 0):Dj w g o es:=
 ⟨h.row.lt,hk,λi hi=>by
  have hl:(pl x y z t).length=20:=by unfold pl;simp[h.x.1,h.y.1,h.z.1,h.t.1]
  rw[h.row.cell (o+i) AJ,he i hi]⟩
theorem Pt.ex {w:aC} {g:Nat} {x y z t:List Int} (h:Pt w g x y z t):Dj w g 0 x:=h.at 0 x h.x AJ λi hi=>by
 match x,h.x.1,i,hi with
 |[_,_,_,_,_],_,0,_=>rfl
 |[_,_,_,_,_],_,1,_=>rfl
 |[_,_,_,_,_],_,2,_=>rfl
 |[_,_,_,_,_],_,3,_=>rfl
 |[_,_,_,_,_],_,4,_=>rfl
theorem Pt.ey {w:aC} {g:Nat} {x y z t:List Int} (h:Pt w g x y z t):Dj w g 5 y:=h.at 5 y h.y AJ λi hi=>by
 match x,h.x.1,y,h.y.1,i,hi with
 |[_,_,_,_,_],_,[_,_,_,_,_],_,0,_=>rfl
 |[_,_,_,_,_],_,[_,_,_,_,_],_,1,_=>rfl
 |[_,_,_,_,_],_,[_,_,_,_,_],_,2,_=>rfl
 |[_,_,_,_,_],_,[_,_,_,_,_],_,3,_=>rfl
 |[_,_,_,_,_],_,[_,_,_,_,_],_,4,_=>rfl
theorem Pt.ez {w:aC} {g:Nat} {x y z t:List Int} (h:Pt w g x y z t):Dj w g 10 z:=h.at 10 z h.z AJ λi hi=>by
 match x,h.x.1,y,h.y.1,z,h.z.1,i,hi with
 |[_,_,_,_,_],_,[_,_,_,_,_],_,[_,_,_,_,_],_,0,_=>rfl
 |[_,_,_,_,_],_,[_,_,_,_,_],_,[_,_,_,_,_],_,1,_=>rfl
 |[_,_,_,_,_],_,[_,_,_,_,_],_,[_,_,_,_,_],_,2,_=>rfl
 |[_,_,_,_,_],_,[_,_,_,_,_],_,[_,_,_,_,_],_,3,_=>rfl
 |[_,_,_,_,_],_,[_,_,_,_,_],_,[_,_,_,_,_],_,4,_=>rfl
theorem Pt.et {w:aC} {g:Nat} {x y z t:List Int} (h:Pt w g x y z t):Dj w g 15 t:=h.at 15 t h.t AJ λi hi=>by
 match x,h.x.1,y,h.y.1,z,h.z.1,t,h.t.1,i,hi with
 |[_,_,_,_,_],_,[_,_,_,_,_],_,[_,_,_,_,_],_,[_,_,_,_,_],_,0,_=>rfl
 |[_,_,_,_,_],_,[_,_,_,_,_],_,[_,_,_,_,_],_,[_,_,_,_,_],_,1,_=>rfl
 |[_,_,_,_,_],_,[_,_,_,_,_],_,[_,_,_,_,_],_,[_,_,_,_,_],_,2,_=>rfl
 |[_,_,_,_,_],_,[_,_,_,_,_],_,[_,_,_,_,_],_,[_,_,_,_,_],_,3,_=>rfl
 |[_,_,_,_,_],_,[_,_,_,_,_],_,[_,_,_,_,_],_,[_,_,_,_,_],_,4,_=>rfl
structure Cv (w wr:aC) (g:Nat) (x y z t:List Int) (R:List (Nat×List Int)) (E:List (Nat×Nat×List Int)):Prop where
 wrh:EN g w wr
 lt:g<w.heap.size
 pt:Pt wr g x y z t
 rows:∀ r∈R,w.heap.size<=r.1/\Ch wr r.1 138 r.2/\Cs r.2
 order:R.Pairwise λa b=>b.1<a.1
 els:∀ e∈E,e.1<w.heap.size/\e.1≠g/\Dj wr e.1 e.2.1 e.2.2
section
variable {w wr w':aC} {g:Nat} {x y z t:List Int} {R:List (Nat×List Int)} {E:List (Nat×Nat×List Int)}
theorem Cv.start (h:Pt w g x y z t) (E:List (Nat×Nat×List Int)) (he:∀ e∈E,e.1≠g/\Dj w e.1 e.2.1 e.2.2):Cv w w g x y z t [] E:=
 ⟨EN.refl _ _,h.row.lt,h,AL,List.Pairwise.nil,λe hm=>⟨(he e hm).2.1,(he e hm).1,(he e hm).2⟩⟩
theorem Pt.below (h:Pt w g x y z t) {B:Nat} (b:Below B w w') (hB:g<B):Pt w' g x y z t:=⟨h.row.below b hB,h.x,h.y,h.z,h.t⟩
theorem Cv.call (h:Cv w wr g x y z t R E) (b:Below wr.heap.size wr w'):Cv w w' g x y z t R E:=
 ⟨h.wrh.trans (EN.of_below b),h.lt,h.pt.below b h.pt.row.lt,λr hr=>⟨(h.rows r hr).1,(h.rows r hr).2.1.below b (h.rows r hr).2.1.lt,(h.rows r hr).2.2⟩,h.order,λe he=>⟨(h.els e he).1,(h.els e he).2.1,(h.els e he).2.2.below b⟩⟩
theorem Cv.push (h:Cv w wr g x y z t R E) (b:Below wr.heap.size wr w') {es:List Int} (hr:Ch w' wr.heap.size 138 es) (hk:Cs es) :
  Cv w w' g x y z t ((wr.heap.size,es)::R) E:=by
 have c:=h.call b;refine⟨c.wrh,c.lt,c.pt,?_,?_,c.els⟩
 ·intro r hm;rcases Aa.1 hm with rfl|hm
  ·exact⟨h.wrh.size,hr,hk⟩
  ·exact c.rows r hm
 ·exact List.Pairwise.cons (λr hm=>(h.rows r hm).2.1.lt) h.order
theorem Cv.el (h:Cv w wr g x y z t R E) (i:Nat) (G o:Nat) (es:List Int) (hi:E[i]?=aE (G,o,es)):Dj wr G o es:=
 (h.els _ (List.mem_of_getElem? hi)).2.2
theorem Cv.row (h:Cv w wr g x y z t R E) (i:Nat) (G:Nat) (es:List Int) (hi:R[i]?=aE (G,es)):Ch wr G 138 es:=
 (h.rows _ (List.mem_of_getElem? hi)).2.1
theorem Cv.ok (h:Cv w wr g x y z t R E) (i:Nat) (G:Nat) (es:List Int) (hi:R[i]?=aE (G,es)):Cs es:=
 (h.rows _ (List.mem_of_getElem? hi)).2.2
theorem Cv.re (h:Cv w wr g x y z t R E) (i:Nat) (G:Nat) (es:List Int) (hi:R[i]?=aE (G,es)):Dj wr G 0 es:=
 Dj.of_row (h.row i G es hi) (h.ok i G es hi)
theorem Cv.put (h:Cv w wr g x y z t R E) (i:Nat) (G:Nat) (zs es:List Int) (hi:R[i]?=aE (G,zs)) (hw:Wr G wr w') (hr:Ch w' G 138 es) (hk:Cs es) :
  Cv w w' g x y z t (R.set i (G,es)) E:=by
 have hg:w.heap.size<=G:=(h.rows _ (List.mem_of_getElem? hi)).1;have hil:i<R.length:=(Ao.1 hi).1;have hie:R[i]=(G,zs):=(Ao.1 hi).2;have ho:=List.pairwise_iff_getElem.1 h.order;have hgl:=h.lt;have b:Below w.heap.size wr w':=hw.below hg;refine⟨⟨hw.os.trans h.wrh.os,hw.tape.trans h.wrh.tape,hw.output.trans h.wrh.output,by rw[hw.size];exact h.wrh.size,λk hk hg'=>(hw.block k AJ).trans (h.wrh.block k hk hg')⟩,h.lt,h.pt.below b h.lt,?_,?_,λe he=>⟨(h.els e he).1,(h.els e he).2.1,(h.els e he).2.2.wr hw (AG (h.els e he).1)⟩⟩
 ·intro r hm;obtain⟨j,hj,rfl⟩:=Br hm;rw[List.length_set] at hj;rw[List.getElem_set];split
  ·exact⟨hg,hr,hk⟩
  ·rename_i hne
   have q:=h.rows _ (Bl hj);refine⟨q.1,hw.rowW q.2.1 ?_,q.2.2⟩;rcases Nat.lt_or_gt_of_ne hne with hlt|hgt
   ·have:=ho i j hil hj hlt;rw[hie] at this;simp only at this;omega
   ·have:=ho j i hj hil hgt;rw[hie] at this;simp only at this;omega
 ·rw[List.pairwise_iff_getElem];intro a b ha hb hab;rw[List.length_set] at ha hb;have:=ho a b ha hb hab;rw[List.getElem_set,List.getElem_set];split<;>split<;>simp_all
theorem Cv.point (h:Cv w wr g x y z t R E) {x' y' z' t':List Int} (hw:Wr g wr w') (hp:Pt w' g x' y' z' t'):Cv w w' g x' y' z' t' R E:=
 ⟨h.wrh.trans hw.wrH,h.lt,hp,λr hr=>⟨(h.rows r hr).1,hw.rowW (h.rows r hr).2.1 (AH (h.rows r hr).1 h.lt),(h.rows r hr).2.2⟩,h.order,λe he=>⟨(h.els e he).1,(h.els e he).2.1,(h.els e he).2.2.wr hw (h.els e he).2.1⟩⟩
variable {ops:Array Oper} {rest:List Oper} {o:Oper} {a:Act} {Q:Exit->Act->aC->Prop}
theorem DA (S:Cv w wr g x y z t R E) (hgd:o.guard=aA) (px py:Operand) (ho:o.op=.store 138 px py)
  (es:List Int) (hx:a.eval px=aF (aE ⟨wr.heap.size,0,aA⟩)) (hy:a.eval py=aH (es.map (Value.int .u64)).toArray) (hk:Cs es)
  {wa:aC} (hwa:wa=wr.alloc (aJ CQ 138))
  (hK:∀ w',Cv w w' g x y z t ((wr.heap.size,es)::R) E->wpList tP ops Q rest (a.put o.dst undef) w') :
  wpList tP ops Q (o::rest) a wa:=by
 subst hwa;exact Co hgd px py ho wr.heap.size es [0,0,0,0,0] hx hy hk.1 rfl (Jo wr) λw' hr hw=>hK w' (S.push ((Cx _ _).trans (hw.below Cl)) hr hk)
theorem Iy (S:Cv w wr g x y z t R E) (hgd:o.guard=aA) (px py:Operand) (ho:o.op=.store 138 px py)
  (i G:Nat) (zs es:List Int) (hi:R[i]?=aE (G,zs)) (hx:a.eval px=aF (aE ⟨G,0,aA⟩)) (hy:a.eval py=aH (es.map (Value.int .u64)).toArray) (hk:Cs es)
  {wa:aC} (hwa:wa=wr)
  (hK:∀ w',Cv w w' g x y z t (R.set i (G,es)) E->wpList tP ops Q rest (a.put o.dst undef) w') :
  wpList tP ops Q (o::rest) a wa:=by
 subst hwa;exact Co hgd px py ho G es zs hx hy hk.1 (S.ok i G zs hi).1 (S.row i G zs hi) λw' hr hw=>hK w' (S.put i G zs es hi hw hr hk)
theorem Cv.there (S:Cv w wr g x y z t R E) (p:Nat) (hp:p+5<=20):wr.there g p 5:=λj hj=>by
 have hl:(pl x y z t).length=20:=by unfold pl;simp[S.pt.x.1,S.pt.y.1,S.pt.z.1,S.pt.t.1]
 exact⟨by rw[S.pt.row.cell (p+j) AJ];rfl,S.pt.row.frozen _⟩
theorem Di (S:Cv w wr g x y z t R E) (hgd:o.guard=aA) (px py:Operand) (ho:o.op=.store 138 px py)
  (p:Nat) (hp:p+5<=20) (es x' y' z' t':List Int) (hov:over (pl x y z t) p es=pl x' y' z' t') (hk':Cs x'/\Cs y'/\Cs z'/\Cs t') (hx:a.eval px=aF (aE ⟨g,p,aA⟩)) (hy:a.eval py=aH (es.map (Value.int .u64)).toArray) (hk:Cs es)
  {wa:aC} (hwa:wa=wr)
  (hK:∀ w',Cv w w' g x' y' z' t' R E->wpList tP ops Q rest (a.put o.dst undef) w') :
  wpList tP ops Q (o::rest) a wa:=by
 subst hwa;have hsz:((es.map (Value.int .u64)).toArray).size=5:=by simp[hk.1]
 refine wpList_store_mid hgd 138 px py ho g p ((es.map (Value.int .u64)).toArray) hx hy (by rw[hsz];exact S.there p hp) (sizeEl hk.1) (all_oneCell_toArray (Aw _ _)) (hK _ ?_);have hr:=Ch.setCells es (pl x y z t) wa p S.pt.row;rw[hov] at hr;exact S.point (Wr.setCells _ _ p (Wr.refl _ _)) ⟨hr,hk'.1,hk'.2.1,hk'.2.2.1,hk'.2.2.2⟩
end
theorem Tryz.sizeNumR:(tP.info? 143).map (·.size)=aE 4:=AM
theorem sizeNumR {ns:List Int} (h:ns.length=4):(tP.info? 143).map (·.size)=aE ((ns.map (Value.int .u64)).toArray).size:=by rw[Tryz.sizeNumR];simp[h]
def lW:List Int:=[6346243789798364141,1503914060200516822,0,1152921504606846976]
theorem Wj:val 18446744073709551616 lW=DQ:=AK
theorem Wl:G4 lW:=by unfold G4 lW;decide
theorem ST (w:aC) :
  Calls tP 155 #[] w λe w'=>e=aK (aH (lW.map (Value.int .u64)).toArray)/\Below w.heap.size w w':=by
 have HR:AO (Ch (w.alloc (aJ CV 143)) w.heap.size 143 [0,0,0,0]):=AX w _;have HSZ:AO ((tP.info? 143).map (·.size)=aE ((lW.map (Value.int .u64)).toArray).size):=sizeNumR rfl;go_enter func155,ntmps155;go_wp2_with (refine AE 143 (aM 0) (aM 1) w.heap.size ((lW.map (Value.int .u64)).toArray) 143 HR.o HSZ.o rfl (all_oneCell_toArray (Aw _ _)) ?_);refine Ab (v:=aH (lW.map (Value.int .u64)).toArray) (Ah rfl _ _ w.heap.size 143 _ (0,0) _ rfl (AB HR.o) underlying143 rfl HSZ.o) rfl ⟨rfl,?_⟩;exact(Cx _ _).trans ((Wr.setRow _ _ _).below Cl)
theorem QL (cs:Array Value) (k:Nat) (v:Value) (w:aC) (hk:(k:Int)<4) (h:cs[k]?=aE v) :
  (Instr.index 143 (aH cs) (Z8 .i64 k)).run tP w=.ok v w:=by
 simp[Instr.index,asIntOf,run_underlying underlying143,part,h,go_sem];omega
def Jp (w:aC) (g:Nat) (ns:List Int) (e:Ending) (w':aC):Prop:=
 e=aK (.tuple #[])/\∃ ms,ms.length=4/\Ch w' g 143 ms/\G4 ms/\val 18446744073709551616 ms=(if DQ<=val 18446744073709551616 ns then val 18446744073709551616 ns-DQ else val 18446744073709551616 ns)/\EN g w w'
structure OS (w:aC) (g:Nat) (ns:List Int) (k:Nat) (b:Int) (wr:aC):Prop where
 bd:0<=b/\b<=1
 row:Ch wr g 143 ns
 less:∃ ms,ms.length=4/\Ch wr w.heap.size 143 ms/\G4 ms/\val 18446744073709551616 (ns.take k)-val 18446744073709551616 (lW.take k)=val 18446744073709551616 (ms.take k)-b*18446744073709551616^k
 below:Below w.heap.size w wr
theorem QM (g:Nat) (ns:List Int) (w:aC) (hl:ns.length=4) (hr:Ch w g 143 ns) (hw:G4 ns) :
  Calls tP 131 #[aF (aE ⟨g,0,aA⟩)] w (Jp w g ns):=by
 have hg:=hr.lt;have HN:AO (Ch w g 143 ns):=hr;have HR:AO (Ch (w.alloc (aJ CV 143)) w.heap.size 143 [0,0,0,0]):=AX w _;have HSZ:AO ((tP.info? 143).map (·.size)=aE ((ns.map (Value.int .u64)).toArray).size):=sizeNumR hl;have HZ4:AO ((#[Z8 .u64 0,Z8 .u64 0,Z8 .u64 0,Z8 .u64 0]:Array Value).size=((ns.map (Value.int .u64)).toArray).size):=by show _=_;simp[hl]
 have HB:AO (Below w.heap.size w (w.alloc (aJ CV 143))):=Cx _ _;clear hr;go_enter func131,ntmps131;go_wp2_with (first
  |(refine Ae rfl 143 (aM 7) rfl g rfl 143 _ (0,0) _ HN.o underlying143 rfl HSZ.o ?_)
  |(refine AE 143 (aM 2) (aM 8) w.heap.size ((ns.map (Value.int .u64)).toArray) 143 HR.o HSZ.o HZ4.o (all_oneCell_toArray (Aw _ _)) ?_)
  |fail)
 have R1:Ch ((w.alloc (aJ CV 143)).setRow w.heap.size (ns.map (Value.int .u64)).toArray) w.heap.size 143 ns:=HR.o.setRow ns;have R2:Ch ((w.alloc (aJ CV 143)).setRow w.heap.size (ns.map (Value.int .u64)).toArray) g 143 ns:=(HN.o.below HB.o hg).setRow_other _ AJ;have B1:Below w.heap.size w ((w.alloc (aJ CV 143)).setRow w.heap.size (ns.map (Value.int .u64)).toArray):=HB.o.trans ((Wr.setRow _ _ _).below Cl);clear HR HZ4 HB HSZ;generalize (w.alloc (aJ CV 143)).setRow w.heap.size (ns.map (Value.int .u64)).toArray=w1 at *;refine(ST _).mono ?_;rintro e w2 ⟨rfl,B2⟩;have s1:=R1.lt;have R1':=R1.below B2 s1;have R2':=R2.below B2 R2.lt;have B12:Below w.heap.size w w2:=B1.trans (B2.mono AJ);have HS:AO (OS w g ns 0 0 w2):=⟨⟨AK,AK⟩,R2',⟨ns,hl,R1',hw,by simp[val]⟩,B12⟩
 clear R1 R2 B1 B2 R1' R2' B12 HN s1;go_wp2
 go_loopw [3,10] (λc i wr=>∃(k:Nat) (b:Int),k<=4/\i=Z8 .i64 k/\c=Z8 .u64 b/\OS w g ns k b wr) (λ_ i _=>4-(intOf i).toNat)
 case atStart=>exact⟨0,0,Au _,rfl,rfl,HS.o⟩
 case round=>
  obtain⟨k,b,hk,rfl,rfl,⟨hb0,hb1⟩,hrow,⟨ms,hml,hmr,hmw,hv⟩,hbel⟩:=hrel;clear HS;by_cases hlt:k<4
  ·have cn:=hrow.cell k AJ;have cm:=hmr.cell k AJ;have fm:=hmr.frozen k;have hx:=hw.get k;have hy:=Wl.get k;have hne:g≠w.heap.size:=AJ
   have hbe:=WB _ _ _ hx.1 hx.2 hy.1 hy.2 hb0 hb1;have hbb:=WA (ns.getD k 0) (lW.getD k 0) b;have hd0:0<=(ns.getD k 0-lW.getD k 0-b)%18446744073709551616:=AJ
   have hd1:(ns.getD k 0-lW.getD k 0-b)%18446744073709551616<18446744073709551616:=AJ
   have S1:=hmr.set k ((ns.getD k 0-lW.getD k 0-b)%18446744073709551616);have S2:=hmw.set k _ hd0 hd1;have S3:=Qm _ _ _ _ _ _ _ _ _ _ hv hbe;rw[<-DN _ ns k AJ,<-DN _ lW k (by simpa[lW] using hlt),<-F7 _ ms k _ AJ,<-Int.pow_succ] at S3;have R:Ch (wr.setCell ⟨w.heap.size,k,aA⟩ (Z8 .u64 ((ns.getD k 0-lW.getD k 0-b)%18446744073709551616))) g 143 ns:=((Wr.refl _ _).setCell k _).rowW hrow hne;have HO:AO (OS w g ns (k+1) (Td (ns.getD k 0) (lW.getD k 0) b) (wr.setCell ⟨w.heap.size,k,aA⟩ (Z8 .u64 ((ns.getD k 0-lW.getD k 0-b)%18446744073709551616)))):=
    ⟨hbb,R,⟨_,by rw[List.length_set];exact hml,S1,S2,S3⟩,hbel.setCell Cl _⟩
   clear hbe hbb hd0 hd1 S1 S2 S3 R hrow hmr hmw hv hbel;obtain⟨hx0,hx1⟩:=hx;obtain⟨hy0,hy1⟩:=hy;generalize ns.getD k 0=x at *;have hlt':(k:Int)<4:=AJ
   have hix:(lW.map (Value.int .u64)).toArray[k]?=aE (Z8 .u64 (lW.getD k 0)):=by
    have:k<lW.length:=by simpa[lW] using hlt
    simp[this]
   have hsz:(lW.map (Value.int .u64)).toArray.size=4:=rfl;generalize (lW.map (Value.int .u64)).toArray=la at *;generalize lW.getD k 0=y at *;go_wp2_with (first|simp only[QL la k _ _ hlt' hix]|simp only[Xx x y b hx0 hy0 hy1 hb0 hb1]);exact⟨⟨k+1,Td x y b,AJ,by go_num,rfl,HO.o⟩,by simp[intOf];omega⟩
  ·have hk4:k=4:=AJ
   subst hk4;rw[Ad AJ,Ad (by simp[lW]),Ad AJ,Wj] at hv;have m0:0<=val 18446744073709551616 ms:=C0 AK hmw;have m1:val 18446744073709551616 ms<18446744073709551616^4:=by rw[<-hml];exact EZ AK hmw
   have hne:g≠w.heap.size:=AJ
   have HSZ:AO ((tP.info? 143).map (·.size)=aE ((ms.map (Value.int .u64)).toArray).size):=sizeNumR hml;have HSN:AO ((ns.map (Value.int .u64)).toArray.size=(ms.map (Value.int .u64)).toArray.size):=by show _=_;simp[hl,hml]
   have HN:AO (Ch wr g 143 ns):=hrow;have HM:AO (Ch wr w.heap.size 143 ms):=hmr;rcases (show b=0\/b=1 by omega) with rfl|rfl
   ·have HP:AO (Jp w g ns (aK (.tuple #[])) (wr.setRow g (ms.map (Value.int .u64)).toArray)):=by
     refine⟨rfl,ms,hml,hrow.setRow ms,hmw,?_,?_⟩
     ·rw[AP AJ];omega
     ·exact(EN.of_below hbel).trans (Wr.setRow _ _ _).wrH
    clear hv m0 m1 hrow hmr hmw hbel;go_wp2_with (first
     |(refine Ae rfl 143 (aM 2) rfl w.heap.size rfl 143 _ (0,0) _ HM.o underlying143 rfl HSZ.o ?_)
     |(refine AE 143 (aM 32) (aM 31) g ((ms.map (Value.int .u64)).toArray) 143 HN.o HSZ.o HSN.o (all_oneCell_toArray (Aw _ _)) ?_)
     |fail)
    go_end0
    exact HP.o
   ·have HP:AO (Jp w g ns (aK (.tuple #[])) wr):=by
     refine⟨rfl,ns,hl,hrow,hw,?_,EN.of_below hbel⟩;rw[AQ AJ]
    clear hv m0 m1 hrow hmr hmw hbel;go_wp2
    go_end0
    exact HP.o
def SU (w:aC) (v:Int) (e:Ending) (w':aC):Prop:=
 ∃ ms:List Int,ms.length=4/\G4 ms/\val 18446744073709551616 ms=v/\e=aK (aH (ms.map (Value.int .u64)).toArray)/\Below w.heap.size w w'
theorem Nz {x b:Int} {r:Nat} (h0:0<=x) (h1:x<256) (h:b=x/2^r%2):bits .and .u64 (IntKind.u64.wrap (x/2^r)) 1=b:=by
 have hp:(0:Int)<2^r:=Int.pow_pos AK;have a0:0<=x/2^r:=Int.ediv_nonneg h0 AJ;have a1:x/2^r<=x:=Int.ediv_le_self _ h0;generalize x/2^r=y at *;rw[IntKind.wrap_u64,Int.emod_eq_of_lt a0 AJ,DH y 1 a0 AJ 1 AK AK,h];rfl
structure RN (w:aC) (V:Int) (j:Nat) (wr:aC):Prop where
 res:Ch wr w.heap.size 143 [0,0,0,0]
 row:∃ ns,ns.length=4/\Ch wr (w.heap.size+1) 143 ns/\G4 ns/\val 18446744073709551616 ns=DW V j
 below:Below w.heap.size w wr
theorem Ml (a:Option Addr) (n cap:Nat) (zs:List Int) (w:aC) (hn:zs.length=n) (hm:n<=1048576) (ha:At .u8 w a zs) (hz:Ci zs) :
  Calls tP 106 #[.slice a n cap] w (SU w (val 256 zs%DQ)):=by
 have hV0:0<=val 256 zs:=C0 AK hz;have hV1:val 256 zs<2^(8*n):=by rw[<-Oo,<-hn];exact EZ AK hz
 have HT:AO (DW (val 256 zs) (8*n)=0):=Jf _ _ hV0 hV1;have HS:AO (RN w (val 256 zs) (8*n) ((w.alloc (aJ CV 143)).alloc (aJ CV 143))):=
  ⟨heap_alloc2_old _ _ _,⟨[0,0,0,0],rfl,heap_alloc2_new _ _ _,by unfold G4;decide,by rw[HT.o];decide⟩,(Cg.alloc Cl _).alloc AL _⟩
 clear hV0 hV1 HT;go_enter func106,ntmps106;go_wp2
 go_loopw [4] (λi wr=>∃(j:Nat),j<=8*n/\i=Z8 .i64 ((j:Int)-1)/\RN w (val 256 zs) j wr) (λi _=>(intOf i+1).toNat)
 case atStart=>exact⟨8*n,Ac _,by go_num,HS.o⟩
 case round=>
  clear HS;obtain⟨j,hj,rfl,hres,⟨ns,hl,hrow,hw,hv⟩,hbel⟩:=hrel;by_cases hj0:0<j
  ·obtain⟨j,rfl⟩:∃ i,j=i+1:=⟨j-1,AJ⟩
   have ei:((j+1:Nat):Int)-1=(j:Int):=AJ
   rw[ei];clear ei;obtain⟨b0,off,rfl,hb0,hc⟩:=(ha.below hbel).get AJ;have c0:=hc (j/8) AJ;have hb:=Jg zs j hz;have hx:=hz.get (j/8);generalize zs.getD (j/8) 0=x at *;obtain⟨hx0,hx1⟩:=hx;clear hc;have hand:=Nz hx0 hx1 hb;have hbd:=MN (val 256 zs) j;have hst:=Iv (val 256 zs) j;have hbL:=Kb (val 256 zs) (j+1);rw[<-hv] at hst hbL;generalize Ee (val 256 zs) j=bj at *;have HAND:AO (bits .and .u64 (IntKind.u64.wrap (x/2^(j%8))) 1=bj):=hand;have HST:AO (DW (val 256 zs) j=if DQ<=2*val 18446744073709551616 ns+bj then 2*val 18446744073709551616 ns+bj-DQ else 2*val 18446744073709551616 ns+bj):=hst;have HV:AO (0<=val 18446744073709551616 ns/\val 18446744073709551616 ns<DQ):=hbL;have HBD:AO (bj=0\/bj=1):=hbd;clear hb hand hst hbL hv hbd;have HRS:AO (Ch wr w.heap.size 143 [0,0,0,0]):=hres;have HRO:AO (Ch wr (w.heap.size+1) 143 ns):=hrow;have HBE:AO (Below w.heap.size w wr):=hbel;clear hres hrow hbel;go_wp2_with fail;rw[HAND.o];refine(Rt _ ns bj _ hl HRO.o hw HBD.o).mono ?_;rintro e w1 ⟨rfl,ms,hml,hmr,hmw,⟨c,hc0,hcv⟩,hwr1⟩;have hc00:c=0:=by
    rcases Int.lt_or_le 0 c with h|h
    ·exfalso
     have:=HV.o;have:=HBD.o;unfold DQ at *;have m0:0<=val 18446744073709551616 ms:=C0 AK hmw;have h2:(18446744073709551616:Int)^4=115792089237316195423570985008687907853269984665640564039457584007913129639936:=AK
     rw[h2] at hcv;omega
    ·omega
   subst hc00;have hmv:val 18446744073709551616 ms=2*val 18446744073709551616 ns+bj:=AJ
   have HMR:AO (Ch w1 (w.heap.size+1) 143 ms):=hmr;have HMV:AO (val 18446744073709551616 ms=2*val 18446744073709551616 ns+bj):=hmv;have HRS1:AO (Ch w1 w.heap.size 143 [0,0,0,0]):=hwr1.rowW HRS.o AJ;have HBE1:AO (Below w.heap.size w w1):=HBE.o.trans (hwr1.below AJ);clear hcv hmr hmv hwr1 HRS HBE HRO c0;go_wp2_with fail;refine(QM _ ms _ hml HMR.o hmw).mono ?_;rintro e w2 ⟨rfl,ls,hll,hlr,hlw,hlv,hwr2⟩;rw[HMV.o,<-HST.o] at hlv;have HP:AO (RN w (val 256 zs) j w2):=⟨hwr2.rowW HRS1.o AJ,⟨ls,hll,hlr,hlw,hlv⟩,HBE1.o.trans (hwr2.below _ AJ HBE1.o.size)⟩
   clear hlv hwr2 hlr hlw HRS1 HBE1 HMR HMV HST HV HAND;go_wp2;go_roundw
   case rel=>exact⟨j,AJ,rfl,HP.o⟩
   case measure=>first|(simp[intOf];done)|(simp[intOf];omega)
  ·obtain rfl:j=0:=AJ
   rw[Iu] at hv;have HSZ:AO ((tP.info? 143).map (·.size)=aE ((ns.map (Value.int .u64)).toArray).size):=sizeNumR hl;have HZ4:AO (([0,0,0,0].map (Value.int .u64)).toArray.size=((ns.map (Value.int .u64)).toArray).size):=by show _=_;simp[hl]
   have HRS:AO (Ch wr w.heap.size 143 [0,0,0,0]):=hres;have HRO:AO (Ch wr (w.heap.size+1) 143 ns):=hrow;have HBE:AO (Below w.heap.size w wr):=hbel;have HV:AO (val 18446744073709551616 ns=val 256 zs%DQ):=hv;clear hres hrow hbel hv;go_wp2_with (first
    |(refine Ae rfl 143 (aM 3) rfl (w.heap.size+1) rfl 143 _ (0,0) _ HRO.o underlying143 rfl HSZ.o ?_)
    |(refine AE 143 (aM 2) (aM 25) w.heap.size ((ns.map (Value.int .u64)).toArray) 143 HRS.o HSZ.o HZ4.o (all_oneCell_toArray (Aw _ _)) ?_))
   refine Ab (v:=aH (ns.map (Value.int .u64)).toArray) (Ah rfl _ _ w.heap.size 143 _ (0,0) _ rfl (AB HRS.o) underlying143 rfl HSZ.o) rfl ⟨ns,hl,hw,HV.o,rfl,?_⟩;exact HBE.o.trans ((Wr.setRow _ _ _).below Cl)
end Go.Proofs.YtjdhhgaelgemcaaGreatDoor
