import Derived.Test.YtncomnkdlpoelaaGreatDoorMArrW
import Derived.Test.YtncomnkdlpoelaaGreatDoorMINofS
import Derived.Test.YtncomnkdlpoelaaGreatDoorMSAd
import Derived.ScopeJumps
import Derived.WalkMore
namespace Go.Proofs.YtncomnkdlpoelaaGreatDoor
open Go.ChangeShapes Go.WideShapes Go.ChangeAt Go.RowKit
set_option linter.unusedVariables false
structure Run (w wr:World) (R:List (Nat×List Int)) (E:List (Nat×Nat×List Int)):Prop where
 below:Below w.heap.size w wr
 rows:∀ r∈R,w.heap.size≤r.1∧RowW wr r.1 141 r.2∧EOk r.2
 order:R.Pairwise fun a b=>b.1<a.1
 els:∀ e∈E,e.1<w.heap.size∧EAt wr e.1 e.2.1 e.2.2
theorem Run.start (w:World) (E:List (Nat×Nat×List Int)) (h:∀ e∈E,EAt w e.1 e.2.1 e.2.2):Run w w [] E:=
 ⟨Below.refl _ _,by simp,List.Pairwise.nil,fun e he=>⟨(h e he).1,h e he⟩⟩
theorem Run.call {w wr w':World} {R:List (Nat×List Int)} {E:List (Nat×Nat×List Int)} (h:Run w wr R E) (b:Below wr.heap.size wr w'):Run w w' R E:=
 ⟨h.below.trans (b.mono h.below.size),fun r hr=>⟨(h.rows r hr).1,(h.rows r hr).2.1.below b (h.rows r hr).2.1.lt,(h.rows r hr).2.2⟩,h.order,fun e he=>⟨(h.els e he).1,(h.els e he).2.below b⟩⟩
theorem Run.push {w wr w':World} {R:List (Nat×List Int)} {E:List (Nat×Nat×List Int)} (h:Run w wr R E) (b:Below wr.heap.size wr w') {es:List Int} (hr:RowW w' wr.heap.size 141 es) (hk:EOk es) :
  Run w w' ((wr.heap.size,es)::R) E:=by
 have c:=h.call b;refine⟨c.below,?_,?_,c.els⟩
 ·intro r hm;rcases List.mem_cons.1 hm with rfl|hm
  ·exact⟨h.below.size,hr,hk⟩
  ·exact c.rows r hm
 ·exact List.Pairwise.cons (fun r hm=>(h.rows r hm).2.1.lt) h.order
theorem zero_ok:EOk [0,0,0,0,0]:=⟨rfl,fun i=>by rcases i with _|_|_|_|_|i<;>simp,fun i _=>by rcases i with _|_|_|_|_|i<;>simp,by decide⟩
theorem Run.room {w wr:World} {R:List (Nat×List Int)} {E:List (Nat×Nat×List Int)} (h:Run w wr R E) :
  Run w (wr.alloc (.cells #[.int .u64 0,.int .u64 0,.int .u64 0,.int .u64 0,.int .u64 0] 141)) ((wr.heap.size,[0,0,0,0,0])::R) E:=
 h.push (below_new2 _ _) (row0 wr) zero_ok
theorem Run.el {w wr:World} {R:List (Nat×List Int)} {E:List (Nat×Nat×List Int)} (h:Run w wr R E) (i:Nat) (g o:Nat) (es:List Int) (hi:E[i]?=some (g,o,es)):EAt wr g o es:=
 (h.els _ (List.mem_of_getElem? hi)).2
theorem Run.row {w wr:World} {R:List (Nat×List Int)} {E:List (Nat×Nat×List Int)} (h:Run w wr R E) (i:Nat) (g:Nat) (es:List Int) (hi:R[i]?=some (g,es)):RowW wr g 141 es:=
 (h.rows _ (List.mem_of_getElem? hi)).2.1
theorem Run.ok {w wr:World} {R:List (Nat×List Int)} {E:List (Nat×Nat×List Int)} (h:Run w wr R E) (i:Nat) (g:Nat) (es:List Int) (hi:R[i]?=some (g,es)):EOk es:=
 (h.rows _ (List.mem_of_getElem? hi)).2.2
theorem Run.re {w wr:World} {R:List (Nat×List Int)} {E:List (Nat×Nat×List Int)} (h:Run w wr R E) (i:Nat) (g:Nat) (es:List Int) (hi:R[i]?=some (g,es)):EAt wr g 0 es:=
 EAt.of_row (h.row i g es hi) (h.ok i g es hi)
theorem Run.put {w wr w':World} {R:List (Nat×List Int)} {E:List (Nat×Nat×List Int)} (h:Run w wr R E) (i:Nat) (g:Nat) (zs es:List Int) (hi:R[i]?=some (g,zs)) (hw:Wr g wr w') (hr:RowW w' g 141 es) (hk:EOk es) :
  Run w w' (R.set i (g,es)) E:=by
 have hg:=(h.rows _ (List.mem_of_getElem? hi)).1;have hil:=(List.getElem?_eq_some_iff.1 hi).1;have hie:=(List.getElem?_eq_some_iff.1 hi).2;have ho:=List.pairwise_iff_getElem.1 h.order;refine⟨h.below.trans (hw.below hg),?_,?_,fun e he=>⟨(h.els e he).1,(h.els e he).2.wr hw (by have:=(h.els e he).1;omega)⟩⟩
 ·intro r hm;obtain⟨j,hj,rfl⟩:=List.getElem_of_mem hm;rw[List.length_set] at hj;rw[List.getElem_set];split
  ·exact⟨hg,hr,hk⟩
  ·rename_i hne
   have q:=h.rows _ (List.getElem_mem hj);refine⟨q.1,hw.rowW q.2.1 ?_,q.2.2⟩;rcases Nat.lt_or_gt_of_ne hne with hlt|hgt
   ·have:=ho i j hil hj hlt;rw[hie] at this;simp only at this;omega
   ·have:=ho j i hj hil hgt;rw[hie] at this;simp only at this;omega
 ·rw[List.pairwise_iff_getElem];intro a b ha hb hab;rw[List.length_set] at ha hb;have:=ho a b ha hb hab;rw[List.getElem_set,List.getElem_set];split<;>split<;>simp_all
theorem wpList_storeN {w wr:World} {R:List (Nat×List Int)} {E:List (Nat×Nat×List Int)} (S:Run w wr R E)
  {ops:Array Oper} {rest:List Oper} {o:Oper} {a:Act} {Q:Exit→Act→World→Prop} (hgd:o.guard=none) (x y:Operand) (ho:o.op=.store 141 x y)
  (es:List Int) (hx:a.eval x=.pointer (some ⟨wr.heap.size,0,none⟩)) (hy:a.eval y=.agg (es.map (Value.int .u64)).toArray) (hk:EOk es)
  {wa:World} (hwa:wa=wr.alloc (.cells #[.int .u64 0,.int .u64 0,.int .u64 0,.int .u64 0,.int .u64 0] 141))
  (hK:∀ w',Run w w' ((wr.heap.size,es)::R) E→wpList Tryz.prog ops Q rest (a.put o.dst undef) w') :
  wpList Tryz.prog ops Q (o::rest) a wa:=by
 subst hwa;exact wpList_storeE hgd x y ho wr.heap.size es [0,0,0,0,0] hx hy hk.1 rfl (row0 wr) fun w' hr hw=>hK w' (S.push ((below_new2 _ _).trans (hw.below (Nat.le_refl _))) hr hk)
theorem wpList_storeR {w wr:World} {R:List (Nat×List Int)} {E:List (Nat×Nat×List Int)} (S:Run w wr R E)
  {ops:Array Oper} {rest:List Oper} {o:Oper} {a:Act} {Q:Exit→Act→World→Prop} (hgd:o.guard=none) (x y:Operand) (ho:o.op=.store 141 x y)
  (i g:Nat) (zs es:List Int) (hi:R[i]?=some (g,zs)) (hx:a.eval x=.pointer (some ⟨g,0,none⟩)) (hy:a.eval y=.agg (es.map (Value.int .u64)).toArray) (hk:EOk es)
  {wa:World} (hwa:wa=wr)
  (hK:∀ w',Run w w' (R.set i (g,es)) E→wpList Tryz.prog ops Q rest (a.put o.dst undef) w') :
  wpList Tryz.prog ops Q (o::rest) a wa:=by
 subst hwa;exact wpList_storeE hgd x y ho g es zs hx hy hk.1 (S.ok i g zs hi).1 (S.row i g zs hi) fun w' hr hw=>hK w' (S.put i g zs es hi hw hr hk)
theorem Run.ret {w wr:World} {R:List (Nat×List Int)} {E:List (Nat×Nat×List Int)} (S:Run w wr R E) {fn:Func} {p:Tmp} (h:fn.results=#[.cell p 141]) (tmps:Array Value)
  (i g:Nat) (es:List Int) (hi:R[i]?=some (g,es)) (hp:tmps.getD p undef=.pointer (some ⟨g,0,none⟩)) :
  (results fn tmps).run Tryz.prog wr=.ok (.agg (es.map (Value.int .u64)).toArray) wr:=
 resE h tmps wr g es (S.ok i g es hi).1 hp (S.row i g es hi)
def m250 (n:Nat):Nat:=2^n-1
def M250:Nat:=m250 250
theorem ones250_any (g o:Nat) (xs:List Int) (w:World) (h:EAt w g o xs) :
  Calls Tryz.prog 159 #[.pointer (some ⟨g,o,none⟩),.int .i64 250] w (EP w (ev xs^M250%fp)):=ones_any 250 g o xs w (by decide) (by decide) h
attribute [irreducible] M250
theorem e250 (x:Int) (m k r:Nat):sqN (x^m%fp) k*(x^r%fp)%fp=x^(m*2^k+r)%fp:=by
 have b:0≤x^m%fp∧x^m%fp<fp:=by unfold fp;omega
 rw[sqN_eq _ b.1 b.2,pow_mod_pow,mod_mul_mod,←Int.pow_add]
theorem pow1_mod (x:Int) (h0:0≤x) (h1:x<fp):x^1%fp=x:=by
 rw[Int.pow_succ,Int.pow_zero,Int.one_mul];exact Int.emod_eq_of_lt h0 h1
set_option maxHeartbeats 2000000 in
theorem rootPower_of (g o:Nat) (xs:List Int) (w:World) (h:EAt w g o xs) (v1 goalv:Int) (hv1:ev xs^M250%fp=v1) (hgoal:sqN v1 2*ev xs%fp=goalv) :
  Calls Tryz.prog 161 #[.pointer (some ⟨g,o,none⟩)] w (EP w goalv):=by
 have hev:=ev_bd xs;have HE:=hdI <| hgoal
 have HV1:=hdI <| hv1
 have S0:=(Run.start w [(g,o,xs)] (fun e he=>by rcases List.mem_singleton.1 he with rfl;exact h)).room;have HO:=hdI <| S0
 clear S0 h hv1 hev hgoal;go_enter Tryz.func161,Tryz.ntmps161;go_wp2_with fail;refine(ones250_any g o xs _ (HO.out.el 0 _ _ _ rfl)).mono ?_;rintro e w1 ⟨es,hk,hv,rfl,b⟩;have HK1:Hid (EOk es∧ev es=v1):=⟨hk,hv.trans HV1.out⟩
 have S1:=HO.out.call b;have H1:=hdI <| S1
 clear S1 hk hv b HV1;go_wp2_with (first
  |(refine wpList_storeN H1.out rfl (.tmp 3) (.tmp 6) rfl es rfl rfl HK1.out.1 rfl ?_)
  |fail)
 intro w2 S2;have H2:=hdI <| S2
 clear S2 H1 HO;generalize w1.heap.size=G1 at *;go_wp2_with fail;refine(squared_any G1 0 es 2 _ (by decide) (H2.out.re 0 _ _ rfl)).mono ?_;rintro e w3 ⟨fs,hk,hv,rfl,b⟩;have HK2:Hid (EOk fs∧ev fs=sqN v1 2):=⟨hk,by rw[hv,HK1.out.2]⟩
 have H3:=hdI <| H2.out.call b
 clear H2 hk hv b;go_wp2_with (first
  |(refine wpList_storeN H3.out rfl (.tmp 4) (.tmp 7) rfl fs rfl rfl HK2.out.1 rfl ?_)
  |fail)
 intro w4 S4;have H4:=hdI <| S4
 clear S4 H3;generalize w3.heap.size=G2 at *;go_wp2_with fail;refine(times_any G2 0 g o fs xs _ (H4.out.re 0 _ _ rfl) (H4.out.el 0 _ _ _ rfl)).mono ?_;rintro e w5 ⟨us,hk,hv,rfl,b⟩;have HK3:Hid (EOk us∧ev us=goalv):=⟨hk,by rw[hv,HK2.out.2];exact HE.out⟩
 have H5:=hdI <| H4.out.call b
 clear H4 hk hv b;go_wp2_with (first
  |(refine wpList_storeR H5.out rfl (.tmp 2) (.tmp 9) rfl 2 w.heap.size [0,0,0,0,0] us rfl rfl rfl HK3.out.1 rfl ?_)
  |fail)
 intro w6 S6;have H6:=hdI <| S6
 clear S6 H5;go_wp2;exact bodyPost_ret (v:=.agg (us.map (Value.int .u64)).toArray) (H6.out.ret rfl _ 2 w.heap.size us rfl rfl) rfl ⟨us,HK3.out.1,HK3.out.2,rfl,H6.out.below⟩
theorem rootPower_any (g o:Nat) (xs:List Int) (w:World) (h:EAt w g o xs) :
  Calls Tryz.prog 161 #[.pointer (some ⟨g,o,none⟩)] w (EP w (ev xs^(M250*4+1)%fp)):=by
 have hev:=ev_bd xs;have e:=e250 (ev xs) M250 2 1;rw[pow1_mod _ hev.1 hev.2] at e;exact rootPower_of g o xs w h _ _ rfl e
def lsT (xs:List Int):Int:=gcy B51 (xs.set 0 (xs.getD 0 0+19)) 5
def lsE (xs:List Int):List Int:=sst (xs.set 0 (xs.getD 0 0+19*lsT xs)) 5
theorem sst_dig (xs:List Int):Dig B51 (sst xs 5):=by
 intro z hz;obtain⟨i,hi,rfl⟩:=List.getElem_of_mem hz;have:=sst_bd xs i;have e:(sst xs 5).getD i 0=(sst xs 5)[i]:=by simp[hi]
 rw[e] at this;unfold B51;exact this
theorem fp_lit:fp=57896044618658097711785492504343953926634992332820282019728792003956564819949:=by decide
theorem sst_lt (xs:List Int):0≤val B51 (sst xs 5)∧val B51 (sst xs 5)<fp+19:=by
 have d:=sst_dig xs;have a:=val_nonneg (B:=B51) (by decide) d;have b:=val_lt (B:=B51) (by decide) d;rw[sst_len] at b;have e2:(B51:Int)^5=fp+19:=by decide
 rw[e2] at b;exact⟨a,b⟩
theorem EOk.val {xs:List Int} (h:EOk xs):0≤val B51 xs∧val B51 xs<fp+19+256:=by
 obtain⟨hl,h0,h1,h2⟩:=h
 match xs,hl with
 |[a,b,c,d,e],_=>
  have a0:=h0 0;have b0:=h0 1;have c0:=h0 2;have d0:=h0 3;have e0:=h0 4;have b1:=h1 1 (by decide);have c1:=h1 2 (by decide);have d1:=h1 3 (by decide);have e1:=h1 4 (by decide);simp only[List.getD_cons_zero,List.getD_cons_succ] at a0 b0 c0 d0 e0 b1 c1 d1 e1 h2;simp only[Go.Proofs.YtncomnkdlpoelaaGreatDoor.val,B51,fp_lit];omega
theorem ls_case (V t r L c:Int) (h1:r+t*(fp+19)=V+19) (h2:L+c*(fp+19)=V+19*t) (hr:0≤r∧r<fp+19) (hL:0≤L∧L<fp+19) (hV:0≤V∧V<fp+19+256) :
  0≤t∧t≤1∧L=V%fp:=by
 rw[fp_lit] at *;have ht:t=0∨t=1:=by omega
 rcases ht with rfl|rfl
 ·have hc:c=0:=by omega
  subst hc;omega
 ·have hc:c=1:=by omega
  subst hc;omega
theorem lsE_all {xs:List Int} (h:EOk xs):0≤lsT xs∧lsT xs≤1∧val B51 (lsE xs)=ev xs:=by
 have hl:=h.1;have s1:=sst_val (xs.set 0 (xs.getD 0 0+19)) (by simp[hl]);have s2:=sst_val (xs.set 0 (xs.getD 0 0+19*lsT xs)) (by simp[hl]);rw[val_set _ _ _ _ (by omega)] at s1 s2;simp only[Int.pow_zero,Int.mul_one] at s1 s2;have hV:=h.val;have hr:=sst_lt (xs.set 0 (xs.getD 0 0+19));have hL:=sst_lt (xs.set 0 (xs.getD 0 0+19*lsT xs));have e1:gcy B51 (xs.set 0 (xs.getD 0 0+19)) 5=lsT xs:=rfl;rw[e1] at s1;unfold ev lsE;generalize gcy B51 (xs.set 0 (xs.getD 0 0+19*lsT xs)) 5=c at *;generalize val B51 (sst (xs.set 0 (xs.getD 0 0+19*lsT xs)) 5)=L at *;generalize val B51 (sst (xs.set 0 (xs.getD 0 0+19)) 5)=r at *;generalize xs.getD 0 0=x0 at *;generalize lsT xs=t at *;generalize val B51 xs=V at *;exact ls_case V t r L c (by omega) (by omega) hr hL hV
theorem lsE_len (xs:List Int):(lsE xs).length=5:=sst_len _ _
theorem lsE_ok (xs:List Int):EOk (lsE xs):=⟨lsE_len xs,fun i=>(sst_bd _ i).1,fun i _=>(sst_bd _ i).2,by have:=(sst_bd (xs.set 0 (xs.getD 0 0+19*lsT xs)) 0).2;unfold lsE;omega⟩
theorem lsE_eq {xs ys:List Int} (hx:EOk xs) (hy:EOk ys):lsE xs=lsE ys↔ev xs=ev ys:=by
 constructor
 ·intro h;rw[←(lsE_all hx).2.2,←(lsE_all hy).2.2,h]
 ·intro h;exact val_inj (B:=B51) (by decide) (sst_dig _) (sst_dig _) (by rw[lsE_len,lsE_len]) (by rw[(lsE_all hx).2.2,(lsE_all hy).2.2,h])
theorem lsE_u62 {xs:List Int} (h:EOk xs) (k:Int) (h0:0≤k) (h1:k≤19):U62 (xs.set 0 (xs.getD 0 0+k)):=by
 intro i;have hl:=h.1;rw[getD_set_eq _ _ _ _ (by omega)];have a:=h.2.1 i;have a0:=h.2.1 0;have b0:=h.2.2.2;split
 ·omega
 ·have b:=h.2.2.1 i (by omega);omega
theorem val_odd (es:List Int) (h:es.length=5):val B51 es%2=es.getD 0 0%2:=by
 match es,h with
 |[a,b,c,d,e],_=>
  simp only[Go.Proofs.YtncomnkdlpoelaaGreatDoor.val,B51,List.getD_cons_zero];omega
set_option maxHeartbeats 2000000 in
theorem leastE_any (g o:Nat) (xs:List Int) (w:World) (h:EAt w g o xs) :
  Calls Tryz.prog 123 #[.pointer (some ⟨g,o,none⟩)] w fun e w'=>e=.returned (.agg ((lsE xs).map (Value.int .u64)).toArray)∧Below w.heap.size w w':=by
 have hk:=h.2.1;obtain⟨ht0,ht1,_⟩:=lsE_all hk;have HX:=hdI <| hk
 have HO:Hid (Run w (w.alloc (.cells #[.int .u64 0,.int .u64 0,.int .u64 0,.int .u64 0,.int .u64 0] 141)) [(w.heap.size,[0,0,0,0,0])] [(g,o,xs)]):=
  (Run.start w [(g,o,xs)] (fun e he=>by rcases List.mem_singleton.1 he with rfl;exact h)).room
 have HN:Hid (Run w ((w.alloc (.cells #[.int .u64 0,.int .u64 0,.int .u64 0,.int .u64 0,.int .u64 0] 141)).alloc (.cells #[.int .u64 0,.int .u64 0,.int .u64 0,.int .u64 0,.int .u64 0] 141)) [(w.heap.size+1,[0,0,0,0,0]),(w.heap.size,[0,0,0,0,0])] [(g,o,xs)]):=by
  have:=HO.out.room;rw[show(w.alloc (.cells #[.int .u64 0,.int .u64 0,.int .u64 0,.int .u64 0,.int .u64 0] 141)).heap.size=w.heap.size+1 from by simp] at this;exact this
 clear h hk;go_enter Tryz.func123,Tryz.ntmps123;go_wp2_with (first
  |(refine wpList_loadE rfl (.tmp 7) rfl g o xs rfl (HO.out.el 0 _ _ _ rfl) ?_)
  |(refine wpList_storeR HN.out rfl (.tmp 3) (.tmp 8) rfl 0 (w.heap.size+1) [0,0,0,0,0] xs rfl rfl rfl HX.out rfl ?_)
  |fail)
 intro w1 S1;clear HO HN;have hl:=HX.out.1;have hx0:=HX.out.2.1 0;have hx1:=HX.out.2.2.2;have r1:=S1.row 0 (w.heap.size+1) xs rfl;have z1:=S1.row 1 w.heap.size [0,0,0,0,0] rfl;have e1:=S1.el 0 g o xs rfl;have b1:=S1.below;have hgw:=(S1.els (g,o,xs) (by simp)).1;have c0:=r1.cell 0 (by omega);have f0:=r1.frozen 0;have s1:StS w1 (w.heap.size+1) (xs.set 0 (xs.getD 0 0+19)) (w1.setCell ⟨w.heap.size+1,0,none⟩ (.int .u64 (xs.getD 0 0+19))):=⟨r1.set 0 _,(Wr.refl _ _).setCell 0 _⟩
 have HU1:=hdI <| lsE_u62 HX.out 19 (by decide) (by decide)
 have HU2:=hdI <| lsE_u62 HX.out (19*lsT xs) (by omega) (by omega)
 have HT:Hid (gcy B51 (xs.set 0 (xs.getD 0 0+19)) 5=lsT xs):=rfl;have HL5:=hdI <| hl
 have HS1:=hdI <| s1
 have HLS:Hid (sst (xs.set 0 (xs.getD 0 0+19*lsT xs)) 5=lsE xs):=rfl;have HZ1:=hdI <| z1
 have HE1:=hdI <| e1
 have HB1:=hdI <| b1
 have HXX:Hid (xs.getD 0 0=xs.getD 0 0):=rfl;clear S1 r1 z1 e1 b1 s1 hl;have hxx:∃ x0,x0=xs.getD 0 0:=⟨_,rfl⟩
 obtain⟨x0,hx0e⟩:=hxx;rw[←hx0e] at c0 hx0 hx1 HU1 HU2 HT HS1 HLS;have HX0:=hdI <| hx0e
 clear hx0e;go_wp2_with fail;generalize w1.setCell ⟨w.heap.size+1,0,none⟩ (.int .u64 (x0+19))=w2 at *;refine(settle_any (w.heap.size+1) (xs.set 0 (x0+19)) _ (by rw[List.length_set];exact HL5.out) HS1.out.row HU1.out).mono ?_;rintro e w3 ⟨rfl,st⟩;rw[HT.out];have W3:=HS1.out.wr.trans st.wr;have HZ3:=hdI <| W3.rowW HZ1.out (by omega)
 have HE3:=hdI <| HE1.out.wr W3 (by omega)
 have HB3:=hdI <| HB1.out.trans (W3.below (by omega))
 clear st W3 HS1 HZ1 HE1 HB1 HU1 HT c0 f0;have s3:=HB3.out.size;have HZN:=hdI <| row0 w3
 go_wp2_with (first
  |(refine wpList_loadE rfl (.tmp 15) rfl g o xs rfl HE3.out ?_)
  |(refine wpList_storeE rfl (.tmp 5) (.tmp 16) rfl w3.heap.size xs [0,0,0,0,0] rfl rfl HL5.out rfl HZN.out ?_)
  |fail)
 intro w4 r4 W4;have b4:=(below_new2 _ _).trans (W4.below (Nat.le_refl _));have hz3:=HZ3.out.lt;have HZ4:=hdI <| HZ3.out.below b4 hz3
 have HB4:=hdI <| HB3.out.trans (b4.mono s3)
 clear b4 W4 HZ3 HB3 HE3 HZN;generalize w3.heap.size=V at *;have c4:=r4.cell 0 (by rw[HL5.out];decide);have f4:=r4.frozen 0;rw[←HX0.out] at c4;have HS4:Hid (StS w4 V (xs.set 0 (x0+19*lsT xs)) (w4.setCell ⟨V,0,none⟩ (.int .u64 (x0+19*lsT xs)))):=⟨r4.set 0 _,(Wr.refl _ _).setCell 0 _⟩
 clear r4;generalize lsT xs=t at *;go_wp2_with fail;generalize w4.setCell ⟨V,0,none⟩ (.int .u64 (x0+19*t))=w5 at *;refine(settle_any V (xs.set 0 (x0+19*t)) _ (by rw[List.length_set];exact HL5.out) HS4.out.row HU2.out).mono ?_;rintro e w6 ⟨rfl,st⟩;have W6:=HS4.out.wr.trans st.wr;have HZ6:=hdI <| W6.rowW HZ4.out (by omega)
 have HB6:=hdI <| HB4.out.trans (W6.below (by omega))
 have r6:=st.row;rw[HLS.out] at r6;have HE6:=hdI <| EAt.of_row r6 (lsE_ok xs)
 have HLL:=hdI <| lsE_len xs
 clear st W6 HS4 HZ4 HB4 c4 f4 r6 HLS HU2;go_wp2_with (first
  |(refine wpList_loadE rfl (.tmp 5) rfl V 0 (lsE xs) rfl HE6.out ?_)
  |(refine wpList_storeE rfl (.tmp 2) (.tmp 24) rfl w.heap.size (lsE xs) [0,0,0,0,0] rfl rfl HLL.out rfl HZ6.out ?_)
  |fail)
 intro w7 r7 W7;have HR7:=hdI <| r7
 have HB7:=hdI <| HB6.out.trans (W7.below (Nat.le_refl _))
 clear r7 W7 HZ6 HE6 HB6;go_wp2;exact bodyPost_ret (v:=.agg ((lsE xs).map (Value.int .u64)).toArray) (resE rfl _ _ w.heap.size (lsE xs) HLL.out rfl HR7.out) rfl ⟨rfl,HB7.out⟩
theorem decide_lsE {xs ys:List Int} (hx:EOk xs) (hy:EOk ys):decide (lsE xs=lsE ys)=decide (ev xs=ev ys):=by
 rw[decide_eq_decide];exact lsE_eq hx hy
set_option maxHeartbeats 1000000 in
theorem equalsE_any (g1 o1 g2 o2:Nat) (xs ys:List Int) (w:World) (h1:EAt w g1 o1 xs) (h2:EAt w g2 o2 ys) :
  Calls Tryz.prog 162 #[.pointer (some ⟨g1,o1,none⟩),.pointer (some ⟨g2,o2,none⟩)] w fun e w'=>e=.returned (.bool (decide (ev xs=ev ys)))∧Below w.heap.size w w':=by
 have HD:=hdI <| decide_lsE h1.2.1 h2.2.1
 have H2:=hdI <| h2
 have hml:=lsE_len xs;have hnl:=lsE_len ys;go_enter Tryz.func162,Tryz.ntmps162;go_wp2_with fail;refine(leastE_any g1 o1 xs _ h1).mono ?_;rintro e w1 ⟨rfl,b1⟩;have h2':=H2.out.below b1;have HB1:=hdI <| b1
 clear h1 h2 b1 H2;go_wp2_with fail;refine(leastE_any g2 o2 ys _ h2').mono ?_;rintro e w2 ⟨rfl,b2⟩;have HB2:=hdI <| HB1.out.trans (b2.mono HB1.out.size)
 clear h2' b2 HB1;go_wp2_with (simp only[run_eqW _ 9998 5 141 Tryz.underlying141 (lsE xs) (lsE ys) hml hnl]);rw[HD.out];obtain⟨q,hq⟩:∃ q,q=decide (ev xs=ev ys):=⟨_,rfl⟩
 rw[←hq];have HQQ:=hdI <| hq
 clear hq HD;simp only[Result.andThen_ok];go_simp;go_wp2
 go_ret
 exact⟨by rw[HQQ.out];rfl,HB2.out⟩
set_option maxHeartbeats 1000000 in
theorem isOdd_any (g o:Nat) (xs:List Int) (w:World) (h:EAt w g o xs) :
  Calls Tryz.prog 125 #[.pointer (some ⟨g,o,none⟩)] w fun e w'=>e=.returned (.bool (ev xs%2 == 1))∧Below w.heap.size w w':=by
 have HV:Hid ((lsE xs).getD 0 0%2=ev xs%2):=by
  show _=_
  rw[←val_odd _ (lsE_len xs),(lsE_all h.2.1).2.2]
 have HA:Hid (bits .and .u64 ((lsE xs).getD 0 0) 1=(lsE xs).getD 0 0%2):=u64_and_mask _ 1 ((lsE_ok xs).2.1 0) (by have:=(lsE_ok xs).2.2.2;omega) 1 (by decide) (by decide);go_enter Tryz.func125,Tryz.ntmps125;go_wp2_with fail;refine(leastE_any g o xs _ h).mono ?_;rintro e w1 ⟨rfl,b1⟩;have HB1:Hid (Below w.heap.size w w1):=b1;have HLL:Hid ((lsE xs).length=5):=lsE_len xs;have HZN:Hid (RowW (w1.alloc (.cells #[.int .u64 0,.int .u64 0,.int .u64 0,.int .u64 0,.int .u64 0] 141)) w1.heap.size 141 [0,0,0,0,0]):=row0 w1;clear h b1;go_wp2_with (first
  |(refine wpList_storeE rfl (.tmp 3) (.tmp 5) rfl w1.heap.size (lsE xs) [0,0,0,0,0] rfl rfl HLL.out rfl HZN.out ?_)
  |fail)
 intro w2 r2 W2;have HB2:Hid (Below w.heap.size w w2):=HB1.out.trans (((below_new2 _ _).trans (W2.below (Nat.le_refl _))).mono HB1.out.size);have c2:=r2.cell 0 (by rw[HLL.out];decide);clear W2 HZN r2 HB1;generalize w1.heap.size=V at *;generalize (lsE xs).getD 0 0=x at *;go_wp2;rw[HA.out,HV.out]
 go_ret
 exact⟨rfl,HB2.out⟩
set_option maxHeartbeats 1000000 in
theorem negated_any (g o:Nat) (xs:List Int) (w:World) (h:EAt w g o xs) :
  Calls Tryz.prog 126 #[.pointer (some ⟨g,o,none⟩)] w (EP w ((0-ev xs)%fp)):=by
 have HO:Hid (Run w (w.alloc (.cells #[.int .u64 0,.int .u64 0,.int .u64 0,.int .u64 0,.int .u64 0] 141)) [(w.heap.size,[0,0,0,0,0])] [(g,o,xs)]):=
  (Run.start w [(g,o,xs)] (fun e he=>by rcases List.mem_singleton.1 he with rfl;exact h)).room
 have HN:Hid (Run w ((w.alloc (.cells #[.int .u64 0,.int .u64 0,.int .u64 0,.int .u64 0,.int .u64 0] 141)).alloc (.cells #[.int .u64 0,.int .u64 0,.int .u64 0,.int .u64 0,.int .u64 0] 141)) [(w.heap.size+1,[0,0,0,0,0]),(w.heap.size,[0,0,0,0,0])] [(g,o,xs)]):=by
  have:=HO.out.room;rw[show(w.alloc (.cells #[.int .u64 0,.int .u64 0,.int .u64 0,.int .u64 0,.int .u64 0] 141)).heap.size=w.heap.size+1 from by simp] at this;exact this
 have HZ:Hid (ev [0,0,0,0,0]=0):=by show _=_;decide
 clear h HO;go_enter Tryz.func126,Tryz.ntmps126;go_wp2_with fail;refine(minus_any (w.heap.size+1) 0 g o [0,0,0,0,0] xs _ (HN.out.re 0 _ _ rfl) (HN.out.el 0 _ _ _ rfl)).mono ?_;rintro e w1 ⟨es,hk,hv,rfl,b⟩;rw[HZ.out] at hv;have HK:Hid (EOk es∧ev es=(0-ev xs)%fp):=⟨hk,hv⟩
 have H1:=hdI <| HN.out.call b
 clear hk hv b HN;go_wp2_with (first
  |(refine wpList_storeR H1.out rfl (.tmp 2) (.tmp 5) rfl 1 w.heap.size [0,0,0,0,0] es rfl rfl rfl HK.out.1 rfl ?_)
  |fail)
 intro w2 S2;have H2:=hdI <| S2
 clear S2 H1;go_wp2;exact bodyPost_ret (v:=.agg (es.map (Value.int .u64)).toArray) (H2.out.ret rfl _ 1 w.heap.size es rfl rfl) rfl ⟨es,HK.out.1,HK.out.2,rfl,H2.out.below⟩
def pl (x y z t:List Int):List Int:=x++(y++(z++t))
def over (zs:List Int):Nat→List Int→List Int
 |_,[]=>zs
 |o,a::r=>over (zs.set o a) (o+1) r
theorem RowW.setCells {g:Nat} {e:TypeId}:∀(es zs:List Int) (w:World) (o:Nat),RowW w g e zs→RowW (w.setCells g o (es.map (Value.int .u64))) g e (over zs o es)
 |[],_,_,_,h=>h
 |a::r,zs,w,o,h=>RowW.setCells r (zs.set o a) _ (o+1) (h.set o a)
theorem Wr.setCells {g:Nat} {v:World}:∀(es:List Value) (w:World) (o:Nat),Wr g v w→Wr g v (w.setCells g o es)
 |[],_,_,h=>h
 |a::r,w,o,h=>Wr.setCells r _ (o+1) (h.setCell o a)
theorem over_x {x y z t es:List Int} (hx:x.length=5) (he:es.length=5):over (pl x y z t) 0 es=pl es y z t:=by
 match x,hx,es,he with
 |[_,_,_,_,_],_,[_,_,_,_,_],_=>rfl
theorem over_y {x y z t es:List Int} (hx:x.length=5) (hy:y.length=5) (he:es.length=5):over (pl x y z t) 5 es=pl x es z t:=by
 match x,hx,y,hy,es,he with
 |[_,_,_,_,_],_,[_,_,_,_,_],_,[_,_,_,_,_],_=>rfl
theorem over_z {x y z t es:List Int} (hx:x.length=5) (hy:y.length=5) (hz:z.length=5) (he:es.length=5):over (pl x y z t) 10 es=pl x y es t:=by
 match x,hx,y,hy,z,hz,es,he with
 |[_,_,_,_,_],_,[_,_,_,_,_],_,[_,_,_,_,_],_,[_,_,_,_,_],_=>rfl
theorem over_t {x y z t es:List Int} (hx:x.length=5) (hy:y.length=5) (hz:z.length=5) (ht:t.length=5) (he:es.length=5):over (pl x y z t) 15 es=pl x y z es:=by
 match x,hx,y,hy,z,hz,t,ht,es,he with
 |[_,_,_,_,_],_,[_,_,_,_,_],_,[_,_,_,_,_],_,[_,_,_,_,_],_,[_,_,_,_,_],_=>rfl
structure Pt (w:World) (g:Nat) (x y z t:List Int):Prop where
 row:RowW w g 143 (pl x y z t)
 x:EOk x
 y:EOk y
 z:EOk z
 t:EOk t
theorem Pt.at {w:World} {g:Nat} {x y z t:List Int} (h:Pt w g x y z t) (o:Nat) (es:List Int) (hk:EOk es) (ho:o+5≤20) (he:∀ i,i<5→(pl x y z t).getD (o+i) 0=es.getD i 0):EAt w g o es:=
 ⟨h.row.lt,hk,fun i hi=>by
  have hl:(pl x y z t).length=20:=by unfold pl;simp[h.x.1,h.y.1,h.z.1,h.t.1]
  rw[h.row.cell (o+i) (by omega),he i hi]⟩
theorem Pt.ex {w:World} {g:Nat} {x y z t:List Int} (h:Pt w g x y z t):EAt w g 0 x:=h.at 0 x h.x (by omega) fun i hi=>by
 match x,h.x.1,i,hi with
 |[_,_,_,_,_],_,0,_=>rfl
 |[_,_,_,_,_],_,1,_=>rfl
 |[_,_,_,_,_],_,2,_=>rfl
 |[_,_,_,_,_],_,3,_=>rfl
 |[_,_,_,_,_],_,4,_=>rfl
theorem Pt.ey {w:World} {g:Nat} {x y z t:List Int} (h:Pt w g x y z t):EAt w g 5 y:=h.at 5 y h.y (by omega) fun i hi=>by
 match x,h.x.1,y,h.y.1,i,hi with
 |[_,_,_,_,_],_,[_,_,_,_,_],_,0,_=>rfl
 |[_,_,_,_,_],_,[_,_,_,_,_],_,1,_=>rfl
 |[_,_,_,_,_],_,[_,_,_,_,_],_,2,_=>rfl
 |[_,_,_,_,_],_,[_,_,_,_,_],_,3,_=>rfl
 |[_,_,_,_,_],_,[_,_,_,_,_],_,4,_=>rfl
theorem Pt.ez {w:World} {g:Nat} {x y z t:List Int} (h:Pt w g x y z t):EAt w g 10 z:=h.at 10 z h.z (by omega) fun i hi=>by
 match x,h.x.1,y,h.y.1,z,h.z.1,i,hi with
 |[_,_,_,_,_],_,[_,_,_,_,_],_,[_,_,_,_,_],_,0,_=>rfl
 |[_,_,_,_,_],_,[_,_,_,_,_],_,[_,_,_,_,_],_,1,_=>rfl
 |[_,_,_,_,_],_,[_,_,_,_,_],_,[_,_,_,_,_],_,2,_=>rfl
 |[_,_,_,_,_],_,[_,_,_,_,_],_,[_,_,_,_,_],_,3,_=>rfl
 |[_,_,_,_,_],_,[_,_,_,_,_],_,[_,_,_,_,_],_,4,_=>rfl
theorem Pt.et {w:World} {g:Nat} {x y z t:List Int} (h:Pt w g x y z t):EAt w g 15 t:=h.at 15 t h.t (by omega) fun i hi=>by
 match x,h.x.1,y,h.y.1,z,h.z.1,t,h.t.1,i,hi with
 |[_,_,_,_,_],_,[_,_,_,_,_],_,[_,_,_,_,_],_,[_,_,_,_,_],_,0,_=>rfl
 |[_,_,_,_,_],_,[_,_,_,_,_],_,[_,_,_,_,_],_,[_,_,_,_,_],_,1,_=>rfl
 |[_,_,_,_,_],_,[_,_,_,_,_],_,[_,_,_,_,_],_,[_,_,_,_,_],_,2,_=>rfl
 |[_,_,_,_,_],_,[_,_,_,_,_],_,[_,_,_,_,_],_,[_,_,_,_,_],_,3,_=>rfl
 |[_,_,_,_,_],_,[_,_,_,_,_],_,[_,_,_,_,_],_,[_,_,_,_,_],_,4,_=>rfl
structure RunP (w wr:World) (g:Nat) (x y z t:List Int) (R:List (Nat×List Int)) (E:List (Nat×Nat×List Int)):Prop where
 wrh:WrH g w wr
 lt:g<w.heap.size
 pt:Pt wr g x y z t
 rows:∀ r∈R,w.heap.size≤r.1∧RowW wr r.1 141 r.2∧EOk r.2
 order:R.Pairwise fun a b=>b.1<a.1
 els:∀ e∈E,e.1<w.heap.size∧e.1≠g∧EAt wr e.1 e.2.1 e.2.2
section
variable {w wr w':World} {g:Nat} {x y z t:List Int} {R:List (Nat×List Int)} {E:List (Nat×Nat×List Int)}
theorem RunP.start (h:Pt w g x y z t) (E:List (Nat×Nat×List Int)) (he:∀ e∈E,e.1≠g∧EAt w e.1 e.2.1 e.2.2):RunP w w g x y z t [] E:=
 ⟨WrH.refl _ _,h.row.lt,h,by simp,List.Pairwise.nil,fun e hm=>⟨(he e hm).2.1,(he e hm).1,(he e hm).2⟩⟩
theorem Pt.below (h:Pt w g x y z t) {B:Nat} (b:Below B w w') (hB:g<B):Pt w' g x y z t:=⟨h.row.below b hB,h.x,h.y,h.z,h.t⟩
theorem RunP.call (h:RunP w wr g x y z t R E) (b:Below wr.heap.size wr w'):RunP w w' g x y z t R E:=
 ⟨h.wrh.trans (WrH.of_below b),h.lt,h.pt.below b h.pt.row.lt,fun r hr=>⟨(h.rows r hr).1,(h.rows r hr).2.1.below b (h.rows r hr).2.1.lt,(h.rows r hr).2.2⟩,h.order,fun e he=>⟨(h.els e he).1,(h.els e he).2.1,(h.els e he).2.2.below b⟩⟩
theorem RunP.push (h:RunP w wr g x y z t R E) (b:Below wr.heap.size wr w') {es:List Int} (hr:RowW w' wr.heap.size 141 es) (hk:EOk es) :
  RunP w w' g x y z t ((wr.heap.size,es)::R) E:=by
 have c:=h.call b;refine⟨c.wrh,c.lt,c.pt,?_,?_,c.els⟩
 ·intro r hm;rcases List.mem_cons.1 hm with rfl|hm
  ·exact⟨h.wrh.size,hr,hk⟩
  ·exact c.rows r hm
 ·exact List.Pairwise.cons (fun r hm=>(h.rows r hm).2.1.lt) h.order
theorem RunP.el (h:RunP w wr g x y z t R E) (i:Nat) (G o:Nat) (es:List Int) (hi:E[i]?=some (G,o,es)):EAt wr G o es:=
 (h.els _ (List.mem_of_getElem? hi)).2.2
theorem RunP.row (h:RunP w wr g x y z t R E) (i:Nat) (G:Nat) (es:List Int) (hi:R[i]?=some (G,es)):RowW wr G 141 es:=
 (h.rows _ (List.mem_of_getElem? hi)).2.1
theorem RunP.ok (h:RunP w wr g x y z t R E) (i:Nat) (G:Nat) (es:List Int) (hi:R[i]?=some (G,es)):EOk es:=
 (h.rows _ (List.mem_of_getElem? hi)).2.2
theorem RunP.re (h:RunP w wr g x y z t R E) (i:Nat) (G:Nat) (es:List Int) (hi:R[i]?=some (G,es)):EAt wr G 0 es:=
 EAt.of_row (h.row i G es hi) (h.ok i G es hi)
theorem RunP.put (h:RunP w wr g x y z t R E) (i:Nat) (G:Nat) (zs es:List Int) (hi:R[i]?=some (G,zs)) (hw:Wr G wr w') (hr:RowW w' G 141 es) (hk:EOk es) :
  RunP w w' g x y z t (R.set i (G,es)) E:=by
 have hg:=(h.rows _ (List.mem_of_getElem? hi)).1;have hil:=(List.getElem?_eq_some_iff.1 hi).1;have hie:=(List.getElem?_eq_some_iff.1 hi).2;have ho:=List.pairwise_iff_getElem.1 h.order;have hgl:=h.lt;have b:=hw.below hg;refine⟨⟨hw.os.trans h.wrh.os,hw.tape.trans h.wrh.tape,hw.output.trans h.wrh.output,by rw[hw.size];exact h.wrh.size,fun k hk hg'=>(hw.block k (by omega)).trans (h.wrh.block k hk hg')⟩,h.lt,h.pt.below b h.lt,?_,?_,fun e he=>⟨(h.els e he).1,(h.els e he).2.1,(h.els e he).2.2.wr hw (by have:=(h.els e he).1;omega)⟩⟩
 ·intro r hm;obtain⟨j,hj,rfl⟩:=List.getElem_of_mem hm;rw[List.length_set] at hj;rw[List.getElem_set];split
  ·exact⟨hg,hr,hk⟩
  ·rename_i hne
   have q:=h.rows _ (List.getElem_mem hj);refine⟨q.1,hw.rowW q.2.1 ?_,q.2.2⟩;rcases Nat.lt_or_gt_of_ne hne with hlt|hgt
   ·have:=ho i j hil hj hlt;rw[hie] at this;simp only at this;omega
   ·have:=ho j i hj hil hgt;rw[hie] at this;simp only at this;omega
 ·rw[List.pairwise_iff_getElem];intro a b ha hb hab;rw[List.length_set] at ha hb;have:=ho a b ha hb hab;rw[List.getElem_set,List.getElem_set];split<;>split<;>simp_all
theorem RunP.point (h:RunP w wr g x y z t R E) {x' y' z' t':List Int} (hw:Wr g wr w') (hp:Pt w' g x' y' z' t'):RunP w w' g x' y' z' t' R E:=
 ⟨h.wrh.trans hw.wrH,h.lt,hp,fun r hr=>⟨(h.rows r hr).1,hw.rowW (h.rows r hr).2.1 (by have:=(h.rows r hr).1;have:=h.lt;omega),(h.rows r hr).2.2⟩,h.order,fun e he=>⟨(h.els e he).1,(h.els e he).2.1,(h.els e he).2.2.wr hw (h.els e he).2.1⟩⟩
variable {ops:Array Oper} {rest:List Oper} {o:Oper} {a:Act} {Q:Exit→Act→World→Prop}
theorem wpList_newP (S:RunP w wr g x y z t R E) (hgd:o.guard=none) (px py:Operand) (ho:o.op=.store 141 px py)
  (es:List Int) (hx:a.eval px=.pointer (some ⟨wr.heap.size,0,none⟩)) (hy:a.eval py=.agg (es.map (Value.int .u64)).toArray) (hk:EOk es)
  {wa:World} (hwa:wa=wr.alloc (.cells #[.int .u64 0,.int .u64 0,.int .u64 0,.int .u64 0,.int .u64 0] 141))
  (hK:∀ w',RunP w w' g x y z t ((wr.heap.size,es)::R) E→wpList Tryz.prog ops Q rest (a.put o.dst undef) w') :
  wpList Tryz.prog ops Q (o::rest) a wa:=by
 subst hwa;exact wpList_storeE hgd px py ho wr.heap.size es [0,0,0,0,0] hx hy hk.1 rfl (row0 wr) fun w' hr hw=>hK w' (S.push ((below_new2 _ _).trans (hw.below (Nat.le_refl _))) hr hk)
theorem wpList_rowP (S:RunP w wr g x y z t R E) (hgd:o.guard=none) (px py:Operand) (ho:o.op=.store 141 px py)
  (i G:Nat) (zs es:List Int) (hi:R[i]?=some (G,zs)) (hx:a.eval px=.pointer (some ⟨G,0,none⟩)) (hy:a.eval py=.agg (es.map (Value.int .u64)).toArray) (hk:EOk es)
  {wa:World} (hwa:wa=wr)
  (hK:∀ w',RunP w w' g x y z t (R.set i (G,es)) E→wpList Tryz.prog ops Q rest (a.put o.dst undef) w') :
  wpList Tryz.prog ops Q (o::rest) a wa:=by
 subst hwa;exact wpList_storeE hgd px py ho G es zs hx hy hk.1 (S.ok i G zs hi).1 (S.row i G zs hi) fun w' hr hw=>hK w' (S.put i G zs es hi hw hr hk)
theorem RunP.there (S:RunP w wr g x y z t R E) (p:Nat) (hp:p+5≤20):wr.there g p 5:=fun j hj=>by
 have hl:(pl x y z t).length=20:=by unfold pl;simp[S.pt.x.1,S.pt.y.1,S.pt.z.1,S.pt.t.1]
 exact⟨by rw[S.pt.row.cell (p+j) (by omega)];rfl,S.pt.row.frozen _⟩
theorem wpList_midP (S:RunP w wr g x y z t R E) (hgd:o.guard=none) (px py:Operand) (ho:o.op=.store 141 px py)
  (p:Nat) (hp:p+5≤20) (es x' y' z' t':List Int) (hov:over (pl x y z t) p es=pl x' y' z' t') (hk':EOk x'∧EOk y'∧EOk z'∧EOk t') (hx:a.eval px=.pointer (some ⟨g,p,none⟩)) (hy:a.eval py=.agg (es.map (Value.int .u64)).toArray) (hk:EOk es)
  {wa:World} (hwa:wa=wr)
  (hK:∀ w',RunP w w' g x' y' z' t' R E→wpList Tryz.prog ops Q rest (a.put o.dst undef) w') :
  wpList Tryz.prog ops Q (o::rest) a wa:=by
 subst hwa;have hsz:((es.map (Value.int .u64)).toArray).size=5:=by simp[hk.1]
 refine wpList_store_mid hgd 141 px py ho g p ((es.map (Value.int .u64)).toArray) hx hy (by rw[hsz];exact S.there p hp) (sizeEl hk.1) (all_oneCell_toArray (ints_oneCell _ _)) (hK _ ?_);have hr:=RowW.setCells es (pl x y z t) wa p S.pt.row;rw[hov] at hr;exact S.point (Wr.setCells _ _ p (Wr.refl _ _)) ⟨hr,hk'.1,hk'.2.1,hk'.2.2.1,hk'.2.2.2⟩
end
def rpF (x:Int):Int:=x^(M250*4+1)%fp
def rtF (u v:Int):Int:=(u*(sqN v 1*v%fp)%fp)*rpF (u*(sqN v 1*v%fp)%fp*sqN v 2%fp)%fp
def rcF (u v:Int):Int:=sqN (rtF u v) 1*v%fp
def sm1L:List Int:=[1718705420411056,234908883556509,2233514472574048,2117202627021982,765476049583133]
def curveDL:List Int:=[929955233495203,466365720129213,1662059464998953,2033849074728123,1442794654840575]
def curveD2L:List Int:=[1859910466990425,932731440258426,1072319116312658,1815898335770999,633789495995903]
def drR (u v:Int):Bool:=decide (rcF u v=u) || decide (rcF u v=(0-u)%fp)
def drX (u v:Int):Int:=if rcF u v=u then rtF u v else rtF u v*ev sm1L%fp
def DP (w:World) (g:Nat) (y z t:List Int) (u v:Int) (e:Ending) (w':World):Prop:=
 ∃ xs,EOk xs∧e=.returned (.bool (drR u v))∧ev xs=drX u v∧Pt w' g xs y z t∧WrH g w w'
theorem ok5 (a b c d e:Int) (ha:0≤a∧a<2251799813685504) (hb:0≤b∧b<2251799813685248) (hc:0≤c∧c<2251799813685248) (hd:0≤d∧d<2251799813685248) (he:0≤e∧e<2251799813685248):EOk [a,b,c,d,e]:=by
 refine⟨rfl,fun i=>?_,fun i hi=>?_,ha.2⟩
 ·rcases i with _|_|_|_|_|i<;>simp<;>omega
 ·rcases i with _|_|_|_|_|i<;>simp<;>omega
def oneL:List Int:=[1,0,0,0,0]
theorem one_ok:EOk oneL:=ok5 _ _ _ _ _ (by decide) (by decide) (by decide) (by decide) (by decide)
theorem sm1_ok:EOk sm1L:=ok5 _ _ _ _ _ (by decide) (by decide) (by decide) (by decide) (by decide)
theorem curveD_ok:EOk curveDL:=ok5 _ _ _ _ _ (by decide) (by decide) (by decide) (by decide) (by decide)
theorem curveD2_ok:EOk curveD2L:=ok5 _ _ _ _ _ (by decide) (by decide) (by decide) (by decide) (by decide)
set_option maxHeartbeats 1000000 in
theorem curveD_any (w:World):Calls Tryz.prog 149 #[] w (EP w (ev curveDL)):=by
 have HS0:=hdI <| (Run.start w [] (by simp)).room
 go_enter Tryz.func149,Tryz.ntmps149;go_wp2_with (first
  |(refine wpList_storeR HS0.out rfl (.tmp 0) (.tmp 1) rfl 0 w.heap.size [0,0,0,0,0] curveDL rfl rfl rfl curveD_ok rfl ?_)
  |fail)
 intro w1 S1;have H1:=hdI <| S1
 go_wp2;exact bodyPost_ret (v:=.agg (curveDL.map (Value.int .u64)).toArray) (H1.out.ret rfl _ 0 w.heap.size curveDL rfl rfl) rfl ⟨curveDL,curveD_ok,rfl,rfl,H1.out.below⟩
set_option maxHeartbeats 1000000 in
theorem curveD2_any (w:World):Calls Tryz.prog 137 #[] w (EP w (ev curveD2L)):=by
 have HS0:=hdI <| (Run.start w [] (by simp)).room
 go_enter Tryz.func137,Tryz.ntmps137;go_wp2_with (first
  |(refine wpList_storeR HS0.out rfl (.tmp 0) (.tmp 1) rfl 0 w.heap.size [0,0,0,0,0] curveD2L rfl rfl rfl curveD2_ok rfl ?_)
  |fail)
 intro w1 S1;have H1:=hdI <| S1
 go_wp2;exact bodyPost_ret (v:=.agg (curveD2L.map (Value.int .u64)).toArray) (H1.out.ret rfl _ 0 w.heap.size curveD2L rfl rfl) rfl ⟨curveD2L,curveD2_ok,rfl,rfl,H1.out.below⟩
set_option maxHeartbeats 1000000 in
theorem sm1_any (w:World):Calls Tryz.prog 163 #[] w (EP w (ev sm1L)):=by
 have HS0:=hdI <| (Run.start w [] (by simp)).room
 go_enter Tryz.func163,Tryz.ntmps163;go_wp2_with (first
  |(refine wpList_storeR HS0.out rfl (.tmp 0) (.tmp 1) rfl 0 w.heap.size [0,0,0,0,0] sm1L rfl rfl rfl sm1_ok rfl ?_)
  |fail)
 intro w1 S1;have H1:=hdI <| S1
 go_wp2;exact bodyPost_ret (v:=.agg (sm1L.map (Value.int .u64)).toArray) (H1.out.ret rfl _ 0 w.heap.size sm1L rfl rfl) rfl ⟨sm1L,sm1_ok,rfl,rfl,H1.out.below⟩
def uF (Y:Int):Int:=(sqN Y 1-ev oneL)%fp
def vF (Y:Int):Int:=(sqN Y 1*ev curveDL%fp+ev oneL)%fp
set_option maxHeartbeats 4000000 in
theorem divideRoot_any (g:Nat) (x y z t:List Int) (g1 o1 g2 o2:Nat) (us vs:List Int) (w:World) (hp:Pt w g x y z t) (hu:EAt w g1 o1 us) (hv:EAt w g2 o2 vs) (hg1:g1≠g) (hg2:g2≠g) :
  Calls Tryz.prog 151 #[.pointer (some ⟨g,0,none⟩),.pointer (some ⟨g1,o1,none⟩),.pointer (some ⟨g2,o2,none⟩)] w (DP w g y z t (ev us) (ev vs)):=by
 have HS0:Hid (RunP w w g x y z t [] [(g1,o1,us),(g2,o2,vs)]):=RunP.start hp _ (fun e he=>by
  simp only[List.mem_cons,List.not_mem_nil,or_false] at he;rcases he with rfl|rfl
  ·exact⟨hg1,hu⟩
  ·exact⟨hg2,hv⟩)
 go_enter Tryz.func151,Tryz.ntmps151;go_wp2_with fail;refine(squared_any g2 o2 vs 1 _ (by decide) (HS0.out.el 1 _ _ _ rfl)).mono ?_;rintro e w1 ⟨c1,hk,hv,rfl,b⟩;have HKc1:Hid (EOk c1∧ev c1=sqN (ev vs) 1):=⟨hk,hv⟩
 have HS1:=hdI <| HS0.out.call b
 go_wp2_with (first
  |(refine wpList_newP HS1.out rfl (.tmp 7) (.tmp 17) rfl c1 rfl rfl HKc1.out.1 rfl ?_)
  |fail)
 intro w2 S;have HS2:=hdI <| S
 generalize w1.heap.size=G2 at *;go_wp2_with fail;refine(times_any G2 0 g2 o2 c1 vs _ (HS2.out.re 0 _ _ rfl) (HS2.out.el 1 _ _ _ rfl)).mono ?_;rintro e w3 ⟨c2,hk,hv,rfl,b⟩;have HKc2:Hid (EOk c2∧ev c2=ev c1*ev vs%fp):=⟨hk,hv⟩
 have HS3:=hdI <| HS2.out.call b
 go_wp2_with (first
  |(refine wpList_rowP HS3.out rfl (.tmp 7) (.tmp 19) rfl 0 G2 c1 c2 rfl rfl rfl HKc2.out.1 rfl ?_)
  |fail)
 intro w4 S;have HS4:=hdI <| S
 go_wp2_with fail;refine(times_any g1 o1 G2 0 us c2 _ (HS4.out.el 0 _ _ _ rfl) (HS4.out.re 0 _ _ rfl)).mono ?_;rintro e w5 ⟨st,hk,hv,rfl,b⟩;have HKst:Hid (EOk st∧ev st=ev us*ev c2%fp):=⟨hk,hv⟩
 have HS5:=hdI <| HS4.out.call b
 go_wp2_with (first
  |(refine wpList_newP HS5.out rfl (.tmp 8) (.tmp 21) rfl st rfl rfl HKst.out.1 rfl ?_)
  |fail)
 intro w6 S;have HS6:=hdI <| S
 generalize w5.heap.size=G6 at *;go_wp2_with fail;refine(squared_any g2 o2 vs 2 _ (by decide) (HS6.out.el 1 _ _ _ rfl)).mono ?_;rintro e w7 ⟨f4,hk,hv,rfl,b⟩;have HKf4:Hid (EOk f4∧ev f4=sqN (ev vs) 2):=⟨hk,hv⟩
 have HS7:=hdI <| HS6.out.call b
 go_wp2_with (first
  |(refine wpList_newP HS7.out rfl (.tmp 9) (.tmp 23) rfl f4 rfl rfl HKf4.out.1 rfl ?_)
  |fail)
 intro w8 S;have HS8:=hdI <| S
 generalize w7.heap.size=G8 at *;go_wp2_with fail;refine(times_any G6 0 G8 0 st f4 _ (HS8.out.re 1 _ _ rfl) (HS8.out.re 0 _ _ rfl)).mono ?_;rintro e w9 ⟨bs,hk,hv,rfl,b⟩;have HKbs:Hid (EOk bs∧ev bs=ev st*ev f4%fp):=⟨hk,hv⟩
 have HS9:=hdI <| HS8.out.call b
 go_wp2_with (first
  |(refine wpList_newP HS9.out rfl (.tmp 10) (.tmp 24) rfl bs rfl rfl HKbs.out.1 rfl ?_)
  |fail)
 intro w10 S;have HS10:=hdI <| S
 generalize w9.heap.size=G10 at *;go_wp2_with fail;refine(rootPower_any G10 0 bs _ (HS10.out.re 0 _ _ rfl)).mono ?_;rintro e w11 ⟨pw,hk,hv,rfl,b⟩;have HKpw:Hid (EOk pw∧ev pw=rpF (ev bs)):=⟨hk,hv⟩
 have HS11:=hdI <| HS10.out.call b
 go_wp2_with (first
  |(refine wpList_newP HS11.out rfl (.tmp 11) (.tmp 25) rfl pw rfl rfl HKpw.out.1 rfl ?_)
  |fail)
 intro w12 S;have HS12:=hdI <| S
 generalize w11.heap.size=G12 at *;go_wp2_with fail;refine(times_any G6 0 G12 0 st pw _ (HS12.out.re 3 _ _ rfl) (HS12.out.re 0 _ _ rfl)).mono ?_;rintro e w13 ⟨rt,hk,hv,rfl,b⟩;have HKrt:Hid (EOk rt∧ev rt=ev st*ev pw%fp):=⟨hk,hv⟩
 have HS13:=hdI <| HS12.out.call b
 go_wp2_with (first
  |(refine wpList_midP HS13.out rfl (.tmp 28) (.tmp 27) rfl 0 (by decide) rt rt y z t (over_x HS13.out.pt.x.1 HKrt.out.1.1) ⟨HKrt.out.1,HS13.out.pt.y,HS13.out.pt.z,HS13.out.pt.t⟩ rfl rfl HKrt.out.1 rfl ?_)
  |fail)
 intro w14 S;have HS14:=hdI <| S
 go_wp2_with fail;refine(squared_any g 0 rt 1 _ (by decide) HS14.out.pt.ex).mono ?_;rintro e w15 ⟨sq,hk,hv,rfl,b⟩;have HKsq:Hid (EOk sq∧ev sq=sqN (ev rt) 1):=⟨hk,hv⟩
 have HS15:=hdI <| HS14.out.call b
 go_wp2_with (first
  |(refine wpList_newP HS15.out rfl (.tmp 12) (.tmp 30) rfl sq rfl rfl HKsq.out.1 rfl ?_)
  |fail)
 intro w16 S;have HS16:=hdI <| S
 generalize w15.heap.size=G16 at *;go_wp2_with fail;refine(times_any G16 0 g2 o2 sq vs _ (HS16.out.re 0 _ _ rfl) (HS16.out.el 1 _ _ _ rfl)).mono ?_;rintro e w17 ⟨rc,hk,hv,rfl,b⟩;have HKrc:Hid (EOk rc∧ev rc=ev sq*ev vs%fp):=⟨hk,hv⟩
 have HS17:=hdI <| HS16.out.call b
 go_wp2_with (first
  |(refine wpList_newP HS17.out rfl (.tmp 13) (.tmp 32) rfl rc rfl rfl HKrc.out.1 rfl ?_)
  |fail)
 intro w18 S;have HS18:=hdI <| S
 generalize w17.heap.size=G18 at *;have HRT:Hid (ev rt=rtF (ev us) (ev vs)):=by
  show _=_
  unfold rtF;rw[HKrt.out.2,HKpw.out.2,HKbs.out.2,HKst.out.2,HKf4.out.2,HKc2.out.2,HKc1.out.2]
 have HRC:Hid (ev rc=rcF (ev us) (ev vs)):=by
  show _=_
  unfold rcF;rw[HKrc.out.2,HKsq.out.2,HRT.out]
 go_wp2_with fail;refine(equalsE_any G18 0 g1 o1 rc us _ (HS18.out.re 0 _ _ rfl) (HS18.out.el 0 _ _ _ rfl)).mono ?_;rintro e wq ⟨rfl,b⟩;have HSq:=hdI <| HS18.out.call b
 by_cases hq:ev rc=ev us
 ·have HQ:=hdI <| hq
  rw[decide_eq_true hq];go_wp2
  go_ret
  refine⟨rt,HKrt.out.1,?_,?_,HSq.out.pt,HSq.out.wrh⟩
  ·show _=Ending.returned (.bool (drR (ev us) (ev vs)))
   have:drR (ev us) (ev vs)=true:=by unfold drR;rw[←HRC.out,HQ.out];simp
   rw[this];rfl
  ·unfold drX;rw[←HRC.out,HQ.out,if_pos rfl];exact HRT.out
 ·have HQ:=hdI <| hq
  rw[decide_eq_false hq];go_wp2_with fail;refine(negated_any g1 o1 us _ (HSq.out.el 0 _ _ _ rfl)).mono ?_;rintro e w19 ⟨op,hk,hv,rfl,b⟩;have HKop:Hid (EOk op∧ev op=(0-ev us)%fp):=⟨hk,hv⟩
  have HS19:=hdI <| HSq.out.call b
  go_wp2_with (first
   |(refine wpList_newP HS19.out rfl (.tmp 14) (.tmp 36) rfl op rfl rfl HKop.out.1 rfl ?_)
   |fail)
  intro w20 S;have HS20:=hdI <| S
  generalize w19.heap.size=G20 at *;go_wp2_with fail;refine(sm1_any _).mono ?_;rintro e w21 ⟨tn,hk,hv,rfl,b⟩;have HKtn:Hid (EOk tn∧ev tn=ev sm1L):=⟨hk,hv⟩
  have HS21:=hdI <| HS20.out.call b
  go_wp2_with (first
   |(refine wpList_newP HS21.out rfl (.tmp 15) (.tmp 37) rfl tn rfl rfl HKtn.out.1 rfl ?_)
   |fail)
  intro w22 S;have HS22:=hdI <| S
  generalize w21.heap.size=G22 at *;go_wp2_with fail;refine(times_any g 0 G22 0 rt tn _ HS22.out.pt.ex (HS22.out.re 0 _ _ rfl)).mono ?_;rintro e w23 ⟨xx,hk,hv,rfl,b⟩;have HKxx:Hid (EOk xx∧ev xx=ev rt*ev tn%fp):=⟨hk,hv⟩
  have HS23:=hdI <| HS22.out.call b
  go_wp2_with (first
   |(refine wpList_midP HS23.out rfl (.tmp 41) (.tmp 40) rfl 0 (by decide) xx xx y z t (over_x HS23.out.pt.x.1 HKxx.out.1.1) ⟨HKxx.out.1,HS23.out.pt.y,HS23.out.pt.z,HS23.out.pt.t⟩ rfl rfl HKxx.out.1 rfl ?_)
   |fail)
  intro w24 S;have HS24:=hdI <| S
  have HXX:Hid (ev xx=rtF (ev us) (ev vs)*ev sm1L%fp):=by
   show _=_
   rw[HKxx.out.2,HKtn.out.2,HRT.out]
  go_wp2_with fail;refine(equalsE_any G18 0 G20 0 rc op _ (HS24.out.re 2 _ _ rfl) (HS24.out.re 1 _ _ rfl)).mono ?_;rintro e wz ⟨rfl,b⟩;have HSz:Hid (RunP w wz g xx y z t [(G22,tn),(G20,op),(G18,rc),(G16,sq),(G12,pw),(G10,bs),(G8,f4),(G6,st),(G2,c2)] [(g1,o1,us),(g2,o2,vs)]):=HS24.out.call b;have HD:Hid (decide (ev rc=ev op)=drR (ev us) (ev vs)):=by
   show _=_
   unfold drR;rw[←HRC.out,HKop.out.2];simp[HQ.out]
  rw[HD.out];go_wp2
  go_ret
  refine⟨xx,HKxx.out.1,rfl,?_,HSz.out.pt,HSz.out.wrh⟩;unfold drX;rw[←HRC.out,if_neg HQ.out];exact HXX.out
set_option maxHeartbeats 4000000 in
theorem findX_any (g:Nat) (x y z t:List Int) (w:World) (hp:Pt w g x y z t) :
  Calls Tryz.prog 124 #[.pointer (some ⟨g,0,none⟩)] w (DP w g y z t (uF (ev y)) (vF (ev y))):=by
 have HS0:Hid (RunP w w g x y z t [] []):=RunP.start hp _ (fun e he=>by simp at he);go_enter Tryz.func124,Tryz.ntmps124;go_wp2_with (first
  |(refine wpList_newP HS0.out rfl (.tmp 3) (.tmp 8) rfl oneL rfl rfl one_ok rfl ?_)
  |fail)
 intro w1 S;have HS1:=hdI <| S
 generalize w.heap.size=G1 at *;go_wp2_with fail;refine(curveD_any _).mono ?_;rintro e w2 ⟨dd,hk,hv,rfl,b⟩;have HKdd:Hid (EOk dd∧ev dd=ev curveDL):=⟨hk,hv⟩
 have HS2:=hdI <| HS1.out.call b
 go_wp2_with (first
  |(refine wpList_newP HS2.out rfl (.tmp 4) (.tmp 9) rfl dd rfl rfl HKdd.out.1 rfl ?_)
  |fail)
 intro w3 S;have HS3:=hdI <| S
 generalize w2.heap.size=G3 at *;go_wp2_with fail;refine(squared_any g 5 y 1 _ (by decide) HS3.out.pt.ey).mono ?_;rintro e w4 ⟨sq,hk,hv,rfl,b⟩;have HKsq:Hid (EOk sq∧ev sq=sqN (ev y) 1):=⟨hk,hv⟩
 have HS4:=hdI <| HS3.out.call b
 go_wp2_with (first
  |(refine wpList_newP HS4.out rfl (.tmp 5) (.tmp 13) rfl sq rfl rfl HKsq.out.1 rfl ?_)
  |fail)
 intro w5 S;have HS5:=hdI <| S
 generalize w4.heap.size=G5 at *;go_wp2_with fail;refine(minus_any G5 0 G1 0 sq oneL _ (HS5.out.re 0 _ _ rfl) (HS5.out.re 2 _ _ rfl)).mono ?_;rintro e w6 ⟨ov,hk,hv,rfl,b⟩;have HKov:Hid (EOk ov∧ev ov=(ev sq-ev oneL)%fp):=⟨hk,hv⟩
 have HS6:=hdI <| HS5.out.call b
 go_wp2_with (first
  |(refine wpList_newP HS6.out rfl (.tmp 6) (.tmp 14) rfl ov rfl rfl HKov.out.1 rfl ?_)
  |fail)
 intro w7 S;have HS7:=hdI <| S
 generalize w6.heap.size=G7 at *;go_wp2_with fail;refine(times_any G5 0 G3 0 sq dd _ (HS7.out.re 1 _ _ rfl) (HS7.out.re 2 _ _ rfl)).mono ?_;rintro e w8 ⟨ua,hk,hv,rfl,b⟩;have HKua:Hid (EOk ua∧ev ua=ev sq*ev dd%fp):=⟨hk,hv⟩
 have HS8:=hdI <| HS7.out.call b
 go_wp2_with (first
  |(refine wpList_newP HS8.out rfl (.tmp 7) (.tmp 15) rfl ua rfl rfl HKua.out.1 rfl ?_)
  |fail)
 intro w9 S;have HS9:=hdI <| S
 generalize w8.heap.size=G9 at *;go_wp2_with fail;refine(plus_any G9 0 G1 0 ua oneL _ (HS9.out.re 0 _ _ rfl) (HS9.out.re 4 _ _ rfl)).mono ?_;rintro e w10 ⟨un,hk,hv,rfl,b⟩;have HKun:Hid (EOk un∧ev un=(ev ua+ev oneL)%fp):=⟨hk,hv⟩
 have HS10:=hdI <| HS9.out.call b
 go_wp2_with (first
  |(refine wpList_rowP HS10.out rfl (.tmp 7) (.tmp 16) rfl 0 G9 ua un rfl rfl rfl HKun.out.1 rfl ?_)
  |fail)
 intro w11 S;have HS11:Hid (RunP w w11 g x y z t [(G9,un),(G7,ov),(G5,sq),(G3,dd),(G1,oneL)] []):=S;have HUF:Hid (ev ov=uF (ev y)):=by
  show _=_
  unfold uF;rw[HKov.out.2,HKsq.out.2]
 have HVF:Hid (ev un=vF (ev y)):=by
  show _=_
  unfold vF;rw[HKun.out.2,HKua.out.2,HKsq.out.2,HKdd.out.2]
 have hlt:=HS11.out.lt;have hn1:=(HS11.out.rows _ (List.mem_of_getElem? (i:=1) rfl)).1;have hn2:=(HS11.out.rows _ (List.mem_of_getElem? (i:=0) rfl)).1;dsimp only at hn1 hn2;go_wp2_with fail;refine(divideRoot_any g x y z t G7 0 G9 0 ov un _ HS11.out.pt (HS11.out.re 1 _ _ rfl) (HS11.out.re 0 _ _ rfl) (by omega) (by omega)).mono ?_;rintro e wd ⟨xs,hk,rfl,hx,hp,hw⟩;rw[HUF.out,HVF.out] at hx ⊢;have HX:Hid (EOk xs∧ev xs=drX (uF (ev y)) (vF (ev y))∧Pt wd g xs y z t∧WrH g w wd):=⟨hk,hx,hp,HS11.out.wrh.trans hw⟩
 go_wp2
 go_ret
 exact⟨xs,HX.out.1,rfl,HX.out.2.1,HX.out.2.2.1,HX.out.2.2.2⟩
theorem lm1 (a b:Int) (ha:0≤a) (ha':a<18446744073709551616) (hb:0≤b) (hb':b<18446744073709551616) :
  bits .and .u64 (bits .or .u64 (a/2251799813685248) (IntKind.u64.wrap (b*8192))) 2251799813685247=(a/2251799813685248+b%2251799813685248*8192)%2251799813685248:=by
 have e:IntKind.u64.wrap (b*8192)=b%2251799813685248*8192:=by rw[IntKind.wrap_u64];omega
 rw[e,u64_or_add' (b%2251799813685248*8192) (a/2251799813685248) 13 (by omega) (by omega) (by omega) (by rw[show(2:Int)^13=8192 from by decide];omega) (by omega) (b%2251799813685248) (by rw[show(2:Int)^13=8192 from by decide])];exact u64_and_mask _ 51 (by omega) (by omega) _ (by decide) (by decide)
theorem lm2 (a b:Int) (ha:0≤a) (ha':a<18446744073709551616) (hb:0≤b) (hb':b<18446744073709551616) :
  bits .and .u64 (bits .or .u64 (a/274877906944) (IntKind.u64.wrap (b*67108864))) 2251799813685247=(a/274877906944+b%274877906944*67108864)%2251799813685248:=by
 have e:IntKind.u64.wrap (b*67108864)=b%274877906944*67108864:=by rw[IntKind.wrap_u64];omega
 rw[e,u64_or_add' (b%274877906944*67108864) (a/274877906944) 26 (by omega) (by omega) (by omega) (by rw[show(2:Int)^26=67108864 from by decide];omega) (by omega) (b%274877906944) (by rw[show(2:Int)^26=67108864 from by decide])];exact u64_and_mask _ 51 (by omega) (by omega) _ (by decide) (by decide)
theorem lm3 (a b:Int) (ha:0≤a) (ha':a<18446744073709551616) (hb:0≤b) (hb':b<18446744073709551616) :
  bits .and .u64 (bits .or .u64 (a/33554432) (IntKind.u64.wrap (b*549755813888))) 2251799813685247=(a/33554432+b%33554432*549755813888)%2251799813685248:=by
 have e:IntKind.u64.wrap (b*549755813888)=b%33554432*549755813888:=by rw[IntKind.wrap_u64];omega
 rw[e,u64_or_add' (b%33554432*549755813888) (a/33554432) 39 (by omega) (by omega) (by omega) (by rw[show(2:Int)^39=549755813888 from by decide];omega) (by omega) (b%33554432) (by rw[show(2:Int)^39=549755813888 from by decide])];exact u64_and_mask _ 51 (by omega) (by omega) _ (by decide) (by decide)
def lmb (a b c d:Int):List Int:=[a%2251799813685248,(a/2251799813685248+b%2251799813685248*8192)%2251799813685248,(b/274877906944+c%274877906944*67108864)%2251799813685248,(c/33554432+d%33554432*549755813888)%2251799813685248,d/4096%2251799813685248]
theorem lmb_ok (a b c d:Int):EOk (lmb a b c d):=ok5 _ _ _ _ _ (by omega) (by omega) (by omega) (by omega) (by omega)
theorem lmb_dig (a b c d:Int):Dig B51 (lmb a b c d):=by
 intro z hz;unfold B51;simp only[lmb,List.mem_cons,List.not_mem_nil,or_false] at hz;rcases hz with rfl|rfl|rfl|rfl|rfl<;>omega
theorem lmb_val (a b c d:Int) (ha:0≤a) (ha':a<18446744073709551616) (hb:0≤b) (hb':b<18446744073709551616) (hc:0≤c) (hc':c<18446744073709551616) (hd:0≤d) (hd':d<18446744073709551616) :
  val B51 (lmb a b c d)=val 18446744073709551616 [a,b,c,d]%(fp+19):=by
 simp only[lmb,val,B51,fp_lit];omega
theorem lmb_least (a b c d:Int):lsE (lmb a b c d)=lmb a b c d↔val B51 (lmb a b c d)<fp:=by
 have h:=lsE_all (lmb_ok a b c d);have hb:=ev_bd (lmb a b c d);constructor
 ·intro e;have e2:=h.2.2;rw[e] at e2;rw[e2];exact hb.2
 ·intro e;refine val_inj (B:=B51) (by decide) (sst_dig _) (lmb_dig _ _ _ _) (by rw[lsE_len];rfl) ?_;rw[h.2.2];exact Int.emod_eq_of_lt (val_nonneg (by decide) (lmb_dig _ _ _ _)) e
set_option maxHeartbeats 1000000 in
theorem elementOf_any (a b c d:Int) (w:World) (ha:0≤a) (ha':a<18446744073709551616) (hb:0≤b) (hb':b<18446744073709551616) (hc:0≤c) (hc':c<18446744073709551616) (hd:0≤d) (hd':d<18446744073709551616) :
  Calls Tryz.prog 122 #[.agg #[.int .u64 a,.int .u64 b,.int .u64 c,.int .u64 d]] w fun e w'=>e=.returned (.agg ((lmb a b c d).map (Value.int .u64)).toArray)∧Below w.heap.size w w':=by
 have l0:bits .and .u64 a 2251799813685247=a%2251799813685248:=u64_and_mask _ 51 (by omega) (by omega) _ (by decide) (by decide);have l1:=lm1 a b ha ha' hb hb';have l2:=lm2 b c hb hb' hc hc';have l3:=lm3 c d hc hc' hd hd';have l4:bits .and .u64 (d/4096) 2251799813685247=d/4096%2251799813685248:=u64_and_mask _ 51 (by omega) (by omega) _ (by decide) (by decide);have H0:Hid (bits .and .u64 a 2251799813685247=a%2251799813685248∧bits .and .u64 (bits .or .u64 (a/2251799813685248) (IntKind.u64.wrap (b*8192))) 2251799813685247=(a/2251799813685248+b%2251799813685248*8192)%2251799813685248∧bits .and .u64 (bits .or .u64 (b/274877906944) (IntKind.u64.wrap (c*67108864))) 2251799813685247=(b/274877906944+c%274877906944*67108864)%2251799813685248∧bits .and .u64 (bits .or .u64 (c/33554432) (IntKind.u64.wrap (d*549755813888))) 2251799813685247=(c/33554432+d%33554432*549755813888)%2251799813685248∧bits .and .u64 (d/4096) 2251799813685247=d/4096%2251799813685248):=⟨l0,l1,l2,l3,l4⟩
 clear l0 l1 l2 l3 l4;go_enter Tryz.func122,Tryz.ntmps122;go_wp2_with fail;obtain⟨l0,l1,l2,l3,l4⟩:=H0.out;rw[l0,l1,l2,l3,l4];exact bodyPost_ret (v:=.agg ((lmb a b c d).map (Value.int .u64)).toArray) (resE rfl _ _ (w.heap.size+1) (lmb a b c d) rfl rfl (heap_alloc2_new _ _ _)) rfl ⟨rfl,((Below.refl _ _).alloc (Nat.le_refl _) _).alloc (by simp) _⟩
set_option maxHeartbeats 1000000 in
theorem bit255_any (g:Nat) (ns:List Int) (w:World) (hl:ns.length=4) (hr:RowW w g 146 ns) (hw:Wrd ns) :
  Calls Tryz.prog 121 #[.pointer (some ⟨g,0,none⟩),.int .i64 255] w fun e w'=>e=.returned (.int .u64 (ns.getD 3 0/9223372036854775808))∧w'=w:=by
 have c3:=hr.cell 3 (by omega);obtain⟨h0,h1⟩:=hw.get 3;have HA:Hid (bits .and .u64 (ns.getD 3 0/9223372036854775808) 1=ns.getD 3 0/9223372036854775808):=by
  show _=_
  rw[u64_and_mask _ 1 (by omega) (by omega) 1 (by decide) (by decide)];omega
 clear hr hw hl;generalize ns.getD 3 0=x at *;go_enter Tryz.func121,Tryz.ntmps121;go_wp2;rw[HA.out]
 go_ret
 exact⟨rfl,rfl⟩
def PtW (w:World) (g:Nat) (cs:Array Value):Prop:=w.heap[g]?=some (.cells cs 79 (0,0))
theorem PtW.below {w w':World} {g B:Nat} {cs:Array Value} (h:PtW w g cs) (b:Below B w w') (hg:g<B):PtW w' g cs:=by unfold PtW;rw[b.block g hg];exact h
theorem PtW.lt {w:World} {g:Nat} {cs:Array Value} (h:PtW w g cs):g<w.heap.size:=(Array.getElem?_eq_some_iff.1 h).1
theorem PtW.new (w:World):PtW (w.alloc (.cells #[.slice none 0 0,.slice none 0 0,.slice none 0 0,.slice none 0 0] 79)) w.heap.size #[.slice none 0 0,.slice none 0 0,.slice none 0 0,.slice none 0 0]:=heap_alloc_new w _
theorem Tryz.sizePt:(Tryz.prog.info? 79).map (·.size)=some 4:=by kernel_rfl
theorem wpList_storePt {w:World} {ops:Array Oper} {rest:List Oper} {o:Oper} {a:Act} {Q:Exit→Act→World→Prop} (hgd:o.guard=none) (x y:Operand) (ho:o.op=.store 79 x y)
  (G:Nat) (s1 s2 s3 s4:Value) (old:Array Value) (h1:s1.oneCell'=true) (h2:s2.oneCell'=true) (h3:s3.oneCell'=true) (h4:s4.oneCell'=true) (hx:a.eval x=.pointer (some ⟨G,0,none⟩)) (hy:a.eval y=.agg #[s1,s2,s3,s4]) (hl:old.size=4) (hr:PtW w G old)
  (hK:∀ w',PtW w' G #[s1,s2,s3,s4]→Wr G w w'→wpList Tryz.prog ops Q rest (a.put o.dst undef) w') :
  wpList Tryz.prog ops Q (o::rest) a w:=
 wpList_store_row hgd 79 x y ho G #[s1,s2,s3,s4] hx hy 79 _ hr Tryz.sizePt (by simp[hl]) (by simp[h1,h2,h3,h4]) (hK _ (setRow_heap _ _ _ _ _ _ hr) (Wr.setRow _ _ _))
def AfP (w:World) (a a':Option Addr) (cap cap':Nat) (x y:Int) (e:Ending) (w':World):Prop:=
 ∃ gz cz gt ct,e=.returned (.agg #[.slice a 16 cap,.slice a' 16 cap',.slice (some ⟨gz,0,none⟩) 16 cz,.slice (some ⟨gt,0,none⟩) 16 ct])∧FeA w' (some ⟨gz,0,none⟩) (1%fp)∧FeA w' (some ⟨gt,0,none⟩) (x*y%fp)∧Below w.heap.size w w'∧w.heap.size≤gz∧w.heap.size≤gt
theorem FeA.wr {w w':World} {g V:Nat} {x:Int} (h:FeA w (some ⟨g,0,none⟩) x) (hw:Wr V w w') (hne:g≠V):FeA w' (some ⟨g,0,none⟩) x:=by
 obtain⟨zs,h1,h2,h3⟩:=h;refine⟨zs,?_,h2,h3⟩;obtain⟨b,o,e,hb,hc⟩:=h1.get (by have:=h2.1;omega);cases e;exact .inr ⟨g,0,rfl,by rw[hw.size];exact hb,fun i hi=>by rw[World.cell?_of_block (a:=⟨g,0+i,none⟩) (w:=w) (hw.block g hne)];exact hc i hi⟩
set_option maxHeartbeats 2000000 in
theorem affine_any (a a':Option Addr) (cap cap':Nat) (x y:Int) (w:World) (ha:FeA w a x) (ha':FeA w a' y) :
  Calls Tryz.prog 58 #[.slice a 16 cap,.slice a' 16 cap'] w (AfP w a a' cap cap' x y):=by
 have b0:Below w.heap.size w (w.alloc (.cells #[.slice none 0 0,.slice none 0 0,.slice none 0 0,.slice none 0 0] 79)):=below_new3 _ _;have HP0:=hdI <| PtW.new w
 have HS0:Hid (SR w (w.alloc (.cells #[.slice none 0 0,.slice none 0 0,.slice none 0 0,.slice none 0 0] 79)) [(a,x),(a',y)]):=⟨b0,fun e he=>by
  simp only[List.mem_cons,List.not_mem_nil,or_false] at he;rcases he with rfl|rfl
  ·exact ha.below b0
  ·exact ha'.below b0⟩
 clear ha ha' b0;go_enter Tryz.func58,Tryz.ntmps58;go_wp2_with fail;refine(small_any 1 _ (by decide) (by decide)).mono ?_;rintro e w1 ⟨g1,c1,rfl,k1,l1,hf,hb⟩;have HP1:=hdI <| HP0.out.below hb HP0.out.lt
 have HS1:=hdI <| HS0.out.add hf hb
 have hg1:w.heap.size<g1:=by have:=HP0.out.lt;omega
 clear hf hb HS0 HP0;go_wp2_with fail;refine(fmul_any _ _ cap cap' x y _ (HS1.out.at 1 _ _ rfl) (HS1.out.at 2 _ _ rfl)).mono ?_;rintro e w2 ⟨g2,c2,rfl,k2,l2,hf,hb⟩;have HP2:=hdI <| HP1.out.below hb HP1.out.lt
 have HS2:=hdI <| HS1.out.add hf hb
 have hg2:w.heap.size<g2:=by have:=HP1.out.lt;omega
 clear hf hb HS1 HP1;go_wp2_with (first
  |(refine wpList_storePt rfl (.tmp 4) (.tmp 11) rfl w.heap.size _ _ _ _ _ rfl rfl rfl rfl rfl rfl rfl HP2.out ?_)
  |fail)
 intro w3 hp3 hw3;have HP3:Hid (PtW w3 w.heap.size #[.slice a 16 cap,.slice a' 16 cap',.slice (some ⟨g1,0,none⟩) 16 c1,.slice (some ⟨g2,0,none⟩) 16 c2]):=hp3;have HF:Hid (FeA w3 (some ⟨g1,0,none⟩) (1%fp)∧FeA w3 (some ⟨g2,0,none⟩) (x*y%fp)∧Below w.heap.size w w3):=
  ⟨(HS2.out.at 1 _ _ rfl).wr hw3 (by omega),(HS2.out.at 0 _ _ rfl).wr hw3 (by omega),HS2.out.below.trans (hw3.below (Nat.le_refl _))⟩
 clear hp3 hw3 HS2 HP2;go_wp2;exact bodyPost_ret (v:=.agg #[.slice a 16 cap,.slice a' 16 cap',.slice (some ⟨g1,0,none⟩) 16 c1,.slice (some ⟨g2,0,none⟩) 16 c2]) (results_cell_row rfl _ _ w.heap.size 79 _ (0,0) _ rfl HP3.out Tryz.underlying79 rfl Tryz.sizePt) rfl ⟨g1,c1,g2,c2,rfl,HF.out.1,HF.out.2.1,HF.out.2.2,by omega,by omega⟩
theorem results_pt {fn:Func} {p u:Tmp} (h:fn.results=#[.tmp u,.cell p 79]) (tmps:Array Value) (w:World) (g:Nat) (s1 s2 s3 s4:Value)
  (v:Value) (hv:tmps.getD u undef=v) (hp:tmps.getD p undef=.pointer (some ⟨g,0,none⟩)) (hg:PtW w g #[s1,s2,s3,s4]) :
  (results fn tmps).run Tryz.prog w=.ok (.tuple #[v,.agg #[s1,s2,s3,s4]]) w:=by
 have hp':tmps[p]?.getD undef=.pointer (some ⟨g,0,none⟩):=by simpa using hp
 have hv':tmps[u]?.getD undef=v:=by simpa using hv
 have hl:=run_loadVar_row (P:=Tryz.prog) w g 79 79 #[s1,s2,s3,s4] (0,0) _ hg Tryz.underlying79 rfl Tryz.sizePt;simp[results,h,hp',hv',asAddr,hl]
theorem fp_lit':fp=57896044618658097711785492504343953926634992332820282019728792003956564819949:=by decide
def mY (zs:List Int):Int:=val 256 zs%(fp+19)
def mO (zs:List Int):Int:=zs.getD 31 0/128
def mB (zs:List Int) (D:Int):Bool:=(zs.length == 32) && decide (mY zs<fp) && mdOk (mY zs) D && !(mO zs == 1 && decide (mdX (mY zs) D=0%fp))
def mX (zs:List Int) (D:Int):Int:=if mdX (mY zs) D%2=mO zs then mdX (mY zs) D else(0%fp-mdX (mY zs) D)%fp
def MD (w:World) (zs:List Int) (D:Int) (e:Ending) (w':World):Prop:=
 ∃ s1 s2 s3 s4:Value,e=.returned (.tuple #[.bool (mB zs D),.agg #[s1,s2,s3,s4]])∧Below w.heap.size w w'∧(s1.oneCell'=true∧s2.oneCell'=true∧s3.oneCell'=true∧s4.oneCell'=true)∧
  (mB zs D=true→∃ g1 c1 g2 c2 g3 c3 g4 c4,s1=.slice (some ⟨g1,0,none⟩) 16 c1∧s2=.slice (some ⟨g2,0,none⟩) 16 c2∧s3=.slice (some ⟨g3,0,none⟩) 16 c3∧s4=.slice (some ⟨g4,0,none⟩) 16 c4∧
   FeA w' (some ⟨g1,0,none⟩) (mX zs D)∧FeA w' (some ⟨g2,0,none⟩) (mY zs)∧FeA w' (some ⟨g3,0,none⟩) (1%fp)∧FeA w' (some ⟨g4,0,none⟩) (mX zs D*mY zs%fp))
theorem val_par (ds:List Int) (h:ds.length=16):val 65536 ds%2=ds.getD 0 0%2:=by
 cases ds with
 |nil=>simp at h
 |cons d r=>simp only[val,List.getD_cons_zero];omega
theorem ls_fe {w:World} {a:Option Addr} {x:Int} (h:LsA w a x):FeA w a (x%fp):=by
 obtain⟨zs,h1,h2,h3,h4⟩:=h;exact⟨zs,h1,⟨h2,fun i=>by have:=h3 i;omega⟩,by unfold fv;rw[h4]⟩
set_option maxHeartbeats 4000000 in
theorem decodeS_any (p a':Option Addr) (n cap cap':Nat) (zs:List Int) (D:Int) (w:World) (hn:zs.length=n) (hm:n≤1048576) (ha:At .u8 w p zs) (hz:Byte zs) (hD:FeA w a' D) :
  Calls Tryz.prog 61 #[.slice p n cap,.slice a' 16 cap'] w (MD w zs D):=by
 have b0:Below w.heap.size w (w.alloc (.cells #[.slice none 0 0,.slice none 0 0,.slice none 0 0,.slice none 0 0] 79)):=below_new3 _ _;have HP0:=hdI <| PtW.new w
 by_cases h32:n=32
 ·have H32:Hid (32≤n∧n≤32):=by show _∧_;omega
  have h32':((n:Int) == 32)=true:=by rw[h32];rfl
  have HLN:Hid ((zs.length == 32)=true):=by show _=_;rw[hn,h32];rfl
  have HA0:=hdI <| ha
  have HZ:=hdI <| hz
  have HB0:=hdI <| b0
  have HD0:=hdI <| hD
  have hsz0:=HP0.out.lt;clear h32 b0 ha hz hD;go_enter Tryz.func61,Tryz.ntmps61;go_wp2_with fail;refine(fromBytes_any p n cap zs _ hn H32.out.1 H32.out.2 (HA0.out.below HB0.out) HZ.out).mono ?_;rintro e w1 ⟨gy,cy,rfl,ky,ly,hly,hb1⟩;have HP1:=hdI <| HP0.out.below hb1 hsz0
  have HB1:=hdI <| HB0.out.trans (hb1.mono HB0.out.size)
  have HLY:Hid (LsA w1 (some ⟨gy,0,none⟩) (mY zs)):=hly;have hgy:w.heap.size<gy:=by omega
  go_wp2_with fail;refine(least_any _ cy (mY zs%fp) _ (ls_fe HLY.out)).mono ?_;rintro e w2 ⟨gl,cl,rfl,kl,ll,hll,hb2⟩;have HP2:Hid (PtW w2 w.heap.size #[.slice none 0 0,.slice none 0 0,.slice none 0 0,.slice none 0 0]):=HP1.out.below hb2 HP1.out.lt;have HB2:Hid (Below w.heap.size w w2):=HB1.out.trans (hb2.mono HB1.out.size);have hly2:=HLY.out.below hb2;have HFY:Hid (FeA w2 (some ⟨gy,0,none⟩) (mY zs%fp)):=ls_fe hly2;obtain⟨xs,hA1,hx1,hx2,hx3⟩:=hly2;obtain⟨ys,hA2,hy1,hy2,hy3⟩:=hll;have HEQ:Hid (mY zs=mY zs%fp↔∀ i,i<16→xs.getD i 0=ys.getD i 0):=by
   show _↔_
   rw[←hx3] at hy3 ⊢;rw[←hy3];exact ls_eq hx1 hy1 hx2 hy2
  have HC1:Hid (∀ i,i<16→w2.cell? ⟨gy,i,none⟩=some (.int .i64 (xs.getD i 0))):=fun i hi=>by
   obtain⟨b,o,e,_,h⟩:=hA1.get (by omega);cases e;have:=h i (by omega)
   rwa [Nat.zero_add] at this
  have HC2:Hid (∀ i,i<16→w2.cell? ⟨gl,i,none⟩=some (.int .i64 (ys.getD i 0))):=fun i hi=>by
   obtain⟨b,o,e,_,h⟩:=hA2.get (by omega);cases e;have:=h i (by omega)
   rwa [Nat.zero_add] at this
  have HYP:Hid (mY zs=mY zs%fp↔mY zs<fp):=by
   show _↔_
   have h0:0≤mY zs:=by unfold mY;rw[fp_lit'];omega
   rw[fp_lit'] at *;omega
  go_wp2
  go_loopw [8] (fun i wr=>∃(k q:Nat),k≤16∧i=.int .i64 k∧wr=w2.drewN q∧∀ i,i<k→xs.getD i 0=ys.getD i 0) (fun i _=>16-(intOf i).toNat)
  case atStart=>exact⟨0,0,by decide,rfl,rfl,fun i hi=>by omega⟩
  case round=>
   obtain⟨k,q,hk,rfl,rfl,hall⟩:=hrel;have HALL:=hdI <| hall
   by_cases hlt:k<16
   ·have hlt':(k:Int)<16:=by omega
    have c1':=HC1.out k hlt;have c2':=HC2.out k hlt;have HXY:Hid (∀ d e:Int,xs.getD k 0=d→ys.getD k 0=e→d=e→∀ i,i<k+1→xs.getD i 0=ys.getD i 0):=fun d e h1 h2 h3 i hi=>by
     by_cases h:i=k
     ·subst h;rw[h1,h2,h3]
     ·exact HALL.out i (by omega)
    have HNE:Hid (xs.getD k 0≠ys.getD k 0→mB zs D=false):=fun h=>by
     have:decide (mY zs<fp)=false:=decide_eq_false (fun e=>h (HEQ.out.1 (HYP.out.2 e) k hlt));unfold mB;rw[this];simp
    by_cases hxy:xs.getD k 0=ys.getD k 0
    ·have HS:=hdI <| HXY.out _ _ rfl rfl hxy
     rw[←hxy] at c2';generalize xs.getD k 0=d at *;go_wp2
     go_quiet (fail)
     rw[dN_dN];go_wp2;go_roundw
     case rel=>exact⟨k+1,q+nq,by omega,by go_num,rfl,HS.out⟩
     case measure=>simp[intOf];omega
    ·have HR:=hdI <| HNE.out hxy
     generalize xs.getD k 0=d at *;generalize ys.getD k 0=d' at *;have hdd:(d == d')=false:=by simpa using hxy
     have hdn:(d != d')=true:=by simpa using hxy
     go_wp2
     go_quiet (fail)
     rw[dN_dN];have HPQ:Hid (PtW (w2.drewN (q+nq)) w.heap.size #[.slice none 0 0,.slice none 0 0,.slice none 0 0,.slice none 0 0]):=HP2.out;have HBQ:Hid (Below w.heap.size w (w2.drewN (q+nq))):=⟨HB2.out.os,HB2.out.tape,HB2.out.output,HB2.out.size,HB2.out.block⟩
     generalize w2.drewN (q+nq)=w5 at *;go_wp2_with (first
      |(refine wpList_storePt rfl (.tmp 5) (.tmp 33) rfl w.heap.size _ _ _ _ _ rfl rfl rfl rfl rfl rfl rfl HPQ.out ?_)
      |fail)
     intro wxa hpx hwx;have HPX:=hdI <| hpx
     have HBX:=hdI <| HBQ.out.trans (hwx.below (Nat.le_refl _))
     go_wp2;refine bodyPost_ret (v:=.tuple #[.bool false,.agg #[.slice none 0 0,.slice none 0 0,.slice none 0 0,.slice none 0 0]]) (results_pt rfl _ _ w.heap.size _ _ _ _ _ rfl rfl HPX.out) rfl ⟨_,_,_,_,by rw[HR.out],HBX.out,by exact⟨rfl,rfl,rfl,rfl⟩,fun h=>?_⟩;rw[HR.out] at h;cases h
   ·have HYL:=hdI <| HYP.out.1 (HEQ.out.2 (fun i hi=>HALL.out i (by omega)))
    have hlt':¬ (k:Int)<16:=by omega
    have HP3:Hid (PtW (w2.drewN q) w.heap.size #[.slice none 0 0,.slice none 0 0,.slice none 0 0,.slice none 0 0]):=HP2.out;have HB3:Hid (Below w.heap.size w (w2.drewN q)):=⟨HB2.out.os,HB2.out.tape,HB2.out.output,HB2.out.size,HB2.out.block⟩
    have HF3:Hid (FeA (w2.drewN q) (some ⟨gy,0,none⟩) (mY zs)):=by
     have h:=HFY.out;rw[←HYP.out.2 HYL.out] at h;exact h
    have hsq:w2.heap.size≤(w2.drewN q).heap.size:=Nat.le_refl _;generalize w2.drewN q=w3 at *;go_wp2_with fail;have hgl3:=HP3.out.lt;have hg3:gy<w3.heap.size:=by omega
    refine(root_any _ a' cy cap' (mY zs) D _ HF3.out (HD0.out.below HB3.out)).mono ?_;rintro e w4 ⟨gx,cx,rfl,kx,lx,hfx,hb4⟩;have HP4:=hdI <| HP3.out.below hb4 HP3.out.lt
    have HB4:=hdI <| HB3.out.trans (hb4.mono HB3.out.size)
    have HF4:=hdI <| HF3.out.below hb4
    have HX4:=hdI <| hfx
    have hgx:w.heap.size<gx:=by omega
    cases hok:mdOk (mY zs) D
    ·have HR:Hid (mB zs D=false):=by
      show _=_
      unfold mB;rw[hok];simp
     go_wp2_with (first
      |(refine wpList_storePt rfl (.tmp 5) (.tmp 42) rfl w.heap.size _ _ _ _ _ rfl rfl rfl rfl rfl rfl rfl HP4.out ?_)
      |fail)
     intro wxb hpx hwx;have HPX:=hdI <| hpx
     have HBX:=hdI <| HB4.out.trans (hwx.below (Nat.le_refl _))
     go_wp2;refine bodyPost_ret (v:=.tuple #[.bool false,.agg #[.slice none 0 0,.slice none 0 0,.slice none 0 0,.slice none 0 0]]) (results_pt rfl _ _ w.heap.size _ _ _ _ _ rfl rfl HPX.out) rfl ⟨_,_,_,_,by rw[HR.out],HBX.out,by exact⟨rfl,rfl,rfl,rfl⟩,fun h=>?_⟩;rw[HR.out] at h;cases h
    ·obtain⟨bb,off,rfl,hbb,hcc⟩:=(HA0.out.below HB4.out).get (by have:=H32.out;omega);have c31:=hcc 31 (by have:=H32.out;omega);obtain⟨q0,q1⟩:=HZ.out.get 31;have HMB:Hid (mB zs D=!(mO zs == 1 && decide (mdX (mY zs) D=0%fp))):=by
      show _=_
      unfold mB;rw[hok,HLN.out,decide_eq_true HYL.out];simp
     have HMO:Hid (mO zs=zs.getD 31 0/128):=rfl;generalize zs.getD 31 0=d31 at *;have htd:d31.tdiv 128=d31/128:=Int.tdiv_eq_ediv_of_nonneg q0;have hi31:(31:Int)<(n:Int):=by have:=H32.out;omega
     have hwd:IntKind.i64.wrap (d31/128)=d31/128:=by rw[IntKind.wrap_i64];omega
     have hwu:IntKind.u8.wrap (d31/128)=d31/128:=by rw[IntKind.wrap_u8];omega
     by_cases hod:128≤d31
     ·have hd1:d31/128=1:=by omega
      have HOD:=hdI <| hd1
      go_wp2_with fail;refine(small_any 0 _ (by decide) (by decide)).mono ?_;rintro e w5 ⟨g5,c5,rfl,k5,l5,hf5,hb5⟩;have HP5:=hdI <| HP4.out.below hb5 HP4.out.lt
      have HB5:=hdI <| HB4.out.trans (hb5.mono HB4.out.size)
      have HF5:=hdI <| HF4.out.below hb5
      have HX5:=hdI <| HX4.out.below hb5
      have hlt5:=HP5.out.lt;have H05:=hdI <| hf5
      go_wp2_with fail;refine(equal_any _ _ cx c5 (mdX (mY zs) D) (0%fp) _ HX5.out H05.out).mono ?_;rintro e w6 ⟨rfl,hb6⟩;have HP6:=hdI <| HP5.out.below hb6 HP5.out.lt
      have HB6:=hdI <| HB5.out.trans (hb6.mono HB5.out.size)
      have HF6:=hdI <| HF5.out.below hb6
      have HX6:=hdI <| HX5.out.below hb6
      have hlt6:=HP6.out.lt;by_cases hz0:mdX (mY zs) D=0%fp
      ·have HR:Hid (mB zs D=false):=by
        show _=_
        rw[HMB.out,HMO.out,HOD.out,decide_eq_true hz0];rfl
       rw[decide_eq_true hz0];go_wp2_with (first
        |(refine wpList_storePt rfl (.tmp 5) (.tmp 55) rfl w.heap.size _ _ _ _ _ rfl rfl rfl rfl rfl rfl rfl HP6.out ?_)
        |fail)
       intro wxc hpx hwx;have HPX:=hdI <| hpx
       have HBX:=hdI <| HB6.out.trans (hwx.below (Nat.le_refl _))
       go_wp2;refine bodyPost_ret (v:=.tuple #[.bool false,.agg #[.slice none 0 0,.slice none 0 0,.slice none 0 0,.slice none 0 0]]) (results_pt rfl _ _ w.heap.size _ _ _ _ _ rfl rfl HPX.out) rfl ⟨_,_,_,_,by rw[HR.out],HBX.out,by exact⟨rfl,rfl,rfl,rfl⟩,fun h=>?_⟩;rw[HR.out] at h;cases h
      ·have HMT:Hid (mB zs D=true):=by
        show _=_
        rw[HMB.out,HMO.out,HOD.out,decide_eq_false hz0];rfl
       rw[decide_eq_false hz0];go_wp2_with fail;refine(least_any _ cx (mdX (mY zs) D) _ HX6.out).mono ?_;rintro e wl ⟨g6,c6,rfl,k6,l6,hl6,hb6⟩;have HPL:=hdI <| HP6.out.below hb6 HP6.out.lt
       have HBL:=hdI <| HB6.out.trans (hb6.mono HB6.out.size)
       have HFL:=hdI <| HF6.out.below hb6
       have HXL:=hdI <| HX6.out.below hb6
       have hltL:=HPL.out.lt;obtain⟨ds,hA6,hs1,hs2,hs3⟩:=hl6;have c60:wl.cell? ⟨g6,0,none⟩=some (.int .i64 (ds.getD 0 0)):=by
        obtain⟨b,o,e,_,h⟩:=hA6.get (by omega);cases e;exact h 0 (by omega)
       have hpar:ds.getD 0 0%2=mdX (mY zs) D%2:=by rw[←hs3];exact(val_par ds hs1).symm
       have HPAR:=hdI <| hpar
       obtain⟨e0,e1⟩:=hs2 0;generalize ds.getD 0 0=dd at *;have htm:dd.tmod 2=dd%2:=Int.tmod_eq_emod_of_nonneg e0;by_cases hpp:dd%2=1
       ·have HMX:Hid (mX zs D=mdX (mY zs) D):=by
         show _=_
         unfold mX;rw[if_pos (by rw[HMO.out,←HPAR.out,hpp,HOD.out])]
        go_wp2_with fail;refine(affine_any _ _ cx cy (mdX (mY zs) D) (mY zs) _ HXL.out HFL.out).mono ?_;rintro e wa ⟨gz,cz,gt,ct,rfl,hfz,hft,hba,hz1,hz2⟩;have HPA:=hdI <| HPL.out.below hba HPL.out.lt
        have HBA:=hdI <| HBL.out.trans (hba.mono HBL.out.size)
        have HFA:=hdI <| HFL.out.below hba
        have HXA:=hdI <| HXL.out.below hba
        have hltA:=HPA.out.lt;have HZA:Hid (FeA wa (some ⟨gz,0,none⟩) (1%fp)∧FeA wa (some ⟨gt,0,none⟩) (mdX (mY zs) D*mY zs%fp)):=⟨hfz,hft⟩
        have hnz:gz≠w.heap.size∧gt≠w.heap.size∧gx≠w.heap.size∧gy≠w.heap.size:=by omega
        have HNZ:=hdI <| hnz
        go_wp2_with (first
         |(refine wpList_storePt rfl (.tmp 5) (.tmp 68) rfl w.heap.size _ _ _ _ _ rfl rfl rfl rfl rfl rfl rfl HPA.out ?_)
         |fail)
        intro wb hpb hwb;have HPB:=hdI <| hpb
        have HALLB:Hid (Below w.heap.size w wb∧FeA wb (some ⟨gx,0,none⟩) (mX zs D)∧FeA wb (some ⟨gy,0,none⟩) (mY zs)∧FeA wb (some ⟨gz,0,none⟩) (1%fp)∧FeA wb (some ⟨gt,0,none⟩) (mX zs D*mY zs%fp)):=by
         rw[HMX.out];exact⟨HBA.out.trans (hwb.below (Nat.le_refl _)),HXA.out.wr hwb HNZ.out.2.2.1,HFA.out.wr hwb HNZ.out.2.2.2,HZA.out.1.wr hwb HNZ.out.1,HZA.out.2.wr hwb HNZ.out.2.1⟩
        go_wp2;exact bodyPost_ret (v:=.tuple #[.bool true,.agg #[.slice (some ⟨gx,0,none⟩) 16 cx,.slice (some ⟨gy,0,none⟩) 16 cy,.slice (some ⟨gz,0,none⟩) 16 cz,.slice (some ⟨gt,0,none⟩) 16 ct]]) (results_pt rfl _ _ w.heap.size _ _ _ _ _ rfl rfl HPB.out) rfl ⟨_,_,_,_,by rw[HMT.out],HALLB.out.1,by exact⟨rfl,rfl,rfl,rfl⟩,fun _=>⟨gx,cx,gy,cy,gz,cz,gt,ct,rfl,rfl,rfl,rfl,HALLB.out.2.1,HALLB.out.2.2.1,HALLB.out.2.2.2.1,HALLB.out.2.2.2.2⟩⟩
       ·have hpq:dd%2=0:=by omega
        have HMX:Hid (mX zs D=(0%fp-mdX (mY zs) D)%fp):=by
         show _=_
         unfold mX;rw[if_neg (by rw[HMO.out,←HPAR.out,hpq,HOD.out];decide)]
        go_wp2_with fail;refine(small_any 0 _ (by decide) (by decide)).mono ?_;rintro e wm ⟨g7,c7,rfl,k7,l7,hf7,hb7⟩;have HPM:=hdI <| HPL.out.below hb7 HPL.out.lt
        have HBM:=hdI <| HBL.out.trans (hb7.mono HBL.out.size)
        have HFM:=hdI <| HFL.out.below hb7
        have HXM:=hdI <| HXL.out.below hb7
        have hltM:=HPM.out.lt;have H07:=hdI <| hf7
        go_wp2_with fail;refine(fsub_any _ _ c7 cx (0%fp) (mdX (mY zs) D) _ H07.out HXM.out).mono ?_;rintro e wn ⟨g8,c8,rfl,k8,l8,hf8,hb8⟩;have HPN0:=hdI <| HPM.out.below hb8 HPM.out.lt
        have HBN0:=hdI <| HBM.out.trans (hb8.mono HBM.out.size)
        have HFN0:=hdI <| HFM.out.below hb8
        have HXN0:=hdI <| HXM.out.below hb8
        have hltN0:=HPN0.out.lt;have HPN:=hdI <| HPN0.out
        have HBN:=hdI <| HBN0.out
        have HFN:=hdI <| HFN0.out
        have HXN:=hdI <| hf8
        have hg8:w.heap.size<g8:=by omega
        go_wp2_with fail;refine(affine_any _ _ c8 cy ((0%fp-mdX (mY zs) D)%fp) (mY zs) _ HXN.out HFN.out).mono ?_;rintro e wa ⟨gz,cz,gt,ct,rfl,hfz,hft,hba,hz1,hz2⟩;have HPA:=hdI <| HPN.out.below hba HPN.out.lt
        have HBA:=hdI <| HBN.out.trans (hba.mono HBN.out.size)
        have HFA:=hdI <| HFN.out.below hba
        have HXA:=hdI <| HXN.out.below hba
        have hltA:=HPA.out.lt;have HZA:Hid (FeA wa (some ⟨gz,0,none⟩) (1%fp)∧FeA wa (some ⟨gt,0,none⟩) ((0%fp-mdX (mY zs) D)%fp*mY zs%fp)):=⟨hfz,hft⟩
        have hnz:gz≠w.heap.size∧gt≠w.heap.size∧g8≠w.heap.size∧gy≠w.heap.size:=by omega
        have HNZ:=hdI <| hnz
        go_wp2_with (first
         |(refine wpList_storePt rfl (.tmp 5) (.tmp 68) rfl w.heap.size _ _ _ _ _ rfl rfl rfl rfl rfl rfl rfl HPA.out ?_)
         |fail)
        intro wb hpb hwb;have HPB:=hdI <| hpb
        have HALLB:Hid (Below w.heap.size w wb∧FeA wb (some ⟨g8,0,none⟩) (mX zs D)∧FeA wb (some ⟨gy,0,none⟩) (mY zs)∧FeA wb (some ⟨gz,0,none⟩) (1%fp)∧FeA wb (some ⟨gt,0,none⟩) (mX zs D*mY zs%fp)):=by
         rw[HMX.out];exact⟨HBA.out.trans (hwb.below (Nat.le_refl _)),HXA.out.wr hwb HNZ.out.2.2.1,HFA.out.wr hwb HNZ.out.2.2.2,HZA.out.1.wr hwb HNZ.out.1,HZA.out.2.wr hwb HNZ.out.2.1⟩
        go_wp2;exact bodyPost_ret (v:=.tuple #[.bool true,.agg #[.slice (some ⟨g8,0,none⟩) 16 c8,.slice (some ⟨gy,0,none⟩) 16 cy,.slice (some ⟨gz,0,none⟩) 16 cz,.slice (some ⟨gt,0,none⟩) 16 ct]]) (results_pt rfl _ _ w.heap.size _ _ _ _ _ rfl rfl HPB.out) rfl ⟨_,_,_,_,by rw[HMT.out],HALLB.out.1,by exact⟨rfl,rfl,rfl,rfl⟩,fun _=>⟨g8,c8,gy,cy,gz,cz,gt,ct,rfl,rfl,rfl,rfl,HALLB.out.2.1,HALLB.out.2.2.1,HALLB.out.2.2.2.1,HALLB.out.2.2.2.2⟩⟩
     ·have hd0:d31/128=0:=by omega
      have HOD:=hdI <| hd0
      have HMT:Hid (mB zs D=true):=by
       show _=_
       rw[HMB.out,HMO.out,HOD.out];rfl
      go_wp2_with fail;refine(least_any _ cx (mdX (mY zs) D) _ HX4.out).mono ?_;rintro e wl ⟨g6,c6,rfl,k6,l6,hl6,hb6⟩;have HPL:=hdI <| HP4.out.below hb6 HP4.out.lt
      have HBL:=hdI <| HB4.out.trans (hb6.mono HB4.out.size)
      have HFL:=hdI <| HF4.out.below hb6
      have HXL:=hdI <| HX4.out.below hb6
      have hltL:=HPL.out.lt;obtain⟨ds,hA6,hs1,hs2,hs3⟩:=hl6;have c60:wl.cell? ⟨g6,0,none⟩=some (.int .i64 (ds.getD 0 0)):=by
       obtain⟨b,o,e,_,h⟩:=hA6.get (by omega);cases e;exact h 0 (by omega)
      have hpar:ds.getD 0 0%2=mdX (mY zs) D%2:=by rw[←hs3];exact(val_par ds hs1).symm
      have HPAR:=hdI <| hpar
      obtain⟨e0,e1⟩:=hs2 0;generalize ds.getD 0 0=dd at *;have htm:dd.tmod 2=dd%2:=Int.tmod_eq_emod_of_nonneg e0;by_cases hpp:dd%2=0
      ·have HMX:Hid (mX zs D=mdX (mY zs) D):=by
        show _=_
        unfold mX;rw[if_pos (by rw[HMO.out,←HPAR.out,hpp,HOD.out])]
       go_wp2_with fail;refine(affine_any _ _ cx cy (mdX (mY zs) D) (mY zs) _ HXL.out HFL.out).mono ?_;rintro e wa ⟨gz,cz,gt,ct,rfl,hfz,hft,hba,hz1,hz2⟩;have HPA:=hdI <| HPL.out.below hba HPL.out.lt
       have HBA:=hdI <| HBL.out.trans (hba.mono HBL.out.size)
       have HFA:=hdI <| HFL.out.below hba
       have HXA:=hdI <| HXL.out.below hba
       have hltA:=HPA.out.lt;have HZA:Hid (FeA wa (some ⟨gz,0,none⟩) (1%fp)∧FeA wa (some ⟨gt,0,none⟩) (mdX (mY zs) D*mY zs%fp)):=⟨hfz,hft⟩
       have hnz:gz≠w.heap.size∧gt≠w.heap.size∧gx≠w.heap.size∧gy≠w.heap.size:=by omega
       have HNZ:=hdI <| hnz
       go_wp2_with (first
        |(refine wpList_storePt rfl (.tmp 5) (.tmp 68) rfl w.heap.size _ _ _ _ _ rfl rfl rfl rfl rfl rfl rfl HPA.out ?_)
        |fail)
       intro wb hpb hwb;have HPB:=hdI <| hpb
       have HALLB:Hid (Below w.heap.size w wb∧FeA wb (some ⟨gx,0,none⟩) (mX zs D)∧FeA wb (some ⟨gy,0,none⟩) (mY zs)∧FeA wb (some ⟨gz,0,none⟩) (1%fp)∧FeA wb (some ⟨gt,0,none⟩) (mX zs D*mY zs%fp)):=by
        rw[HMX.out];exact⟨HBA.out.trans (hwb.below (Nat.le_refl _)),HXA.out.wr hwb HNZ.out.2.2.1,HFA.out.wr hwb HNZ.out.2.2.2,HZA.out.1.wr hwb HNZ.out.1,HZA.out.2.wr hwb HNZ.out.2.1⟩
       go_wp2;exact bodyPost_ret (v:=.tuple #[.bool true,.agg #[.slice (some ⟨gx,0,none⟩) 16 cx,.slice (some ⟨gy,0,none⟩) 16 cy,.slice (some ⟨gz,0,none⟩) 16 cz,.slice (some ⟨gt,0,none⟩) 16 ct]]) (results_pt rfl _ _ w.heap.size _ _ _ _ _ rfl rfl HPB.out) rfl ⟨_,_,_,_,by rw[HMT.out],HALLB.out.1,by exact⟨rfl,rfl,rfl,rfl⟩,fun _=>⟨gx,cx,gy,cy,gz,cz,gt,ct,rfl,rfl,rfl,rfl,HALLB.out.2.1,HALLB.out.2.2.1,HALLB.out.2.2.2.1,HALLB.out.2.2.2.2⟩⟩
      ·have hpq:dd%2=1:=by omega
       have HMX:Hid (mX zs D=(0%fp-mdX (mY zs) D)%fp):=by
        show _=_
        unfold mX;rw[if_neg (by rw[HMO.out,←HPAR.out,hpq,HOD.out];decide)]
       go_wp2_with fail;refine(small_any 0 _ (by decide) (by decide)).mono ?_;rintro e wm ⟨g7,c7,rfl,k7,l7,hf7,hb7⟩;have HPM:=hdI <| HPL.out.below hb7 HPL.out.lt
       have HBM:=hdI <| HBL.out.trans (hb7.mono HBL.out.size)
       have HFM:=hdI <| HFL.out.below hb7
       have HXM:=hdI <| HXL.out.below hb7
       have hltM:=HPM.out.lt;have H07:=hdI <| hf7
       go_wp2_with fail;refine(fsub_any _ _ c7 cx (0%fp) (mdX (mY zs) D) _ H07.out HXM.out).mono ?_;rintro e wn ⟨g8,c8,rfl,k8,l8,hf8,hb8⟩;have HPN0:=hdI <| HPM.out.below hb8 HPM.out.lt
       have HBN0:=hdI <| HBM.out.trans (hb8.mono HBM.out.size)
       have HFN0:=hdI <| HFM.out.below hb8
       have HXN0:=hdI <| HXM.out.below hb8
       have hltN0:=HPN0.out.lt;have HPN:=hdI <| HPN0.out
       have HBN:=hdI <| HBN0.out
       have HFN:=hdI <| HFN0.out
       have HXN:=hdI <| hf8
       have hg8:w.heap.size<g8:=by omega
       go_wp2_with fail;refine(affine_any _ _ c8 cy ((0%fp-mdX (mY zs) D)%fp) (mY zs) _ HXN.out HFN.out).mono ?_;rintro e wa ⟨gz,cz,gt,ct,rfl,hfz,hft,hba,hz1,hz2⟩;have HPA:=hdI <| HPN.out.below hba HPN.out.lt
       have HBA:=hdI <| HBN.out.trans (hba.mono HBN.out.size)
       have HFA:=hdI <| HFN.out.below hba
       have HXA:=hdI <| HXN.out.below hba
       have hltA:=HPA.out.lt;have HZA:Hid (FeA wa (some ⟨gz,0,none⟩) (1%fp)∧FeA wa (some ⟨gt,0,none⟩) ((0%fp-mdX (mY zs) D)%fp*mY zs%fp)):=⟨hfz,hft⟩
       have hnz:gz≠w.heap.size∧gt≠w.heap.size∧g8≠w.heap.size∧gy≠w.heap.size:=by omega
       have HNZ:=hdI <| hnz
       go_wp2_with (first
        |(refine wpList_storePt rfl (.tmp 5) (.tmp 68) rfl w.heap.size _ _ _ _ _ rfl rfl rfl rfl rfl rfl rfl HPA.out ?_)
        |fail)
       intro wb hpb hwb;have HPB:=hdI <| hpb
       have HALLB:Hid (Below w.heap.size w wb∧FeA wb (some ⟨g8,0,none⟩) (mX zs D)∧FeA wb (some ⟨gy,0,none⟩) (mY zs)∧FeA wb (some ⟨gz,0,none⟩) (1%fp)∧FeA wb (some ⟨gt,0,none⟩) (mX zs D*mY zs%fp)):=by
        rw[HMX.out];exact⟨HBA.out.trans (hwb.below (Nat.le_refl _)),HXA.out.wr hwb HNZ.out.2.2.1,HFA.out.wr hwb HNZ.out.2.2.2,HZA.out.1.wr hwb HNZ.out.1,HZA.out.2.wr hwb HNZ.out.2.1⟩
       go_wp2;exact bodyPost_ret (v:=.tuple #[.bool true,.agg #[.slice (some ⟨g8,0,none⟩) 16 c8,.slice (some ⟨gy,0,none⟩) 16 cy,.slice (some ⟨gz,0,none⟩) 16 cz,.slice (some ⟨gt,0,none⟩) 16 ct]]) (results_pt rfl _ _ w.heap.size _ _ _ _ _ rfl rfl HPB.out) rfl ⟨_,_,_,_,by rw[HMT.out],HALLB.out.1,by exact⟨rfl,rfl,rfl,rfl⟩,fun _=>⟨g8,c8,gy,cy,gz,cz,gt,ct,rfl,rfl,rfl,rfl,HALLB.out.2.1,HALLB.out.2.2.1,HALLB.out.2.2.2.1,HALLB.out.2.2.2.2⟩⟩
 ·have h32':((n:Int) == 32)=false:=by simp;omega
  have HR:Hid (mB zs D=false):=by
   show _=_
   unfold mB;have:(zs.length == 32)=false:=by simp;omega
   rw[this];rfl
  have HB0:=hdI <| b0
  go_enter Tryz.func61,Tryz.ntmps61;go_wp2_with (first
   |(refine wpList_storePt rfl (.tmp 5) (.tmp 15) rfl w.heap.size _ _ _ _ _ rfl rfl rfl rfl rfl rfl rfl HP0.out ?_)
   |fail)
  intro w3 hp3 hw3;have HP3:=hdI <| hp3
  have HB3:Hid (Below w.heap.size w w3):=HB0.out.trans (hw3.below (Nat.le_refl _));go_wp2;refine bodyPost_ret (v:=.tuple #[.bool false,.agg #[.slice none 0 0,.slice none 0 0,.slice none 0 0,.slice none 0 0]]) (results_pt rfl _ _ w.heap.size _ _ _ _ _ rfl rfl HP3.out) rfl ⟨_,_,_,_,by rw[HR.out],HB3.out,by exact⟨rfl,rfl,rfl,rfl⟩,fun h=>?_⟩;rw[HR.out] at h;cases h
def mrk (zs:List Int):List Int:=(blkOf zs).set zs.length 128
def lenB (bs:List Int) (n:Int):List Int:=ov8 (ov8 bs 112 (n/2^61) 8) 120 (IntKind.u64.wrap (n*8)) 8
def finL (hs zs:List Int) (n:Int):List Int:=
 if zs.length<112 then mixL hs (lenB (mrk zs) n) else mixL (mixL hs (mrk zs)) (lenB (List.replicate 128 0) n)
theorem mrk_len (zs:List Int):(mrk zs).length=128:=by unfold mrk;rw[List.length_set,blkOf_len]
theorem ov8_byte {bs:List Int} (h:Byte bs) (o:Nat) (v:Int) (k:Nat):Byte (ov8 bs o v k):=by
 induction k with
 |zero=>exact h
 |succ k ih=>
  intro z hz;rcases List.mem_or_eq_of_mem_set hz with h'|rfl
  ·exact ih z h'
  ·omega
theorem mrk_byte {zs:List Int} (h:Byte zs):Byte (mrk zs):=by
 intro z hz;rcases List.mem_or_eq_of_mem_set hz with h'|rfl
 ·exact blkOf_byte h z h'
 ·exact⟨by decide,by decide⟩
theorem lenB_len {bs:List Int} (h:bs.length=128) (n:Int):(lenB bs n).length=128:=by unfold lenB;rw[ov8_len,ov8_len,h]
theorem lenB_byte {bs:List Int} (h:Byte bs) (n:Int):Byte (lenB bs n):=ov8_byte (ov8_byte h _ _ _) _ _ _
theorem zero_byte (n:Nat):Byte (List.replicate n 0):=fun z h=>by rw[(List.mem_replicate.1 h).2];exact⟨by decide,by decide⟩
theorem jump_ret (l:Nat) (J:Act→World→Prop) (Q:Exit→Act→World→Prop) (a:Act) (w:World):Exit.jump l J Q .ret a w=Q .ret a w:=rfl
theorem wp_scope_two {P:Program} {a:Act} {w:World} {Q:Exit→Act→World→Prop} {c r0 r1:Code} (J0 J1:Act→World→Prop) (h0:findLabel c 0=some r0) (h1:findLabel c 1=some r1)
  (first:c.wp P (Exit.jump 0 J0 Q) a w) (p0:∀ a w,J0 a w→r0.wp P (Exit.jump 1 J1 Q) a w) (p1:∀ a w,J1 a w→r1.wp P (Exit.jump 0 (fun _ _=>False) Q) a w):(Code.scope c).wp P Q a w:=by
 intro b k cs;have hg0:gotoIn 0 (.inScope c::k)=some (.code r0::.inScope c::k):=by simp[gotoIn,h0]
 have hg1:gotoIn 1 (.inScope c::k)=some (.code r1::.inScope c::k):=by simp[gotoIn,h1]
 have k1:∀ a w,J1 a w→∃ e a' w',Q e a' w'∧Arrives P (lone (b.at a (.code r1::.inScope c::k)) cs w) b k cs e a' w':=by
  intro a w hJ;obtain⟨e,a₁,w₁,hq,harr⟩:=p1 a w hJ b (.inScope c::k) cs;cases e with
  |normal=>exact⟨.normal,a₁,w₁,hq,Steps.trans harr (.one step_inScope)⟩
  |exit id=>exact⟨.exit id,a₁,w₁,hq,fun k' hk=>harr k' (by simp[exitTo,hk])⟩
  |goto l'=>exact absurd hq.2 id
  |ret=>exact⟨_,a₁,w₁,hq,harr⟩
  |panic ch=>exact⟨_,a₁,w₁,hq,harr⟩
  |outgrown=>exact⟨_,a₁,w₁,hq,harr⟩
 have k0:∀ a w,J0 a w→∃ e a' w',Q e a' w'∧Arrives P (lone (b.at a (.code r0::.inScope c::k)) cs w) b k cs e a' w':=by
  intro a w hJ;obtain⟨e,a₁,w₁,hq,harr⟩:=p0 a w hJ b (.inScope c::k) cs;cases e with
  |normal=>exact⟨.normal,a₁,w₁,hq,Steps.trans harr (.one step_inScope)⟩
  |exit id=>exact⟨.exit id,a₁,w₁,hq,fun k' hk=>harr k' (by simp[exitTo,hk])⟩
  |goto l'=>
   obtain⟨rfl,hJ'⟩:=hq;obtain⟨e₂,a₂,w₂,hq₂,harr₂⟩:=k1 a₁ w₁ hJ';exact⟨e₂,a₂,w₂,hq₂,.of_steps (harr _ hg1) harr₂⟩
  |ret=>exact⟨_,a₁,w₁,hq,harr⟩
  |panic ch=>exact⟨_,a₁,w₁,hq,harr⟩
  |outgrown=>exact⟨_,a₁,w₁,hq,harr⟩
 obtain⟨e,a₁,w₁,hq,harr⟩:=first b (.inScope c::k) cs
 cases e with
 |normal=>exact⟨.normal,a₁,w₁,hq,.head step_scope (Steps.trans harr (.one step_inScope))⟩
 |exit id=>exact⟨.exit id,a₁,w₁,hq,fun k' hk=>.head step_scope (harr k' (by simp[exitTo,hk]))⟩
 |goto l'=>
  obtain⟨rfl,hJ'⟩:=hq;obtain⟨e₂,a₂,w₂,hq₂,harr₂⟩:=k0 a₁ w₁ hJ';exact⟨e₂,a₂,w₂,hq₂,.of_steps (.head step_scope (harr _ hg0)) harr₂⟩
 |ret=>exact⟨_,a₁,w₁,hq,.of_steps (.one step_scope) harr⟩
 |panic ch=>exact⟨_,a₁,w₁,hq,.of_steps (.one step_scope) harr⟩
 |outgrown=>exact⟨_,a₁,w₁,hq,.of_steps (.one step_scope) harr⟩
structure FS (w:World) (g gL:Nat) (hs bs:List Int) (y:World):Prop where
 row:Row y gL 178 bs
 wds:RowW y g 175 hs
 tab:TabIn y
 fr:FrG g w y
 hi:w.heap.size≤gL
theorem FS.mix {w:World} {g gL:Nat} {hs hs' bs:List Int} {y y':World} (h:FS w g gL hs bs y) (hg:g<w.heap.size) (h0:g≠1) (hr:RowW y' g 175 hs') (hf:FrG g y y'):FS w g gL hs' bs y':=
 ⟨hf.row h.row (by have:=h.hi;omega),hr,h.tab.frg (fun k hk e=>hf.block k hk (by omega)),h.fr.trans hf,h.hi⟩
theorem FS.put {w:World} {g gL:Nat} {hs bs bs':List Int} {y y':World} (h:FS w g gL hs bs y) (hg:g<w.heap.size) (h0:1<w.heap.size) (hr:Row y' gL 178 bs') (hw:Wr gL y y'):FS w g gL hs bs' y':=by
 have:=h.hi;exact⟨hr,hw.rowW h.wds (by omega),h.tab.frg (fun k hk e=>hw.block k (by omega)),⟨hw.os.trans h.fr.os,hw.tape.trans h.fr.tape,hw.output.trans h.fr.output,by rw[hw.size];exact h.fr.size,fun k hk hkg=>(hw.block k (by omega)).trans (h.fr.block k hk hkg)⟩,h.hi⟩
set_option maxRecDepth 100000 in
set_option maxHeartbeats 2000000 in
theorem fin_any (g:Nat) (hs:List Int) (a:Option Addr) (n cap:Nat) (zs:List Int) (len:Int) (w:World) (hr:RowW w g 175 hs) (h8:W8 hs) (hn:zs.length=n) (ha:At .u8 w a zs) (hz:Byte zs) (hm:n<128) (hT:TabIn w) (hg0:g≠1) (hu:U64 len) :
  Calls Tryz.prog 134 #[.pointer (some ⟨g,0,none⟩),.slice a n cap,.int .u64 len] w fun e w'=>e=.returned (.tuple #[])∧RowW w' g 175 (finL hs zs len)∧FrG g w w':=by
 have hV:=block_lt_of_cell (a:=⟨1,0,none⟩) (hT 0 (by decide));have hgl:=hr.lt;have z1:=zvBlk;have z2:=zsBlk;have z3:=znBlk;have A:=hid_ofS (blk_any a n cap zs w hn ha (by omega));have HR:=hid_ofS hr;have H8:=hid_ofS h8;have HT:=hid_ofS hT;have HU:=hid_ofS hu;have HZ:=hid_ofS hz;have HN:=hid_ofS hn;have hm':(n:Int)<128:=by omega
 by_cases hc:n<112
 ·have hc':(n:Int)<112:=by omega
  have HF:Hid (finL hs zs len=mixL hs (lenB (mrk zs) len)):=by show _=_;unfold finL;rw[HN.out,if_pos hc]
  go_enter Tryz.func134,Tryz.ntmps134
  go_step3
  go_wp2_with fail;refine A.out.mono ?_;rintro e w1 ⟨rfl,b1⟩;have HB1:=hid_ofS b1;have HZN:Hid (Row (w1.alloc (.cells zBlk 178)) w1.heap.size 178 (List.replicate 128 0)):=by show _=_;rw[heap_alloc_new,zcBlk]
  have HAL:Hid (Below w1.heap.size w1 (w1.alloc (.cells zBlk 178))):=(Below.refl _ _).alloc (Nat.le_refl _) _;have HLB:=hid_ofS (blkOf_len zs);go_wp2_with (first
   |(refine wpList_storeB rfl (.tmp 6) (.tmp 8) rfl Tryz.sizeBlk w1.heap.size (blkOf zs) (List.replicate 128 0) rfl rfl HLB.out (by simp) HZN.out ?_)
   |fail)
  intro w2 hr2 hw2;have hs1:=HB1.out.size;have F2:FS w g w1.heap.size hs (blkOf zs) w2:=⟨hr2,hw2.rowW ((HR.out.below HB1.out hgl).below HAL.out (by omega)) (by omega),((HT.out.frg (fun k hk _=>HB1.out.block k hk)).frg (fun k hk _=>HAL.out.block k hk)).frg (fun k _ e=>hw2.block k (by omega)),
   ⟨hw2.os.trans (HAL.out.os.trans HB1.out.os),hw2.tape.trans (HAL.out.tape.trans HB1.out.tape),hw2.output.trans (HAL.out.output.trans HB1.out.output),by rw[hw2.size];exact Nat.le_trans hs1 HAL.out.size,fun k hk _=>(hw2.block k (by omega)).trans ((HAL.out.block k (by omega)).trans (HB1.out.block k hk))⟩,hs1⟩
  have hcl:=hr2.cell n (by rw[blkOf_len];exact hm);have hfz:=hr2.frozen n;have HS:Hid (FS w g w1.heap.size hs (mrk zs) (w2.setCell ⟨w1.heap.size,n,none⟩ (.int .u8 128))):=by
   have:=F2.put hgl hV (hr2.set n 128) ((Wr.refl _ _).setCell n _);unfold mrk;rw[HN.out];exact this
  obtain⟨w3,hw3⟩:∃ w3,w3=w2.setCell ⟨w1.heap.size,n,none⟩ (.int .u8 128):=⟨_,rfl⟩
  rw[←hw3] at HS;have HW3:=hid_ofS hw3;clear hw3
  go_upto_region 2 with fail
  rw[←HW3.out];clear hcl hfz HW3 z1 z2 z3;go_wp2
  go_step3
  go_wp2_with fail;have B:=hid_ofS (setL_any w1.heap.size len (mrk zs) w3 HS.out.row (mrk_len _) HU.out);refine B.out.mono ?_;rintro e w4 ⟨rfl,r4,b4⟩;have HS4:=hdI <| HS.out.put hgl hV r4 b4
  have C:=hid_ofS (mix_any g w1.heap.size hs (lenB (mrk zs) len) w4 HS4.out.wds H8.out HS4.out.row (lenB_len (mrk_len _) _) (lenB_byte (mrk_byte HZ.out) _) HS4.out.tab hg0);go_wp2_with fail;refine C.out.mono ?_;rintro e w5 ⟨rfl,r5,b5⟩;have HS5:Hid (FS w g w1.heap.size (finL hs zs len) (lenB (mrk zs) len) w5):=by rw[HF.out];exact HS4.out.mix hgl hg0 r5 b5
  go_wp2;rw[Exit.noGoto_ret];refine bodyPost_ret (results_none rfl _ _ _) rfl ?_;exact⟨rfl,HS5.out.wds,HS5.out.fr⟩
 ·have hc':¬ ((n:Int)<112):=by omega
  have HF:Hid (finL hs zs len=mixL (mixL hs (mrk zs)) (lenB (List.replicate 128 0) len)):=by show _=_;unfold finL;rw[HN.out,if_neg hc]
  go_enter Tryz.func134,Tryz.ntmps134;refine wp_scope_two
   (fun a' w'=>∃ gL u3 u4 u5 u7 u8 u9 u10 u11 u12 u13 u14 u15 u16 u17 u18 u19 u20 u21,a'=⟨#[.pointer (some ⟨g,0,none⟩),.slice a n cap,.int .u64 len,u3,u4,u5,.pointer (some ⟨gL,0,none⟩),u7,u8,u9,u10,u11,u12,u13,u14,u15,u16,u17,u18,u19,u20,u21],[]⟩∧FS w g gL hs (mrk zs) w')
   (fun a' w'=>∃ gL u3 u4 u5 u7 u8 u9 u10 u11 u12 u13 u14 u15 u16 u17 u18 u19 u20 u21,a'=⟨#[.pointer (some ⟨g,0,none⟩),.slice a n cap,.int .u64 len,u3,u4,u5,.pointer (some ⟨gL,0,none⟩),u7,u8,u9,u10,u11,u12,u13,u14,u15,u16,u17,u18,u19,u20,u21],[]⟩∧FS w g gL (mixL hs (mrk zs)) (List.replicate 128 0) w')
   rfl rfl ?first ?p0 ?p1
  case first=>
   go_wp2_with fail;refine A.out.mono ?_;rintro e w1 ⟨rfl,b1⟩;have HB1:=hid_ofS b1;have HZN:Hid (Row (w1.alloc (.cells zBlk 178)) w1.heap.size 178 (List.replicate 128 0)):=by show _=_;rw[heap_alloc_new,zcBlk]
   have HAL:Hid (Below w1.heap.size w1 (w1.alloc (.cells zBlk 178))):=(Below.refl _ _).alloc (Nat.le_refl _) _;have HLB:=hid_ofS (blkOf_len zs);go_wp2_with (first
    |(refine wpList_storeB rfl (.tmp 6) (.tmp 8) rfl Tryz.sizeBlk w1.heap.size (blkOf zs) (List.replicate 128 0) rfl rfl HLB.out (by simp) HZN.out ?_)
    |fail)
   intro w2 hr2 hw2;have hs1:=HB1.out.size;have F2:FS w g w1.heap.size hs (blkOf zs) w2:=⟨hr2,hw2.rowW ((HR.out.below HB1.out hgl).below HAL.out (by omega)) (by omega),((HT.out.frg (fun k hk _=>HB1.out.block k hk)).frg (fun k hk _=>HAL.out.block k hk)).frg (fun k _ e=>hw2.block k (by omega)),
    ⟨hw2.os.trans (HAL.out.os.trans HB1.out.os),hw2.tape.trans (HAL.out.tape.trans HB1.out.tape),hw2.output.trans (HAL.out.output.trans HB1.out.output),by rw[hw2.size];exact Nat.le_trans hs1 HAL.out.size,fun k hk _=>(hw2.block k (by omega)).trans ((HAL.out.block k (by omega)).trans (HB1.out.block k hk))⟩,hs1⟩
   have hcl:=hr2.cell n (by rw[blkOf_len];exact hm);have hfz:=hr2.frozen n;have HS:Hid (FS w g w1.heap.size hs (mrk zs) (w2.setCell ⟨w1.heap.size,n,none⟩ (.int .u8 128))):=by
    have:=F2.put hgl hV (hr2.set n 128) ((Wr.refl _ _).setCell n _);unfold mrk;rw[HN.out];exact this
   obtain⟨w3,hw3⟩:∃ w3,w3=w2.setCell ⟨w1.heap.size,n,none⟩ (.int .u8 128):=⟨_,rfl⟩
   rw[←hw3] at HS;have HW3:=hid_ofS hw3;clear hw3
   go_upto_region 2 with fail
   rw[←HW3.out];clear hcl hfz HW3 z1 z2 z3;go_wp2
   go_step3
   exact⟨rfl,w1.heap.size,_,_,_,_,_,_,_,_,_,_,_,_,_,_,_,_,_,_,rfl,HS.out⟩
  case p0=>
   rintro a' w' ⟨gL,u3,u4,u5,u7,u8,u9,u10,u11,u12,u13,u14,u15,u16,u17,u18,u19,u20,u21,rfl,hs'⟩;have HS:=hid_ofS hs';have C:=hid_ofS (mix_any g gL hs (mrk zs) w' hs'.wds H8.out hs'.row (mrk_len _) (mrk_byte HZ.out) hs'.tab hg0);go_wp2_with fail;refine C.out.mono ?_;rintro e w5 ⟨rfl,r5,b5⟩;have HS5:=hdI <| HS.out.mix hgl hg0 r5 b5
   go_wp2_with (first
    |(refine wpList_storeB rfl (.tmp 6) (.tmp 21) rfl Tryz.sizeBlk gL (List.replicate 128 0) (mrk zs) rfl rfl (by simp) (mrk_len _) HS5.out.row ?_)
    |fail)
   intro w6 r6 b6;have HS6:=hdI <| HS5.out.put hgl hV r6 b6
   go_wp2
   go_step3
   exact⟨rfl,gL,_,_,_,_,_,_,_,_,_,_,_,_,_,_,_,_,_,_,rfl,HS6.out⟩
  case p1=>
   rintro a' w' ⟨gL,u3,u4,u5,u7,u8,u9,u10,u11,u12,u13,u14,u15,u16,u17,u18,u19,u20,u21,rfl,hs'⟩;have HS:=hid_ofS hs';go_wp2_with fail;have B:=hid_ofS (setL_any gL len (List.replicate 128 0) w' HS.out.row (by simp) HU.out);refine B.out.mono ?_;rintro e w4 ⟨rfl,r4,b4⟩;have HS4:=hdI <| HS.out.put hgl hV r4 b4
   have C:=hid_ofS (mix_any g gL (mixL hs (mrk zs)) (lenB (List.replicate 128 0) len) w4 HS4.out.wds (mixL_w8 _ _) HS4.out.row (lenB_len (by simp) _) (lenB_byte (zero_byte _) _) HS4.out.tab hg0);go_wp2_with fail;refine C.out.mono ?_;rintro e w5 ⟨rfl,r5,b5⟩;have HS5:Hid (FS w g gL (finL hs zs len) (lenB (List.replicate 128 0) len) w5):=by rw[HF.out];exact HS4.out.mix hgl hg0 r5 b5
   go_wp2;rw[jump_ret];refine bodyPost_ret (results_none rfl _ _ _) rfl ?_;exact⟨rfl,HS5.out.wds,HS5.out.fr⟩
end Go.Proofs.YtncomnkdlpoelaaGreatDoor
