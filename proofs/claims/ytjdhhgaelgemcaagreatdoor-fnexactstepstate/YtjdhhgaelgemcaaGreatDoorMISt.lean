import Derived.Test.YtjdhhgaelgemcaaGreatDoorMEl
import Derived.Test.YtjdhhgaelgemcaaGreatDoorMSPow
namespace Go.Proofs.YtjdhhgaelgemcaaGreatDoor
open Go.ChangeShapes Go.WideShapes Go.ChangeAt Go.RowKit
set_option linter.unusedVariables false
structure Run (w wr:World) (R:List (Nat×List Int)) (E:List (Nat×Nat×List Int)):Prop where
 below:Below w.heap.size w wr
 rows:∀ r∈R,w.heap.size≤r.1∧RowW wr r.1 138 r.2∧EOk r.2
 order:R.Pairwise fun a b=>b.1<a.1
 els:∀ e∈E,e.1<w.heap.size∧EAt wr e.1 e.2.1 e.2.2
theorem Run.start (w:World) (E:List (Nat×Nat×List Int)) (h:∀ e∈E,EAt w e.1 e.2.1 e.2.2):Run w w [] E:=
 ⟨Below.refl _ _,by simp,List.Pairwise.nil,fun e he=>⟨(h e he).1,h e he⟩⟩
theorem Run.call {w wr w':World} {R:List (Nat×List Int)} {E:List (Nat×Nat×List Int)} (h:Run w wr R E) (b:Below wr.heap.size wr w'):Run w w' R E:=
 ⟨h.below.trans (b.mono h.below.size),fun r hr=>⟨(h.rows r hr).1,(h.rows r hr).2.1.below b (h.rows r hr).2.1.lt,(h.rows r hr).2.2⟩,h.order,fun e he=>⟨(h.els e he).1,(h.els e he).2.below b⟩⟩
theorem Run.push {w wr w':World} {R:List (Nat×List Int)} {E:List (Nat×Nat×List Int)} (h:Run w wr R E) (b:Below wr.heap.size wr w') {es:List Int} (hr:RowW w' wr.heap.size 138 es) (hk:EOk es) :
  Run w w' ((wr.heap.size,es)::R) E:=by
 have c:=h.call b;refine⟨c.below,?_,?_,c.els⟩
 ·intro r hm;rcases List.mem_cons.1 hm with rfl|hm
  ·exact⟨h.below.size,hr,hk⟩
  ·exact c.rows r hm
 ·exact List.Pairwise.cons (fun r hm=>(h.rows r hm).2.1.lt) h.order
theorem zero_ok:EOk [0,0,0,0,0]:=⟨rfl,fun i=>by rcases i with _|_|_|_|_|i<;>simp,fun i _=>by rcases i with _|_|_|_|_|i<;>simp,by decide⟩
theorem Run.room {w wr:World} {R:List (Nat×List Int)} {E:List (Nat×Nat×List Int)} (h:Run w wr R E) :
  Run w (wr.alloc (.cells #[.int .u64 0,.int .u64 0,.int .u64 0,.int .u64 0,.int .u64 0] 138)) ((wr.heap.size,[0,0,0,0,0])::R) E:=
 h.push (below_new2 _ _) (row0 wr) zero_ok
theorem Run.el {w wr:World} {R:List (Nat×List Int)} {E:List (Nat×Nat×List Int)} (h:Run w wr R E) (i:Nat) (g o:Nat) (es:List Int) (hi:E[i]?=some (g,o,es)):EAt wr g o es:=
 (h.els _ (List.mem_of_getElem? hi)).2
theorem Run.row {w wr:World} {R:List (Nat×List Int)} {E:List (Nat×Nat×List Int)} (h:Run w wr R E) (i:Nat) (g:Nat) (es:List Int) (hi:R[i]?=some (g,es)):RowW wr g 138 es:=
 (h.rows _ (List.mem_of_getElem? hi)).2.1
theorem Run.ok {w wr:World} {R:List (Nat×List Int)} {E:List (Nat×Nat×List Int)} (h:Run w wr R E) (i:Nat) (g:Nat) (es:List Int) (hi:R[i]?=some (g,es)):EOk es:=
 (h.rows _ (List.mem_of_getElem? hi)).2.2
theorem Run.re {w wr:World} {R:List (Nat×List Int)} {E:List (Nat×Nat×List Int)} (h:Run w wr R E) (i:Nat) (g:Nat) (es:List Int) (hi:R[i]?=some (g,es)):EAt wr g 0 es:=
 EAt.of_row (h.row i g es hi) (h.ok i g es hi)
theorem Run.put {w wr w':World} {R:List (Nat×List Int)} {E:List (Nat×Nat×List Int)} (h:Run w wr R E) (i:Nat) (g:Nat) (zs es:List Int) (hi:R[i]?=some (g,zs)) (hw:Wr g wr w') (hr:RowW w' g 138 es) (hk:EOk es) :
  Run w w' (R.set i (g,es)) E:=by
 have hg:w.heap.size≤g:=(h.rows _ (List.mem_of_getElem? hi)).1;have hil:i<R.length:=(List.getElem?_eq_some_iff.1 hi).1;have hie:R[i]=(g,zs):=(List.getElem?_eq_some_iff.1 hi).2;have ho:=List.pairwise_iff_getElem.1 h.order;refine⟨h.below.trans (hw.below hg),?_,?_,fun e he=>⟨(h.els e he).1,(h.els e he).2.wr hw (by have:=(h.els e he).1;omega)⟩⟩
 ·intro r hm;obtain⟨j,hj,rfl⟩:=List.getElem_of_mem hm;rw[List.length_set] at hj;rw[List.getElem_set];split
  ·exact⟨hg,hr,hk⟩
  ·rename_i hne
   have q:=h.rows _ (List.getElem_mem hj);refine⟨q.1,hw.rowW q.2.1 ?_,q.2.2⟩;rcases Nat.lt_or_gt_of_ne hne with hlt|hgt
   ·have:=ho i j hil hj hlt;rw[hie] at this;simp only at this;omega
   ·have:=ho j i hj hil hgt;rw[hie] at this;simp only at this;omega
 ·rw[List.pairwise_iff_getElem];intro a b ha hb hab;rw[List.length_set] at ha hb;have:=ho a b ha hb hab;rw[List.getElem_set,List.getElem_set];split<;>split<;>simp_all
theorem wpList_storeN {w wr:World} {R:List (Nat×List Int)} {E:List (Nat×Nat×List Int)} (S:Run w wr R E)
  {ops:Array Oper} {rest:List Oper} {o:Oper} {a:Act} {Q:Exit→Act→World→Prop} (hgd:o.guard=none) (x y:Operand) (ho:o.op=.store 138 x y)
  (es:List Int) (hx:a.eval x=.pointer (some ⟨wr.heap.size,0,none⟩)) (hy:a.eval y=.agg (es.map (Value.int .u64)).toArray) (hk:EOk es)
  {wa:World} (hwa:wa=wr.alloc (.cells #[.int .u64 0,.int .u64 0,.int .u64 0,.int .u64 0,.int .u64 0] 138))
  (hK:∀ w',Run w w' ((wr.heap.size,es)::R) E→wpList Tryz.prog ops Q rest (a.put o.dst undef) w') :
  wpList Tryz.prog ops Q (o::rest) a wa:=by
 subst hwa;exact wpList_storeE hgd x y ho wr.heap.size es [0,0,0,0,0] hx hy hk.1 rfl (row0 wr) fun w' hr hw=>hK w' (S.push ((below_new2 _ _).trans (hw.below (Nat.le_refl _))) hr hk)
theorem wpList_storeR {w wr:World} {R:List (Nat×List Int)} {E:List (Nat×Nat×List Int)} (S:Run w wr R E)
  {ops:Array Oper} {rest:List Oper} {o:Oper} {a:Act} {Q:Exit→Act→World→Prop} (hgd:o.guard=none) (x y:Operand) (ho:o.op=.store 138 x y)
  (i g:Nat) (zs es:List Int) (hi:R[i]?=some (g,zs)) (hx:a.eval x=.pointer (some ⟨g,0,none⟩)) (hy:a.eval y=.agg (es.map (Value.int .u64)).toArray) (hk:EOk es)
  {wa:World} (hwa:wa=wr)
  (hK:∀ w',Run w w' (R.set i (g,es)) E→wpList Tryz.prog ops Q rest (a.put o.dst undef) w') :
  wpList Tryz.prog ops Q (o::rest) a wa:=by
 subst hwa;exact wpList_storeE hgd x y ho g es zs hx hy hk.1 (S.ok i g zs hi).1 (S.row i g zs hi) fun w' hr hw=>hK w' (S.put i g zs es hi hw hr hk)
theorem Run.ret {w wr:World} {R:List (Nat×List Int)} {E:List (Nat×Nat×List Int)} (S:Run w wr R E) {fn:Func} {p:Tmp} (h:fn.results=#[.cell p 138]) (tmps:Array Value)
  (i g:Nat) (es:List Int) (hi:R[i]?=some (g,es)) (hp:tmps.getD p undef=.pointer (some ⟨g,0,none⟩)) :
  (results fn tmps).run Tryz.prog wr=.ok (.agg (es.map (Value.int .u64)).toArray) wr:=
 resE h tmps wr g es (S.ok i g es hi).1 hp (S.row i g es hi)
def m250 (n:Nat):Nat:=2^n-1
def M250:Nat:=m250 250
theorem ones250_any (g o:Nat) (xs:List Int) (w:World) (h:EAt w g o xs) :
  Calls Tryz.prog 160 #[.pointer (some ⟨g,o,none⟩),.int .i64 250] w (EP w (ev xs^M250%fp)):=ones_any 250 g o xs w (by decide) (by decide) h
attribute [irreducible] M250
theorem e250 (x:Int) (m k r:Nat):sqN (x^m%fp) k*(x^r%fp)%fp=x^(m*2^k+r)%fp:=by
 have b:0≤x^m%fp∧x^m%fp<fp:=by unfold fp;omega
 rw[sqN_eq _ b.1 b.2,pow_mod_pow,mod_mul_mod,←Int.pow_add]
theorem pow1_mod (x:Int) (h0:0≤x) (h1:x<fp):x^1%fp=x:=by
 rw[Int.pow_succ,Int.pow_zero,Int.one_mul];exact Int.emod_eq_of_lt h0 h1
set_option maxHeartbeats 2000000 in
theorem rootPower_of (g o:Nat) (xs:List Int) (w:World) (h:EAt w g o xs) (v1 goalv:Int) (hv1:ev xs^M250%fp=v1) (hgoal:sqN v1 2*ev xs%fp=goalv) :
  Calls Tryz.prog 162 #[.pointer (some ⟨g,o,none⟩)] w (EP w goalv):=by
 have hev:=ev_bd xs;have HE:Hid (sqN v1 2*ev xs%fp=goalv):=hgoal;have HV1:Hid (ev xs^M250%fp=v1):=hv1;have S0:=(Run.start w [(g,o,xs)] (fun e he=>by rcases List.mem_singleton.1 he with rfl;exact h)).room;have HO:Hid (Run w (w.alloc (.cells #[.int .u64 0,.int .u64 0,.int .u64 0,.int .u64 0,.int .u64 0] 138)) [(w.heap.size,[0,0,0,0,0])] [(g,o,xs)]):=S0;clear S0 h hv1 hev hgoal;go_enter Tryz.func162,Tryz.ntmps162;go_wp2_with fail;refine(ones250_any g o xs _ (HO.out.el 0 _ _ _ rfl)).mono ?_;rintro e w1 ⟨es,hk,hv,rfl,b⟩;have HK1:Hid (EOk es∧ev es=v1):=⟨hk,hv.trans HV1.out⟩
 have S1:=HO.out.call b;have H1:Hid (Run w w1 [(w.heap.size,[0,0,0,0,0])] [(g,o,xs)]):=S1;clear S1 hk hv b HV1;go_wp2_with (first
  |(refine wpList_storeN H1.out rfl (.tmp 3) (.tmp 6) rfl es rfl rfl HK1.out.1 rfl ?_)
  |fail)
 intro w2 S2;have H2:Hid (Run w w2 [(w1.heap.size,es),(w.heap.size,[0,0,0,0,0])] [(g,o,xs)]):=S2;clear S2 H1 HO;generalize w1.heap.size=G1 at *;go_wp2_with fail;refine(squared_any G1 0 es 2 _ (by decide) (H2.out.re 0 _ _ rfl)).mono ?_;rintro e w3 ⟨fs,hk,hv,rfl,b⟩;have HK2:Hid (EOk fs∧ev fs=sqN v1 2):=⟨hk,by rw[hv,HK1.out.2]⟩
 have H3:Hid (Run w w3 [(G1,es),(w.heap.size,[0,0,0,0,0])] [(g,o,xs)]):=H2.out.call b;clear H2 hk hv b;go_wp2_with (first
  |(refine wpList_storeN H3.out rfl (.tmp 4) (.tmp 7) rfl fs rfl rfl HK2.out.1 rfl ?_)
  |fail)
 intro w4 S4;have H4:Hid (Run w w4 [(w3.heap.size,fs),(G1,es),(w.heap.size,[0,0,0,0,0])] [(g,o,xs)]):=S4;clear S4 H3;generalize w3.heap.size=G2 at *;go_wp2_with fail;refine(times_any G2 0 g o fs xs _ (H4.out.re 0 _ _ rfl) (H4.out.el 0 _ _ _ rfl)).mono ?_;rintro e w5 ⟨us,hk,hv,rfl,b⟩;have HK3:Hid (EOk us∧ev us=goalv):=⟨hk,by rw[hv,HK2.out.2];exact HE.out⟩
 have H5:Hid (Run w w5 [(G2,fs),(G1,es),(w.heap.size,[0,0,0,0,0])] [(g,o,xs)]):=H4.out.call b;clear H4 hk hv b;go_wp2_with (first
  |(refine wpList_storeR H5.out rfl (.tmp 2) (.tmp 9) rfl 2 w.heap.size [0,0,0,0,0] us rfl rfl rfl HK3.out.1 rfl ?_)
  |fail)
 intro w6 S6;have H6:Hid (Run w w6 [(G2,fs),(G1,es),(w.heap.size,us)] [(g,o,xs)]):=S6;clear S6 H5;go_wp2;exact bodyPost_ret (v:=.agg (us.map (Value.int .u64)).toArray) (H6.out.ret rfl _ 2 w.heap.size us rfl rfl) rfl ⟨us,HK3.out.1,HK3.out.2,rfl,H6.out.below⟩
theorem rootPower_any (g o:Nat) (xs:List Int) (w:World) (h:EAt w g o xs) :
  Calls Tryz.prog 162 #[.pointer (some ⟨g,o,none⟩)] w (EP w (ev xs^(M250*4+1)%fp)):=by
 have hev:=ev_bd xs;have e:=e250 (ev xs) M250 2 1;rw[pow1_mod _ hev.1 hev.2] at e;exact rootPower_of g o xs w h _ _ rfl e
def lsT (xs:List Int):Int:=gcy B51 (xs.set 0 (xs.getD 0 0+19)) 5
def lsE (xs:List Int):List Int:=sst (xs.set 0 (xs.getD 0 0+19*lsT xs)) 5
theorem sst_dig (xs:List Int):Dig B51 (sst xs 5):=by
 intro z hz;obtain⟨i,hi,rfl⟩:=List.getElem_of_mem hz;have:=sst_bd xs i;have e:(sst xs 5).getD i 0=(sst xs 5)[i]:=by simp[hi]
 rw[e] at this;unfold B51;exact this
theorem fp_lit:fp=57896044618658097711785492504343953926634992332820282019728792003956564819949:=by decide
theorem sst_lt (xs:List Int):0≤val B51 (sst xs 5)∧val B51 (sst xs 5)<fp+19:=by
 have d:=sst_dig xs;have a:=val_nonneg (B:=B51) (by decide) d;have b:=val_lt (B:=B51) (by decide) d;rw[sst_len] at b;have e2:(B51:Int)^5=fp+19:=by decide
 rw[e2] at b;exact⟨a,b⟩
theorem EOk.val {xs:List Int} (h:EOk xs):0≤val B51 xs∧val B51 xs<fp+19+256:=by
 obtain⟨hl,h0,h1,h2⟩:=h
 match xs,hl with
 |[a,b,c,d,e],_=>
  have a0:=h0 0;have b0:=h0 1;have c0:=h0 2;have d0:=h0 3;have e0:=h0 4;have b1:=h1 1 (by decide);have c1:=h1 2 (by decide);have d1:=h1 3 (by decide);have e1:=h1 4 (by decide);simp only[List.getD_cons_zero,List.getD_cons_succ] at a0 b0 c0 d0 e0 b1 c1 d1 e1 h2;simp only[Go.Proofs.YtjdhhgaelgemcaaGreatDoor.val,B51,fp_lit];omega
theorem ls_case (V t r L c:Int) (h1:r+t*(fp+19)=V+19) (h2:L+c*(fp+19)=V+19*t) (hr:0≤r∧r<fp+19) (hL:0≤L∧L<fp+19) (hV:0≤V∧V<fp+19+256) :
  0≤t∧t≤1∧L=V%fp:=by
 rw[fp_lit] at *;have ht:t=0∨t=1:=by omega
 rcases ht with rfl|rfl
 ·have hc:c=0:=by omega
  subst hc;omega
 ·have hc:c=1:=by omega
  subst hc;omega
theorem lsE_all {xs:List Int} (h:EOk xs):0≤lsT xs∧lsT xs≤1∧val B51 (lsE xs)=ev xs:=by
 have hl:=h.1;have s1:=sst_val (xs.set 0 (xs.getD 0 0+19)) (by simp[hl]);have s2:=sst_val (xs.set 0 (xs.getD 0 0+19*lsT xs)) (by simp[hl]);rw[val_set _ _ _ _ (by omega)] at s1 s2;simp only[Int.pow_zero,Int.mul_one] at s1 s2;have hV:=h.val;have hr:=sst_lt (xs.set 0 (xs.getD 0 0+19));have hL:=sst_lt (xs.set 0 (xs.getD 0 0+19*lsT xs));have e1:gcy B51 (xs.set 0 (xs.getD 0 0+19)) 5=lsT xs:=rfl;rw[e1] at s1;unfold ev lsE;generalize gcy B51 (xs.set 0 (xs.getD 0 0+19*lsT xs)) 5=c at *;generalize val B51 (sst (xs.set 0 (xs.getD 0 0+19*lsT xs)) 5)=L at *;generalize val B51 (sst (xs.set 0 (xs.getD 0 0+19)) 5)=r at *;generalize xs.getD 0 0=x0 at *;generalize lsT xs=t at *;generalize val B51 xs=V at *;exact ls_case V t r L c (by omega) (by omega) hr hL hV
theorem lsE_len (xs:List Int):(lsE xs).length=5:=sst_len _ _
theorem lsE_ok (xs:List Int):EOk (lsE xs):=⟨lsE_len xs,fun i=>(sst_bd _ i).1,fun i _=>(sst_bd _ i).2,by have:=(sst_bd (xs.set 0 (xs.getD 0 0+19*lsT xs)) 0).2;unfold lsE;omega⟩
theorem lsE_eq {xs ys:List Int} (hx:EOk xs) (hy:EOk ys):lsE xs=lsE ys↔ev xs=ev ys:=by
 constructor
 ·intro h;rw[←(lsE_all hx).2.2,←(lsE_all hy).2.2,h]
 ·intro h;exact val_inj (B:=B51) (by decide) (sst_dig _) (sst_dig _) (by rw[lsE_len,lsE_len]) (by rw[(lsE_all hx).2.2,(lsE_all hy).2.2,h])
theorem lsE_u62 {xs:List Int} (h:EOk xs) (k:Int) (h0:0≤k) (h1:k≤19):U62 (xs.set 0 (xs.getD 0 0+k)):=by
 intro i;have hl:=h.1;rw[getD_set_eq _ _ _ _ (by omega)];have a:=h.2.1 i;have a0:=h.2.1 0;have b0:=h.2.2.2;split
 ·omega
 ·have b:=h.2.2.1 i (by omega);omega
theorem val_odd (es:List Int) (h:es.length=5):val B51 es%2=es.getD 0 0%2:=by
 match es,h with
 |[a,b,c,d,e],_=>
  simp only[Go.Proofs.YtjdhhgaelgemcaaGreatDoor.val,B51,List.getD_cons_zero];omega
set_option maxHeartbeats 2000000 in
theorem leastE_any (g o:Nat) (xs:List Int) (w:World) (h:EAt w g o xs) :
  Calls Tryz.prog 124 #[.pointer (some ⟨g,o,none⟩)] w fun e w'=>e=.returned (.agg ((lsE xs).map (Value.int .u64)).toArray)∧Below w.heap.size w w':=by
 have hk:=h.2.1;obtain⟨ht0,ht1,_⟩:=lsE_all hk;have HX:Hid (EOk xs):=hk;have HO:Hid (Run w (w.alloc (.cells #[.int .u64 0,.int .u64 0,.int .u64 0,.int .u64 0,.int .u64 0] 138)) [(w.heap.size,[0,0,0,0,0])] [(g,o,xs)]):=
  (Run.start w [(g,o,xs)] (fun e he=>by rcases List.mem_singleton.1 he with rfl;exact h)).room
 have HN:Hid (Run w ((w.alloc (.cells #[.int .u64 0,.int .u64 0,.int .u64 0,.int .u64 0,.int .u64 0] 138)).alloc (.cells #[.int .u64 0,.int .u64 0,.int .u64 0,.int .u64 0,.int .u64 0] 138)) [(w.heap.size+1,[0,0,0,0,0]),(w.heap.size,[0,0,0,0,0])] [(g,o,xs)]):=by
  have:=HO.out.room;rw[show(w.alloc (.cells #[.int .u64 0,.int .u64 0,.int .u64 0,.int .u64 0,.int .u64 0] 138)).heap.size=w.heap.size+1 from by simp] at this;exact this
 clear h hk;go_enter Tryz.func124,Tryz.ntmps124;go_wp2_with (first
  |(refine wpList_loadE rfl (.tmp 7) rfl g o xs rfl (HO.out.el 0 _ _ _ rfl) ?_)
  |(refine wpList_storeR HN.out rfl (.tmp 3) (.tmp 8) rfl 0 (w.heap.size+1) [0,0,0,0,0] xs rfl rfl rfl HX.out rfl ?_)
  |fail)
 intro w1 S1;clear HO HN;have hl:=HX.out.1;have hx0:=HX.out.2.1 0;have hx1:=HX.out.2.2.2;have r1:=S1.row 0 (w.heap.size+1) xs rfl;have z1:=S1.row 1 w.heap.size [0,0,0,0,0] rfl;have e1:=S1.el 0 g o xs rfl;have b1:=S1.below;have hgw:g<w.heap.size:=(S1.els (g,o,xs) (by simp)).1;have c0:=r1.cell 0 (by omega);have f0:=r1.frozen 0;have s1:StS w1 (w.heap.size+1) (xs.set 0 (xs.getD 0 0+19)) (w1.setCell ⟨w.heap.size+1,0,none⟩ (.int .u64 (xs.getD 0 0+19))):=⟨r1.set 0 _,(Wr.refl _ _).setCell 0 _⟩
 have HU1:Hid (U62 (xs.set 0 (xs.getD 0 0+19))):=lsE_u62 HX.out 19 (by decide) (by decide);have HU2:Hid (U62 (xs.set 0 (xs.getD 0 0+19*lsT xs))):=lsE_u62 HX.out (19*lsT xs) (by omega) (by omega);have HT:Hid (gcy B51 (xs.set 0 (xs.getD 0 0+19)) 5=lsT xs):=rfl;have HL5:Hid (xs.length=5):=hl;have HS1:Hid (StS w1 (w.heap.size+1) (xs.set 0 (xs.getD 0 0+19)) (w1.setCell ⟨w.heap.size+1,0,none⟩ (.int .u64 (xs.getD 0 0+19)))):=s1;have HLS:Hid (sst (xs.set 0 (xs.getD 0 0+19*lsT xs)) 5=lsE xs):=rfl;have HZ1:Hid (RowW w1 w.heap.size 138 [0,0,0,0,0]):=z1;have HE1:Hid (EAt w1 g o xs):=e1;have HB1:Hid (Below w.heap.size w w1):=b1;have HXX:Hid (xs.getD 0 0=xs.getD 0 0):=rfl;clear S1 r1 z1 e1 b1 s1 hl;have hxx:∃ x0,x0=xs.getD 0 0:=⟨_,rfl⟩
 obtain⟨x0,hx0e⟩:=hxx;rw[←hx0e] at c0 hx0 hx1 HU1 HU2 HT HS1 HLS;have HX0:Hid (x0=xs.getD 0 0):=hx0e;clear hx0e;go_wp2_with fail;generalize w1.setCell ⟨w.heap.size+1,0,none⟩ (.int .u64 (x0+19))=w2 at *;refine(settle_any (w.heap.size+1) (xs.set 0 (x0+19)) _ (by rw[List.length_set];exact HL5.out) HS1.out.row HU1.out).mono ?_;rintro e w3 ⟨rfl,st⟩;rw[HT.out];have W3:Wr (w.heap.size+1) w1 w3:=HS1.out.wr.trans st.wr;have HZ3:Hid (RowW w3 w.heap.size 138 [0,0,0,0,0]):=W3.rowW HZ1.out (by omega);have HE3:Hid (EAt w3 g o xs):=HE1.out.wr W3 (by omega);have HB3:Hid (Below w.heap.size w w3):=HB1.out.trans (W3.below (by omega));clear st W3 HS1 HZ1 HE1 HB1 HU1 HT c0 f0;have s3:=HB3.out.size;have HZN:Hid (RowW (w3.alloc (.cells #[.int .u64 0,.int .u64 0,.int .u64 0,.int .u64 0,.int .u64 0] 138)) w3.heap.size 138 [0,0,0,0,0]):=row0 w3;go_wp2_with (first
  |(refine wpList_loadE rfl (.tmp 15) rfl g o xs rfl HE3.out ?_)
  |(refine wpList_storeE rfl (.tmp 5) (.tmp 16) rfl w3.heap.size xs [0,0,0,0,0] rfl rfl HL5.out rfl HZN.out ?_)
  |fail)
 intro w4 r4 W4;have b4:Below w3.heap.size w3 w4:=(below_new2 _ _).trans (W4.below (Nat.le_refl _));have hz3:=HZ3.out.lt;have HZ4:Hid (RowW w4 w.heap.size 138 [0,0,0,0,0]):=HZ3.out.below b4 hz3;have HB4:Hid (Below w.heap.size w w4):=HB3.out.trans (b4.mono s3);clear b4 W4 HZ3 HB3 HE3 HZN;generalize w3.heap.size=V at *;have c4:=r4.cell 0 (by rw[HL5.out];decide);have f4:=r4.frozen 0;rw[←HX0.out] at c4;have HS4:Hid (StS w4 V (xs.set 0 (x0+19*lsT xs)) (w4.setCell ⟨V,0,none⟩ (.int .u64 (x0+19*lsT xs)))):=⟨r4.set 0 _,(Wr.refl _ _).setCell 0 _⟩
 clear r4;generalize lsT xs=t at *;go_wp2_with fail;generalize w4.setCell ⟨V,0,none⟩ (.int .u64 (x0+19*t))=w5 at *;refine(settle_any V (xs.set 0 (x0+19*t)) _ (by rw[List.length_set];exact HL5.out) HS4.out.row HU2.out).mono ?_;rintro e w6 ⟨rfl,st⟩;have W6:Wr V w4 w6:=HS4.out.wr.trans st.wr;have HZ6:Hid (RowW w6 w.heap.size 138 [0,0,0,0,0]):=W6.rowW HZ4.out (by omega);have HB6:Hid (Below w.heap.size w w6):=HB4.out.trans (W6.below (by omega));have r6:=st.row;rw[HLS.out] at r6;have HE6:Hid (EAt w6 V 0 (lsE xs)):=EAt.of_row r6 (lsE_ok xs);have HLL:Hid ((lsE xs).length=5):=lsE_len xs;clear st W6 HS4 HZ4 HB4 c4 f4 r6 HLS HU2;go_wp2_with (first
  |(refine wpList_loadE rfl (.tmp 5) rfl V 0 (lsE xs) rfl HE6.out ?_)
  |(refine wpList_storeE rfl (.tmp 2) (.tmp 24) rfl w.heap.size (lsE xs) [0,0,0,0,0] rfl rfl HLL.out rfl HZ6.out ?_)
  |fail)
 intro w7 r7 W7;have HR7:Hid (RowW w7 w.heap.size 138 (lsE xs)):=r7;have HB7:Hid (Below w.heap.size w w7):=HB6.out.trans (W7.below (Nat.le_refl _));clear r7 W7 HZ6 HE6 HB6;go_wp2;exact bodyPost_ret (v:=.agg ((lsE xs).map (Value.int .u64)).toArray) (resE rfl _ _ w.heap.size (lsE xs) HLL.out rfl HR7.out) rfl ⟨rfl,HB7.out⟩
theorem decide_lsE {xs ys:List Int} (hx:EOk xs) (hy:EOk ys):decide (lsE xs=lsE ys)=decide (ev xs=ev ys):=by
 rw[decide_eq_decide];exact lsE_eq hx hy
set_option maxHeartbeats 1000000 in
theorem equalsE_any (g1 o1 g2 o2:Nat) (xs ys:List Int) (w:World) (h1:EAt w g1 o1 xs) (h2:EAt w g2 o2 ys) :
  Calls Tryz.prog 163 #[.pointer (some ⟨g1,o1,none⟩),.pointer (some ⟨g2,o2,none⟩)] w fun e w'=>e=.returned (.bool (decide (ev xs=ev ys)))∧Below w.heap.size w w':=by
 have HD:Hid (decide (lsE xs=lsE ys)=decide (ev xs=ev ys)):=decide_lsE h1.2.1 h2.2.1;have H2:Hid (EAt w g2 o2 ys):=h2;have hml:=lsE_len xs;have hnl:=lsE_len ys;go_enter Tryz.func163,Tryz.ntmps163;go_wp2_with fail;refine(leastE_any g1 o1 xs _ h1).mono ?_;rintro e w1 ⟨rfl,b1⟩;have h2':=H2.out.below b1;have HB1:Hid (Below w.heap.size w w1):=b1;clear h1 h2 b1 H2;go_wp2_with fail;refine(leastE_any g2 o2 ys _ h2').mono ?_;rintro e w2 ⟨rfl,b2⟩;have HB2:Hid (Below w.heap.size w w2):=HB1.out.trans (b2.mono HB1.out.size);clear h2' b2 HB1;go_wp2_with (simp only[run_eqW _ 9998 5 138 Tryz.underlying138 (lsE xs) (lsE ys) hml hnl]);rw[HD.out];obtain⟨q,hq⟩:∃ q,q=decide (ev xs=ev ys):=⟨_,rfl⟩
 rw[←hq];have HQQ:Hid (q=decide (ev xs=ev ys)):=hq;clear hq HD;simp only[Result.andThen_ok];go_simp;go_wp2
 go_ret
 exact⟨by rw[HQQ.out];rfl,HB2.out⟩
set_option maxHeartbeats 1000000 in
theorem isOdd_any (g o:Nat) (xs:List Int) (w:World) (h:EAt w g o xs) :
  Calls Tryz.prog 126 #[.pointer (some ⟨g,o,none⟩)] w fun e w'=>e=.returned (.bool (ev xs%2 == 1))∧Below w.heap.size w w':=by
 have HV:Hid ((lsE xs).getD 0 0%2=ev xs%2):=by
  show _=_
  rw[←val_odd _ (lsE_len xs),(lsE_all h.2.1).2.2]
 have HA:Hid (bits .and .u64 ((lsE xs).getD 0 0) 1=(lsE xs).getD 0 0%2):=u64_and_mask _ 1 ((lsE_ok xs).2.1 0) (by have:=(lsE_ok xs).2.2.2;omega) 1 (by decide) (by decide);go_enter Tryz.func126,Tryz.ntmps126;go_wp2_with fail;refine(leastE_any g o xs _ h).mono ?_;rintro e w1 ⟨rfl,b1⟩;have HB1:Hid (Below w.heap.size w w1):=b1;have HLL:Hid ((lsE xs).length=5):=lsE_len xs;have HZN:Hid (RowW (w1.alloc (.cells #[.int .u64 0,.int .u64 0,.int .u64 0,.int .u64 0,.int .u64 0] 138)) w1.heap.size 138 [0,0,0,0,0]):=row0 w1;clear h b1;go_wp2_with (first
  |(refine wpList_storeE rfl (.tmp 3) (.tmp 5) rfl w1.heap.size (lsE xs) [0,0,0,0,0] rfl rfl HLL.out rfl HZN.out ?_)
  |fail)
 intro w2 r2 W2;have HB2:Hid (Below w.heap.size w w2):=HB1.out.trans (((below_new2 _ _).trans (W2.below (Nat.le_refl _))).mono HB1.out.size);have c2:=r2.cell 0 (by rw[HLL.out];decide);clear W2 HZN r2 HB1;generalize w1.heap.size=V at *;generalize (lsE xs).getD 0 0=x at *;go_wp2;rw[HA.out,HV.out]
 go_ret
 exact⟨rfl,HB2.out⟩
set_option maxHeartbeats 1000000 in
theorem negated_any (g o:Nat) (xs:List Int) (w:World) (h:EAt w g o xs) :
  Calls Tryz.prog 127 #[.pointer (some ⟨g,o,none⟩)] w (EP w ((0-ev xs)%fp)):=by
 have HO:Hid (Run w (w.alloc (.cells #[.int .u64 0,.int .u64 0,.int .u64 0,.int .u64 0,.int .u64 0] 138)) [(w.heap.size,[0,0,0,0,0])] [(g,o,xs)]):=
  (Run.start w [(g,o,xs)] (fun e he=>by rcases List.mem_singleton.1 he with rfl;exact h)).room
 have HN:Hid (Run w ((w.alloc (.cells #[.int .u64 0,.int .u64 0,.int .u64 0,.int .u64 0,.int .u64 0] 138)).alloc (.cells #[.int .u64 0,.int .u64 0,.int .u64 0,.int .u64 0,.int .u64 0] 138)) [(w.heap.size+1,[0,0,0,0,0]),(w.heap.size,[0,0,0,0,0])] [(g,o,xs)]):=by
  have:=HO.out.room;rw[show(w.alloc (.cells #[.int .u64 0,.int .u64 0,.int .u64 0,.int .u64 0,.int .u64 0] 138)).heap.size=w.heap.size+1 from by simp] at this;exact this
 have HZ:Hid (ev [0,0,0,0,0]=0):=by show _=_;decide
 clear h HO;go_enter Tryz.func127,Tryz.ntmps127;go_wp2_with fail;refine(minus_any (w.heap.size+1) 0 g o [0,0,0,0,0] xs _ (HN.out.re 0 _ _ rfl) (HN.out.el 0 _ _ _ rfl)).mono ?_;rintro e w1 ⟨es,hk,hv,rfl,b⟩;rw[HZ.out] at hv;have HK:Hid (EOk es∧ev es=(0-ev xs)%fp):=⟨hk,hv⟩
 have H1:Hid (Run w w1 [(w.heap.size+1,[0,0,0,0,0]),(w.heap.size,[0,0,0,0,0])] [(g,o,xs)]):=HN.out.call b;clear hk hv b HN;go_wp2_with (first
  |(refine wpList_storeR H1.out rfl (.tmp 2) (.tmp 5) rfl 1 w.heap.size [0,0,0,0,0] es rfl rfl rfl HK.out.1 rfl ?_)
  |fail)
 intro w2 S2;have H2:Hid (Run w w2 [(w.heap.size+1,[0,0,0,0,0]),(w.heap.size,es)] [(g,o,xs)]):=S2;clear S2 H1;go_wp2;exact bodyPost_ret (v:=.agg (es.map (Value.int .u64)).toArray) (H2.out.ret rfl _ 1 w.heap.size es rfl rfl) rfl ⟨es,HK.out.1,HK.out.2,rfl,H2.out.below⟩
def pl (x y z t:List Int):List Int:=x++(y++(z++t))
def over (zs:List Int):Nat→List Int→List Int
 |_,[]=>zs
 |o,a::r=>over (zs.set o a) (o+1) r
theorem RowW.setCells {g:Nat} {e:TypeId}:∀(es zs:List Int) (w:World) (o:Nat),RowW w g e zs→RowW (w.setCells g o (es.map (Value.int .u64))) g e (over zs o es)
 |[],_,_,_,h=>h
 |a::r,zs,w,o,h=>RowW.setCells r (zs.set o a) _ (o+1) (h.set o a)
theorem Wr.setCells {g:Nat} {v:World}:∀(es:List Value) (w:World) (o:Nat),Wr g v w→Wr g v (w.setCells g o es)
 |[],_,_,h=>h
 |a::r,w,o,h=>Wr.setCells r _ (o+1) (h.setCell o a)
theorem over_x {x y z t es:List Int} (hx:x.length=5) (he:es.length=5):over (pl x y z t) 0 es=pl es y z t:=by
 match x,hx,es,he with
 |[_,_,_,_,_],_,[_,_,_,_,_],_=>rfl
theorem over_y {x y z t es:List Int} (hx:x.length=5) (hy:y.length=5) (he:es.length=5):over (pl x y z t) 5 es=pl x es z t:=by
 match x,hx,y,hy,es,he with
 |[_,_,_,_,_],_,[_,_,_,_,_],_,[_,_,_,_,_],_=>rfl
theorem over_z {x y z t es:List Int} (hx:x.length=5) (hy:y.length=5) (hz:z.length=5) (he:es.length=5):over (pl x y z t) 10 es=pl x y es t:=by
 match x,hx,y,hy,z,hz,es,he with
 |[_,_,_,_,_],_,[_,_,_,_,_],_,[_,_,_,_,_],_,[_,_,_,_,_],_=>rfl
theorem over_t {x y z t es:List Int} (hx:x.length=5) (hy:y.length=5) (hz:z.length=5) (ht:t.length=5) (he:es.length=5):over (pl x y z t) 15 es=pl x y z es:=by
 match x,hx,y,hy,z,hz,t,ht,es,he with
 |[_,_,_,_,_],_,[_,_,_,_,_],_,[_,_,_,_,_],_,[_,_,_,_,_],_,[_,_,_,_,_],_=>rfl
structure Pt (w:World) (g:Nat) (x y z t:List Int):Prop where
 row:RowW w g 140 (pl x y z t)
 x:EOk x
 y:EOk y
 z:EOk z
 t:EOk t
theorem Pt.at {w:World} {g:Nat} {x y z t:List Int} (h:Pt w g x y z t) (o:Nat) (es:List Int) (hk:EOk es) (ho:o+5≤20) (he:∀ i,i<5→(pl x y z t).getD (o+i) 0=es.getD i 0):EAt w g o es:=
 ⟨h.row.lt,hk,fun i hi=>by
  have hl:(pl x y z t).length=20:=by unfold pl;simp[h.x.1,h.y.1,h.z.1,h.t.1]
  rw[h.row.cell (o+i) (by omega),he i hi]⟩
theorem Pt.ex {w:World} {g:Nat} {x y z t:List Int} (h:Pt w g x y z t):EAt w g 0 x:=h.at 0 x h.x (by omega) fun i hi=>by
 match x,h.x.1,i,hi with
 |[_,_,_,_,_],_,0,_=>rfl
 |[_,_,_,_,_],_,1,_=>rfl
 |[_,_,_,_,_],_,2,_=>rfl
 |[_,_,_,_,_],_,3,_=>rfl
 |[_,_,_,_,_],_,4,_=>rfl
theorem Pt.ey {w:World} {g:Nat} {x y z t:List Int} (h:Pt w g x y z t):EAt w g 5 y:=h.at 5 y h.y (by omega) fun i hi=>by
 match x,h.x.1,y,h.y.1,i,hi with
 |[_,_,_,_,_],_,[_,_,_,_,_],_,0,_=>rfl
 |[_,_,_,_,_],_,[_,_,_,_,_],_,1,_=>rfl
 |[_,_,_,_,_],_,[_,_,_,_,_],_,2,_=>rfl
 |[_,_,_,_,_],_,[_,_,_,_,_],_,3,_=>rfl
 |[_,_,_,_,_],_,[_,_,_,_,_],_,4,_=>rfl
theorem Pt.ez {w:World} {g:Nat} {x y z t:List Int} (h:Pt w g x y z t):EAt w g 10 z:=h.at 10 z h.z (by omega) fun i hi=>by
 match x,h.x.1,y,h.y.1,z,h.z.1,i,hi with
 |[_,_,_,_,_],_,[_,_,_,_,_],_,[_,_,_,_,_],_,0,_=>rfl
 |[_,_,_,_,_],_,[_,_,_,_,_],_,[_,_,_,_,_],_,1,_=>rfl
 |[_,_,_,_,_],_,[_,_,_,_,_],_,[_,_,_,_,_],_,2,_=>rfl
 |[_,_,_,_,_],_,[_,_,_,_,_],_,[_,_,_,_,_],_,3,_=>rfl
 |[_,_,_,_,_],_,[_,_,_,_,_],_,[_,_,_,_,_],_,4,_=>rfl
theorem Pt.et {w:World} {g:Nat} {x y z t:List Int} (h:Pt w g x y z t):EAt w g 15 t:=h.at 15 t h.t (by omega) fun i hi=>by
 match x,h.x.1,y,h.y.1,z,h.z.1,t,h.t.1,i,hi with
 |[_,_,_,_,_],_,[_,_,_,_,_],_,[_,_,_,_,_],_,[_,_,_,_,_],_,0,_=>rfl
 |[_,_,_,_,_],_,[_,_,_,_,_],_,[_,_,_,_,_],_,[_,_,_,_,_],_,1,_=>rfl
 |[_,_,_,_,_],_,[_,_,_,_,_],_,[_,_,_,_,_],_,[_,_,_,_,_],_,2,_=>rfl
 |[_,_,_,_,_],_,[_,_,_,_,_],_,[_,_,_,_,_],_,[_,_,_,_,_],_,3,_=>rfl
 |[_,_,_,_,_],_,[_,_,_,_,_],_,[_,_,_,_,_],_,[_,_,_,_,_],_,4,_=>rfl
structure RunP (w wr:World) (g:Nat) (x y z t:List Int) (R:List (Nat×List Int)) (E:List (Nat×Nat×List Int)):Prop where
 wrh:WrH g w wr
 lt:g<w.heap.size
 pt:Pt wr g x y z t
 rows:∀ r∈R,w.heap.size≤r.1∧RowW wr r.1 138 r.2∧EOk r.2
 order:R.Pairwise fun a b=>b.1<a.1
 els:∀ e∈E,e.1<w.heap.size∧e.1≠g∧EAt wr e.1 e.2.1 e.2.2
section
variable {w wr w':World} {g:Nat} {x y z t:List Int} {R:List (Nat×List Int)} {E:List (Nat×Nat×List Int)}
theorem RunP.start (h:Pt w g x y z t) (E:List (Nat×Nat×List Int)) (he:∀ e∈E,e.1≠g∧EAt w e.1 e.2.1 e.2.2):RunP w w g x y z t [] E:=
 ⟨WrH.refl _ _,h.row.lt,h,by simp,List.Pairwise.nil,fun e hm=>⟨(he e hm).2.1,(he e hm).1,(he e hm).2⟩⟩
theorem Pt.below (h:Pt w g x y z t) {B:Nat} (b:Below B w w') (hB:g<B):Pt w' g x y z t:=⟨h.row.below b hB,h.x,h.y,h.z,h.t⟩
theorem RunP.call (h:RunP w wr g x y z t R E) (b:Below wr.heap.size wr w'):RunP w w' g x y z t R E:=
 ⟨h.wrh.trans (WrH.of_below b),h.lt,h.pt.below b h.pt.row.lt,fun r hr=>⟨(h.rows r hr).1,(h.rows r hr).2.1.below b (h.rows r hr).2.1.lt,(h.rows r hr).2.2⟩,h.order,fun e he=>⟨(h.els e he).1,(h.els e he).2.1,(h.els e he).2.2.below b⟩⟩
theorem RunP.push (h:RunP w wr g x y z t R E) (b:Below wr.heap.size wr w') {es:List Int} (hr:RowW w' wr.heap.size 138 es) (hk:EOk es) :
  RunP w w' g x y z t ((wr.heap.size,es)::R) E:=by
 have c:=h.call b;refine⟨c.wrh,c.lt,c.pt,?_,?_,c.els⟩
 ·intro r hm;rcases List.mem_cons.1 hm with rfl|hm
  ·exact⟨h.wrh.size,hr,hk⟩
  ·exact c.rows r hm
 ·exact List.Pairwise.cons (fun r hm=>(h.rows r hm).2.1.lt) h.order
theorem RunP.el (h:RunP w wr g x y z t R E) (i:Nat) (G o:Nat) (es:List Int) (hi:E[i]?=some (G,o,es)):EAt wr G o es:=
 (h.els _ (List.mem_of_getElem? hi)).2.2
theorem RunP.row (h:RunP w wr g x y z t R E) (i:Nat) (G:Nat) (es:List Int) (hi:R[i]?=some (G,es)):RowW wr G 138 es:=
 (h.rows _ (List.mem_of_getElem? hi)).2.1
theorem RunP.ok (h:RunP w wr g x y z t R E) (i:Nat) (G:Nat) (es:List Int) (hi:R[i]?=some (G,es)):EOk es:=
 (h.rows _ (List.mem_of_getElem? hi)).2.2
theorem RunP.re (h:RunP w wr g x y z t R E) (i:Nat) (G:Nat) (es:List Int) (hi:R[i]?=some (G,es)):EAt wr G 0 es:=
 EAt.of_row (h.row i G es hi) (h.ok i G es hi)
theorem RunP.put (h:RunP w wr g x y z t R E) (i:Nat) (G:Nat) (zs es:List Int) (hi:R[i]?=some (G,zs)) (hw:Wr G wr w') (hr:RowW w' G 138 es) (hk:EOk es) :
  RunP w w' g x y z t (R.set i (G,es)) E:=by
 have hg:w.heap.size≤G:=(h.rows _ (List.mem_of_getElem? hi)).1;have hil:i<R.length:=(List.getElem?_eq_some_iff.1 hi).1;have hie:R[i]=(G,zs):=(List.getElem?_eq_some_iff.1 hi).2;have ho:=List.pairwise_iff_getElem.1 h.order;have hgl:=h.lt;have b:Below w.heap.size wr w':=hw.below hg;refine⟨⟨hw.os.trans h.wrh.os,hw.tape.trans h.wrh.tape,hw.output.trans h.wrh.output,by rw[hw.size];exact h.wrh.size,fun k hk hg'=>(hw.block k (by omega)).trans (h.wrh.block k hk hg')⟩,h.lt,h.pt.below b h.lt,?_,?_,fun e he=>⟨(h.els e he).1,(h.els e he).2.1,(h.els e he).2.2.wr hw (by have:=(h.els e he).1;omega)⟩⟩
 ·intro r hm;obtain⟨j,hj,rfl⟩:=List.getElem_of_mem hm;rw[List.length_set] at hj;rw[List.getElem_set];split
  ·exact⟨hg,hr,hk⟩
  ·rename_i hne
   have q:=h.rows _ (List.getElem_mem hj);refine⟨q.1,hw.rowW q.2.1 ?_,q.2.2⟩;rcases Nat.lt_or_gt_of_ne hne with hlt|hgt
   ·have:=ho i j hil hj hlt;rw[hie] at this;simp only at this;omega
   ·have:=ho j i hj hil hgt;rw[hie] at this;simp only at this;omega
 ·rw[List.pairwise_iff_getElem];intro a b ha hb hab;rw[List.length_set] at ha hb;have:=ho a b ha hb hab;rw[List.getElem_set,List.getElem_set];split<;>split<;>simp_all
theorem RunP.point (h:RunP w wr g x y z t R E) {x' y' z' t':List Int} (hw:Wr g wr w') (hp:Pt w' g x' y' z' t'):RunP w w' g x' y' z' t' R E:=
 ⟨h.wrh.trans hw.wrH,h.lt,hp,fun r hr=>⟨(h.rows r hr).1,hw.rowW (h.rows r hr).2.1 (by have:=(h.rows r hr).1;have:=h.lt;omega),(h.rows r hr).2.2⟩,h.order,fun e he=>⟨(h.els e he).1,(h.els e he).2.1,(h.els e he).2.2.wr hw (h.els e he).2.1⟩⟩
variable {ops:Array Oper} {rest:List Oper} {o:Oper} {a:Act} {Q:Exit→Act→World→Prop}
theorem wpList_newP (S:RunP w wr g x y z t R E) (hgd:o.guard=none) (px py:Operand) (ho:o.op=.store 138 px py)
  (es:List Int) (hx:a.eval px=.pointer (some ⟨wr.heap.size,0,none⟩)) (hy:a.eval py=.agg (es.map (Value.int .u64)).toArray) (hk:EOk es)
  {wa:World} (hwa:wa=wr.alloc (.cells #[.int .u64 0,.int .u64 0,.int .u64 0,.int .u64 0,.int .u64 0] 138))
  (hK:∀ w',RunP w w' g x y z t ((wr.heap.size,es)::R) E→wpList Tryz.prog ops Q rest (a.put o.dst undef) w') :
  wpList Tryz.prog ops Q (o::rest) a wa:=by
 subst hwa;exact wpList_storeE hgd px py ho wr.heap.size es [0,0,0,0,0] hx hy hk.1 rfl (row0 wr) fun w' hr hw=>hK w' (S.push ((below_new2 _ _).trans (hw.below (Nat.le_refl _))) hr hk)
theorem wpList_rowP (S:RunP w wr g x y z t R E) (hgd:o.guard=none) (px py:Operand) (ho:o.op=.store 138 px py)
  (i G:Nat) (zs es:List Int) (hi:R[i]?=some (G,zs)) (hx:a.eval px=.pointer (some ⟨G,0,none⟩)) (hy:a.eval py=.agg (es.map (Value.int .u64)).toArray) (hk:EOk es)
  {wa:World} (hwa:wa=wr)
  (hK:∀ w',RunP w w' g x y z t (R.set i (G,es)) E→wpList Tryz.prog ops Q rest (a.put o.dst undef) w') :
  wpList Tryz.prog ops Q (o::rest) a wa:=by
 subst hwa;exact wpList_storeE hgd px py ho G es zs hx hy hk.1 (S.ok i G zs hi).1 (S.row i G zs hi) fun w' hr hw=>hK w' (S.put i G zs es hi hw hr hk)
theorem RunP.there (S:RunP w wr g x y z t R E) (p:Nat) (hp:p+5≤20):wr.there g p 5:=fun j hj=>by
 have hl:(pl x y z t).length=20:=by unfold pl;simp[S.pt.x.1,S.pt.y.1,S.pt.z.1,S.pt.t.1]
 exact⟨by rw[S.pt.row.cell (p+j) (by omega)];rfl,S.pt.row.frozen _⟩
theorem wpList_midP (S:RunP w wr g x y z t R E) (hgd:o.guard=none) (px py:Operand) (ho:o.op=.store 138 px py)
  (p:Nat) (hp:p+5≤20) (es x' y' z' t':List Int) (hov:over (pl x y z t) p es=pl x' y' z' t') (hk':EOk x'∧EOk y'∧EOk z'∧EOk t') (hx:a.eval px=.pointer (some ⟨g,p,none⟩)) (hy:a.eval py=.agg (es.map (Value.int .u64)).toArray) (hk:EOk es)
  {wa:World} (hwa:wa=wr)
  (hK:∀ w',RunP w w' g x' y' z' t' R E→wpList Tryz.prog ops Q rest (a.put o.dst undef) w') :
  wpList Tryz.prog ops Q (o::rest) a wa:=by
 subst hwa;have hsz:((es.map (Value.int .u64)).toArray).size=5:=by simp[hk.1]
 refine wpList_store_mid hgd 138 px py ho g p ((es.map (Value.int .u64)).toArray) hx hy (by rw[hsz];exact S.there p hp) (sizeEl hk.1) (all_oneCell_toArray (ints_oneCell _ _)) (hK _ ?_);have hr:=RowW.setCells es (pl x y z t) wa p S.pt.row;rw[hov] at hr;exact S.point (Wr.setCells _ _ p (Wr.refl _ _)) ⟨hr,hk'.1,hk'.2.1,hk'.2.2.1,hk'.2.2.2⟩
end
theorem Tryz.sizeNumR:(Tryz.prog.info? 143).map (·.size)=some 4:=by kernel_rfl
theorem sizeNumR {ns:List Int} (h:ns.length=4):(Tryz.prog.info? 143).map (·.size)=some ((ns.map (Value.int .u64)).toArray).size:=by rw[Tryz.sizeNumR];simp[h]
def lW:List Int:=[6346243789798364141,1503914060200516822,0,1152921504606846976]
theorem lW_val:val 18446744073709551616 lW=bigL:=by decide
theorem lW_wrd:Wrd lW:=by unfold Wrd lW;decide
set_option maxHeartbeats 400000 in
theorem gord_any (w:World) :
  Calls Tryz.prog 155 #[] w fun e w'=>e=.returned (.agg (lW.map (Value.int .u64)).toArray)∧Below w.heap.size w w':=by
 have HR:Hid (RowW (w.alloc (.cells #[.int .u64 0,.int .u64 0,.int .u64 0,.int .u64 0] 143)) w.heap.size 143 [0,0,0,0]):=heap_alloc_new w _;have HSZ:Hid ((Tryz.prog.info? 143).map (·.size)=some ((lW.map (Value.int .u64)).toArray).size):=sizeNumR rfl;go_enter Tryz.func155,Tryz.ntmps155;go_wp2_with (refine wpList_store_row rfl 143 (.tmp 0) (.tmp 1) rfl w.heap.size ((lW.map (Value.int .u64)).toArray) rfl rfl 143 _ HR.out HSZ.out rfl (all_oneCell_toArray (ints_oneCell _ _)) ?_);refine bodyPost_ret (v:=.agg (lW.map (Value.int .u64)).toArray) (results_cell_row rfl _ _ w.heap.size 143 _ (0,0) _ rfl (setRow_heap _ _ _ _ _ _ HR.out) Tryz.underlying143 rfl HSZ.out) rfl ⟨rfl,?_⟩;exact(below_new2 _ _).trans ((Wr.setRow _ _ _).below (Nat.le_refl _))
theorem index_num (cs:Array Value) (k:Nat) (v:Value) (w:World) (hk:(k:Int)<4) (h:cs[k]?=some v) :
  (Instr.index 143 (.agg cs) (.int .i64 k)).run Tryz.prog w=.ok v w:=by
 simp[Instr.index,asIntOf,run_underlying Tryz.underlying143,part,h,go_sem];omega
def oncePost (w:World) (g:Nat) (ns:List Int) (e:Ending) (w':World):Prop:=
 e=.returned (.tuple #[])∧∃ ms,ms.length=4∧RowW w' g 143 ms∧Wrd ms∧val 18446744073709551616 ms=(if bigL≤val 18446744073709551616 ns then val 18446744073709551616 ns-bigL else val 18446744073709551616 ns)∧WrH g w w'
structure OS (w:World) (g:Nat) (ns:List Int) (k:Nat) (b:Int) (wr:World):Prop where
 bd:0≤b∧b≤1
 row:RowW wr g 143 ns
 less:∃ ms,ms.length=4∧RowW wr w.heap.size 143 ms∧Wrd ms∧val 18446744073709551616 (ns.take k)-val 18446744073709551616 (lW.take k)=val 18446744073709551616 (ms.take k)-b*18446744073709551616^k
 below:Below w.heap.size w wr
set_option maxHeartbeats 1000000 in
theorem onceR_any (g:Nat) (ns:List Int) (w:World) (hl:ns.length=4) (hr:RowW w g 143 ns) (hw:Wrd ns) :
  Calls Tryz.prog 131 #[.pointer (some ⟨g,0,none⟩)] w (oncePost w g ns):=by
 have hg:=hr.lt;have HN:Hid (RowW w g 143 ns):=hr;have HR:Hid (RowW (w.alloc (.cells #[.int .u64 0,.int .u64 0,.int .u64 0,.int .u64 0] 143)) w.heap.size 143 [0,0,0,0]):=heap_alloc_new w _;have HSZ:Hid ((Tryz.prog.info? 143).map (·.size)=some ((ns.map (Value.int .u64)).toArray).size):=sizeNumR hl;have HZ4:Hid ((#[Value.int .u64 0,.int .u64 0,.int .u64 0,.int .u64 0]:Array Value).size=((ns.map (Value.int .u64)).toArray).size):=by show _=_;simp[hl]
 have HB:Hid (Below w.heap.size w (w.alloc (.cells #[.int .u64 0,.int .u64 0,.int .u64 0,.int .u64 0] 143))):=below_new2 _ _;clear hr;go_enter Tryz.func131,Tryz.ntmps131;go_wp2_with (first
  |(refine wpList_load_row rfl 143 (.tmp 7) rfl g rfl 143 _ (0,0) _ HN.out Tryz.underlying143 rfl HSZ.out ?_)
  |(refine wpList_store_row rfl 143 (.tmp 2) (.tmp 8) rfl w.heap.size ((ns.map (Value.int .u64)).toArray) rfl rfl 143 _ HR.out HSZ.out HZ4.out (all_oneCell_toArray (ints_oneCell _ _)) ?_)
  |fail)
 have R1:RowW ((w.alloc (.cells #[.int .u64 0,.int .u64 0,.int .u64 0,.int .u64 0] 143)).setRow w.heap.size (ns.map (Value.int .u64)).toArray) w.heap.size 143 ns:=HR.out.setRow ns;have R2:RowW ((w.alloc (.cells #[.int .u64 0,.int .u64 0,.int .u64 0,.int .u64 0] 143)).setRow w.heap.size (ns.map (Value.int .u64)).toArray) g 143 ns:=(HN.out.below HB.out hg).setRow_other _ (by omega);have B1:Below w.heap.size w ((w.alloc (.cells #[.int .u64 0,.int .u64 0,.int .u64 0,.int .u64 0] 143)).setRow w.heap.size (ns.map (Value.int .u64)).toArray):=HB.out.trans ((Wr.setRow _ _ _).below (Nat.le_refl _));clear HR HZ4 HB HSZ;generalize (w.alloc (.cells #[.int .u64 0,.int .u64 0,.int .u64 0,.int .u64 0] 143)).setRow w.heap.size (ns.map (Value.int .u64)).toArray=w1 at *;refine(gord_any _).mono ?_;rintro e w2 ⟨rfl,B2⟩;have s1:=R1.lt;have R1':=R1.below B2 s1;have R2':=R2.below B2 R2.lt;have B12:Below w.heap.size w w2:=B1.trans (B2.mono (by omega));have HS:Hid (OS w g ns 0 0 w2):=⟨⟨by decide,by decide⟩,R2',⟨ns,hl,R1',hw,by simp[val]⟩,B12⟩
 clear R1 R2 B1 B2 R1' R2' B12 HN s1;go_wp2
 go_loopw [3,10] (fun c i wr=>∃(k:Nat) (b:Int),k≤4∧i=.int .i64 k∧c=.int .u64 b∧OS w g ns k b wr) (fun _ i _=>4-(intOf i).toNat)
 case atStart=>exact⟨0,0,Nat.zero_le _,rfl,rfl,HS.out⟩
 case round=>
  obtain⟨k,b,hk,rfl,rfl,⟨hb0,hb1⟩,hrow,⟨ms,hml,hmr,hmw,hv⟩,hbel⟩:=hrel;clear HS;by_cases hlt:k<4
  ·have cn:=hrow.cell k (by omega);have cm:=hmr.cell k (by omega);have fm:=hmr.frozen k;have hx:=hw.get k;have hy:=lW_wrd.get k;have hne:g≠w.heap.size:=by omega
   have hbe:=bor_eq _ _ _ hx.1 hx.2 hy.1 hy.2 hb0 hb1;have hbb:=bor_bd (ns.getD k 0) (lW.getD k 0) b;have hd0:0≤(ns.getD k 0-lW.getD k 0-b)%18446744073709551616:=by omega
   have hd1:(ns.getD k 0-lW.getD k 0-b)%18446744073709551616<18446744073709551616:=by omega
   have S1:=hmr.set k ((ns.getD k 0-lW.getD k 0-b)%18446744073709551616);have S2:=hmw.set k _ hd0 hd1;have S3:=sub_step _ _ _ _ _ _ _ _ _ _ hv hbe;rw[←val_take _ ns k (by omega),←val_take _ lW k (by simpa[lW] using hlt),←val_set_succ _ ms k _ (by omega),←Int.pow_succ] at S3;have R:RowW (wr.setCell ⟨w.heap.size,k,none⟩ (.int .u64 ((ns.getD k 0-lW.getD k 0-b)%18446744073709551616))) g 143 ns:=((Wr.refl _ _).setCell k _).rowW hrow hne;have HO:Hid (OS w g ns (k+1) (bor (ns.getD k 0) (lW.getD k 0) b) (wr.setCell ⟨w.heap.size,k,none⟩ (.int .u64 ((ns.getD k 0-lW.getD k 0-b)%18446744073709551616)))):=
    ⟨hbb,R,⟨_,by rw[List.length_set];exact hml,S1,S2,S3⟩,hbel.setCell (Nat.le_refl _) _⟩
   clear hbe hbb hd0 hd1 S1 S2 S3 R hrow hmr hmw hv hbel;obtain⟨hx0,hx1⟩:=hx;obtain⟨hy0,hy1⟩:=hy;generalize ns.getD k 0=x at *;have hlt':(k:Int)<4:=by omega
   have hix:(lW.map (Value.int .u64)).toArray[k]?=some (.int .u64 (lW.getD k 0)):=by
    have:k<lW.length:=by simpa[lW] using hlt
    simp[this]
   have hsz:(lW.map (Value.int .u64)).toArray.size=4:=rfl;generalize (lW.map (Value.int .u64)).toArray=la at *;generalize lW.getD k 0=y at *;go_wp2_with (first|simp only[index_num la k _ _ hlt' hix]|simp only[sub64 x y b hx0 hy0 hy1 hb0 hb1]);exact⟨⟨k+1,bor x y b,by omega,by go_num,rfl,HO.out⟩,by simp[intOf];omega⟩
  ·have hk4:k=4:=by omega
   subst hk4;rw[List.take_of_length_le (by omega),List.take_of_length_le (by simp[lW]),List.take_of_length_le (by omega),lW_val] at hv;have m0:0≤val 18446744073709551616 ms:=val_nonneg (by decide) hmw;have m1:val 18446744073709551616 ms<18446744073709551616^4:=by rw[←hml];exact val_lt (by decide) hmw
   have hne:g≠w.heap.size:=by omega
   have HSZ:Hid ((Tryz.prog.info? 143).map (·.size)=some ((ms.map (Value.int .u64)).toArray).size):=sizeNumR hml;have HSN:Hid ((ns.map (Value.int .u64)).toArray.size=(ms.map (Value.int .u64)).toArray.size):=by show _=_;simp[hl,hml]
   have HN:Hid (RowW wr g 143 ns):=hrow;have HM:Hid (RowW wr w.heap.size 143 ms):=hmr;rcases (show b=0∨b=1 by omega) with rfl|rfl
   ·have HP:Hid (oncePost w g ns (.returned (.tuple #[])) (wr.setRow g (ms.map (Value.int .u64)).toArray)):=by
     refine⟨rfl,ms,hml,hrow.setRow ms,hmw,?_,?_⟩
     ·rw[if_pos (by omega)];omega
     ·exact(WrH.of_below hbel).trans (Wr.setRow _ _ _).wrH
    clear hv m0 m1 hrow hmr hmw hbel;go_wp2_with (first
     |(refine wpList_load_row rfl 143 (.tmp 2) rfl w.heap.size rfl 143 _ (0,0) _ HM.out Tryz.underlying143 rfl HSZ.out ?_)
     |(refine wpList_store_row rfl 143 (.tmp 32) (.tmp 31) rfl g ((ms.map (Value.int .u64)).toArray) rfl rfl 143 _ HN.out HSZ.out HSN.out (all_oneCell_toArray (ints_oneCell _ _)) ?_)
     |fail)
    go_end0
    exact HP.out
   ·have HP:Hid (oncePost w g ns (.returned (.tuple #[])) wr):=by
     refine⟨rfl,ns,hl,hrow,hw,?_,WrH.of_below hbel⟩;rw[if_neg (by omega)]
    clear hv m0 m1 hrow hmr hmw hbel;go_wp2
    go_end0
    exact HP.out
def NumPostR (w:World) (v:Int) (e:Ending) (w':World):Prop:=
 ∃ ms:List Int,ms.length=4∧Wrd ms∧val 18446744073709551616 ms=v∧e=.returned (.agg (ms.map (Value.int .u64)).toArray)∧Below w.heap.size w w'
theorem u8_shr_and {x b:Int} {r:Nat} (h0:0≤x) (h1:x<256) (h:b=x/2^r%2):bits .and .u64 (IntKind.u64.wrap (x/2^r)) 1=b:=by
 have hp:(0:Int)<2^r:=Int.pow_pos (by decide);have a0:0≤x/2^r:=Int.ediv_nonneg h0 (by omega);have a1:x/2^r≤x:=Int.ediv_le_self _ h0;generalize x/2^r=y at *;rw[IntKind.wrap_u64,Int.emod_eq_of_lt a0 (by omega),u64_and_mask y 1 a0 (by omega) 1 (by decide) (by decide),h];rfl
structure RN (w:World) (V:Int) (j:Nat) (wr:World):Prop where
 res:RowW wr w.heap.size 143 [0,0,0,0]
 row:∃ ns,ns.length=4∧RowW wr (w.heap.size+1) 143 ns∧Wrd ns∧val 18446744073709551616 ns=restAt V j
 below:Below w.heap.size w wr
set_option maxHeartbeats 1000000 in
theorem rnum_any (a:Option Addr) (n cap:Nat) (zs:List Int) (w:World) (hn:zs.length=n) (hm:n≤1048576) (ha:At .u8 w a zs) (hz:Byte zs) :
  Calls Tryz.prog 106 #[.slice a n cap] w (NumPostR w (val 256 zs%bigL)):=by
 have hV0:0≤val 256 zs:=val_nonneg (by decide) hz;have hV1:val 256 zs<2^(8*n):=by rw[←pow256r,←hn];exact val_lt (by decide) hz
 have HT:Hid (restAt (val 256 zs) (8*n)=0):=restAt_top _ _ hV0 hV1;have HS:Hid (RN w (val 256 zs) (8*n) ((w.alloc (.cells #[.int .u64 0,.int .u64 0,.int .u64 0,.int .u64 0] 143)).alloc (.cells #[.int .u64 0,.int .u64 0,.int .u64 0,.int .u64 0] 143))):=
  ⟨heap_alloc2_old _ _ _,⟨[0,0,0,0],rfl,heap_alloc2_new _ _ _,by unfold Wrd;decide,by rw[HT.out];decide⟩,((Below.refl _ _).alloc (Nat.le_refl _) _).alloc (by simp) _⟩
 clear hV0 hV1 HT;go_enter Tryz.func106,Tryz.ntmps106;go_wp2
 go_loopw [4] (fun i wr=>∃(j:Nat),j≤8*n∧i=.int .i64 ((j:Int)-1)∧RN w (val 256 zs) j wr) (fun i _=>(intOf i+1).toNat)
 case atStart=>exact⟨8*n,Nat.le_refl _,by go_num,HS.out⟩
 case round=>
  clear HS;obtain⟨j,hj,rfl,hres,⟨ns,hl,hrow,hw,hv⟩,hbel⟩:=hrel;by_cases hj0:0<j
  ·obtain⟨j,rfl⟩:∃ i,j=i+1:=⟨j-1,by omega⟩
   have ei:((j+1:Nat):Int)-1=(j:Int):=by omega
   rw[ei];clear ei;obtain⟨b0,off,rfl,hb0,hc⟩:=(ha.below hbel).get (by omega);have c0:=hc (j/8) (by omega);have hb:=bitAt_byte zs j hz;have hx:=hz.get (j/8);generalize zs.getD (j/8) 0=x at *;obtain⟨hx0,hx1⟩:=hx;clear hc;have hand:=u8_shr_and hx0 hx1 hb;have hbd:=bitAt_bd (val 256 zs) j;have hst:=restAt_step (val 256 zs) j;have hbL:=restAt_bd (val 256 zs) (j+1);rw[←hv] at hst hbL;generalize bitAt (val 256 zs) j=bj at *;have HAND:Hid (bits .and .u64 (IntKind.u64.wrap (x/2^(j%8))) 1=bj):=hand;have HST:Hid (restAt (val 256 zs) j=if bigL≤2*val 18446744073709551616 ns+bj then 2*val 18446744073709551616 ns+bj-bigL else 2*val 18446744073709551616 ns+bj):=hst;have HV:Hid (0≤val 18446744073709551616 ns∧val 18446744073709551616 ns<bigL):=hbL;have HBD:Hid (bj=0∨bj=1):=hbd;clear hb hand hst hbL hv hbd;have HRS:Hid (RowW wr w.heap.size 143 [0,0,0,0]):=hres;have HRO:Hid (RowW wr (w.heap.size+1) 143 ns):=hrow;have HBE:Hid (Below w.heap.size w wr):=hbel;clear hres hrow hbel;go_wp2_with fail;rw[HAND.out];refine(push_any _ ns bj _ hl HRO.out hw HBD.out).mono ?_;rintro e w1 ⟨rfl,ms,hml,hmr,hmw,⟨c,hc0,hcv⟩,hwr1⟩;have hc00:c=0:=by
    rcases Int.lt_or_le 0 c with h|h
    ·exfalso
     have:=HV.out;have:=HBD.out;unfold bigL at *;have m0:0≤val 18446744073709551616 ms:=val_nonneg (by decide) hmw;have h2:(18446744073709551616:Int)^4=115792089237316195423570985008687907853269984665640564039457584007913129639936:=by decide
     rw[h2] at hcv;omega
    ·omega
   subst hc00;have hmv:val 18446744073709551616 ms=2*val 18446744073709551616 ns+bj:=by omega
   have HMR:Hid (RowW w1 (w.heap.size+1) 143 ms):=hmr;have HMV:Hid (val 18446744073709551616 ms=2*val 18446744073709551616 ns+bj):=hmv;have HRS1:Hid (RowW w1 w.heap.size 143 [0,0,0,0]):=hwr1.rowW HRS.out (by omega);have HBE1:Hid (Below w.heap.size w w1):=HBE.out.trans (hwr1.below (by omega));clear hcv hmr hmv hwr1 HRS HBE HRO c0;go_wp2_with fail;refine(onceR_any _ ms _ hml HMR.out hmw).mono ?_;rintro e w2 ⟨rfl,ls,hll,hlr,hlw,hlv,hwr2⟩;rw[HMV.out,←HST.out] at hlv;have HP:Hid (RN w (val 256 zs) j w2):=⟨hwr2.rowW HRS1.out (by omega),⟨ls,hll,hlr,hlw,hlv⟩,HBE1.out.trans (hwr2.below _ (by omega) HBE1.out.size)⟩
   clear hlv hwr2 hlr hlw HRS1 HBE1 HMR HMV HST HV HAND;go_wp2;go_roundw
   case rel=>exact⟨j,by omega,rfl,HP.out⟩
   case measure=>first|(simp[intOf];done)|(simp[intOf];omega)
  ·obtain rfl:j=0:=by omega
   rw[restAt_zero] at hv;have HSZ:Hid ((Tryz.prog.info? 143).map (·.size)=some ((ns.map (Value.int .u64)).toArray).size):=sizeNumR hl;have HZ4:Hid (([0,0,0,0].map (Value.int .u64)).toArray.size=((ns.map (Value.int .u64)).toArray).size):=by show _=_;simp[hl]
   have HRS:Hid (RowW wr w.heap.size 143 [0,0,0,0]):=hres;have HRO:Hid (RowW wr (w.heap.size+1) 143 ns):=hrow;have HBE:Hid (Below w.heap.size w wr):=hbel;have HV:Hid (val 18446744073709551616 ns=val 256 zs%bigL):=hv;clear hres hrow hbel hv;go_wp2_with (first
    |(refine wpList_load_row rfl 143 (.tmp 3) rfl (w.heap.size+1) rfl 143 _ (0,0) _ HRO.out Tryz.underlying143 rfl HSZ.out ?_)
    |(refine wpList_store_row rfl 143 (.tmp 2) (.tmp 25) rfl w.heap.size ((ns.map (Value.int .u64)).toArray) rfl rfl 143 _ HRS.out HSZ.out HZ4.out (all_oneCell_toArray (ints_oneCell _ _)) ?_))
   refine bodyPost_ret (v:=.agg (ns.map (Value.int .u64)).toArray) (results_cell_row rfl _ _ w.heap.size 143 _ (0,0) _ rfl (setRow_heap _ _ _ _ _ _ HRS.out) Tryz.underlying143 rfl HSZ.out) rfl ⟨ns,hl,hw,HV.out,rfl,?_⟩;exact HBE.out.trans ((Wr.setRow _ _ _).below (Nat.le_refl _))
end Go.Proofs.YtjdhhgaelgemcaaGreatDoor
