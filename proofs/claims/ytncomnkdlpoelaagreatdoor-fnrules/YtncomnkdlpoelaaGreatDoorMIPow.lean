import Derived.Test.YtncomnkdlpoelaaGreatDoorMTxt
import Derived.Test.YtncomnkdlpoelaaGreatDoorMDraw
namespace Go.Proofs.YtncomnkdlpoelaaGreatDoor
open Go.ChangeShapes Go.WideShapes Go.ChangeAt Go.RowKit
set_option linter.unusedVariables false
theorem mod_mul_mod (a b:Int):(a%fp)*(b%fp)%fp=a*b%fp:=(Int.mul_emod a b fp).symm
theorem sqN_eq (x:Int) (h0:0≤x) (h1:x<fp) (n:Nat):sqN x n=x^(2^n)%fp:=by
 induction n with
 |zero=>simp only[sqN,Nat.pow_zero,Int.pow_succ,Int.pow_zero,Int.one_mul];exact(Int.emod_eq_of_lt h0 h1).symm
 |succ n ih=>rw[sqN,ih,mod_mul_mod,←Int.pow_add,Nat.pow_succ];congr 2;omega
theorem pow_mod_pow (x:Int) (a b:Nat):(x^a%fp)^b%fp=x^(a*b)%fp:=by
 induction b with
 |zero=>simp
 |succ b ih=>rw[Int.pow_succ,Int.mul_emod,ih,Int.emod_emod_of_dvd _ (Int.dvd_refl fp),mod_mul_mod,←Int.pow_add,Nat.mul_succ]
theorem ev_bd (es:List Int):0≤ev es∧ev es<fp:=by unfold ev fp;omega
theorem ones_even (x:Int) (h:Nat):sqN (x^(2^h-1)%fp) h*(x^(2^h-1)%fp)%fp=x^(2^(h+h)-1)%fp:=by
 have b:0≤x^(2^h-1)%fp∧x^(2^h-1)%fp<fp:=by unfold fp;omega
 rw[sqN_eq _ b.1 b.2,pow_mod_pow,mod_mul_mod,←Int.pow_add]
 congr 2
 have hp:1≤2^h:=Nat.pow_pos (by decide);rw[Nat.pow_add,Nat.sub_mul,Nat.one_mul];have:2^h≤2^h*2^h:=Nat.le_mul_of_pos_left _ hp;omega
theorem ones_odd (x:Int) (m:Nat) (h0:0≤x) (h1:x<fp):sqN (x^(2^m-1)%fp) 1*x%fp=x^(2^(m+1)-1)%fp:=by
 have b:0≤x^(2^m-1)%fp∧x^(2^m-1)%fp<fp:=by unfold fp;omega
 have hx:x=x^1%fp:=by rw[Int.pow_succ,Int.pow_zero,Int.one_mul];exact(Int.emod_eq_of_lt h0 h1).symm
 rw[sqN_eq _ b.1 b.2,pow_mod_pow]
 conv=>lhs;rw[show x^((2^m-1)*2^1)%fp*x=x^((2^m-1)*2^1)%fp*(x^1%fp) from by rw[←hx]]
 rw[mod_mul_mod,←Int.pow_add]
 congr 2
 have hp:1≤2^m:=Nat.pow_pos (by decide);rw[Nat.pow_succ];omega
theorem EAt.wr {w w':World} {g o V:Nat} {es:List Int} (h:EAt w g o es) (hw:Wr V w w') (hne:g≠V):EAt w' g o es:=
 ⟨by rw[hw.size];exact h.1,h.2.1,fun i hi=>by rw[World.cell?_of_block (a:=⟨g,o+i,none⟩) (w:=w) (hw.block g hne)];exact h.2.2 i hi⟩
set_option maxHeartbeats 2000000 in
theorem ones_any (n:Nat):∀(g o:Nat) (xs:List Int) (w:World),1≤n→n≤1024→EAt w g o xs→
  Calls Tryz.prog 159 #[.pointer (some ⟨g,o,none⟩),.int .i64 n] w (EP w (ev xs^(2^n-1)%fp)):=by
 induction n using Nat.strongRecOn with
 |ind n ih=>
  intro g o xs w hn1 hn2 h;have HX:Hid (EAt (w.alloc (.cells #[.int .u64 0,.int .u64 0,.int .u64 0,.int .u64 0,.int .u64 0] 141)) g o xs):=h.below (below_new2 _ _);have HK:=hdI <| h.2.1
  have hev:=ev_bd xs;have hgw:=h.1;clear h;by_cases h1:n=1
  ·have h1':((n:Int) == 1)=true:=by rw[h1];rfl
   have HV:Hid (ev xs=ev xs^(2^n-1)%fp):=by
    show _=_
    rw[h1];simp only[Nat.pow_one,Nat.reduceSub,Int.pow_succ,Int.pow_zero,Int.one_mul];exact(Int.emod_eq_of_lt hev.1 hev.2).symm
   clear h1 ih;have HR0:=hdI <| row0 w
   go_enter Tryz.func159,Tryz.ntmps159;go_wp2_with (first
    |(refine wpList_loadE rfl (.tmp 10) rfl g o xs rfl HX.out ?_)
    |(refine wpList_storeE rfl (.tmp 4) (.tmp 11) rfl w.heap.size xs [0,0,0,0,0] rfl rfl HK.out.1 rfl HR0.out ?_)
    |fail)
   intro w3 hr3 hw3;have HB3:=hdI <| (below_new2 _ _).trans (hw3.below (Nat.le_refl _))
   have HR3:=hdI <| hr3
   clear hr3 hw3 HX HR0;go_wp2;exact bodyPost_ret (v:=.agg (xs.map (Value.int .u64)).toArray) (resE rfl _ _ w.heap.size xs HK.out.1 rfl HR3.out) rfl ⟨xs,HK.out,HV.out,rfl,HB3.out⟩
  ·have h1':((n:Int) == 1)=false:=by simp;omega
   have IH:=hdI <| ih (n/2) (by omega) g o xs
   have HD:Hid ((n:Int)/2=((n/2:Nat):Int)):=by show _=_;omega
   clear ih;have hb0:Below w.heap.size w (w.alloc (.cells #[.int .u64 0,.int .u64 0,.int .u64 0,.int .u64 0,.int .u64 0] 141)):=below_new2 _ _;have HR0:=row0 w;go_enter Tryz.func159,Tryz.ntmps159;go_wp2_with fail;generalize w.alloc (.cells #[.int .u64 0,.int .u64 0,.int .u64 0,.int .u64 0,.int .u64 0] 141)=w0 at *;rw[HD.out];refine(IH.out _ (by omega) (by omega) HX.out).mono ?_;rintro e w1 ⟨es,hok,hes,rfl,b1⟩;have HE1:Hid (EOk es∧ev es=ev xs^(2^(n/2)-1)%fp):=⟨hok,hes⟩
   have s0:=hb0.size;have hl0:=HR0.lt;have HR1:=HR0.below b1 hl0;have B1:=hb0.trans (b1.mono s0);have X1:=HX.out.below b1;clear hok hes b1 HR0 hb0 HX IH;have s1:=B1.size;have hl1:=HR1.lt;have HRN:=hdI <| row0 w1
   go_wp2_with (first
    |(refine wpList_storeE rfl (.tmp 5) (.tmp 15) rfl w1.heap.size es [0,0,0,0,0] rfl rfl HE1.out.1.1 rfl HRN.out ?_)
    |fail)
   intro w2 hr2 hw2;have b2:=(below_new2 _ _).trans (hw2.below (Nat.le_refl _));clear HRN;have HR2:=HR1.below b2 hl1;have B2:=B1.trans (b2.mono s1);have X2:=X1.below b2;have E2:=EAt.of_row hr2 HE1.out.1;have hG:=hl1;clear X1 HR1 B1 b2 hw2;generalize hGd:w1.heap.size=G at *;clear hGd;go_wp2_with fail;rw[HD.out];refine(squared_any G 0 es (n/2) _ (by omega) E2).mono ?_;rintro e w3 ⟨fs,hfk,hfv,rfl,b3⟩;have s2:=B2.size;have hl2:=HR2.lt;have HR3:=HR2.below b3 hl2;have B3:=B2.trans (b3.mono s2);have X3:=X2.below b3;have E3:=E2.below b3;have HF:Hid (EOk fs∧ev fs=sqN (ev xs^(2^(n/2)-1)%fp) (n/2)):=⟨hfk,by rw[hfv,HE1.out.2]⟩
   clear hfk hfv b3 B2 X2 E2 HR2 hr2;have s3:=B3.size;have hl3:=HR3.lt;have hG3:=E3.1;have HRN:=hdI <| row0 w3
   go_wp2_with (first
    |(refine wpList_storeE rfl (.tmp 6) (.tmp 18) rfl w3.heap.size fs [0,0,0,0,0] rfl rfl HF.out.1.1 rfl HRN.out ?_)
    |fail)
   intro w4 hr4 hw4;have b4:=(below_new2 _ _).trans (hw4.below (Nat.le_refl _));clear HRN;have HR4:=HR3.below b4 hl3;have B4:=B3.trans (b4.mono s3);have X4:=X3.below b4;have E4:=E3.below b4;have F4:=EAt.of_row hr4 HF.out.1;have hV:w.heap.size<w3.heap.size:=by omega
   clear X3 E3 HR3 B3 b4 hw4;generalize hVd:w3.heap.size=V at *;clear hVd;go_wp2_with fail;refine(times_any V 0 G 0 fs es _ F4 E4).mono ?_;rintro e w5 ⟨us,huk,huv,rfl,b5⟩;have s4:=B4.size;have HU:Hid (EOk us∧ev us=ev xs^(2^(n/2+n/2)-1)%fp):=⟨huk,by rw[huv,HF.out.2,HE1.out.2,ones_even]⟩
   have HR5:=HR4.below b5 HR4.lt;have hrV:=hr4.below b5 hr4.lt;have B5:=B4.trans (b5.mono s4);have X5:=X4.below b5;have HFL:=hdI <| HF.out.1.1
   clear huk huv b5 B4 X4 E4 F4 HR4 hr4;have HRV:=hdI <| hrV
   clear hrV;go_wp2_with (first
    |(refine wpList_storeE rfl (.tmp 6) (.tmp 19) rfl V us fs rfl rfl HU.out.1.1 HFL.out HRV.out ?_)
    |fail)
   intro w6 hr6 hw6;have HR6:=hw6.rowW HR5 (by omega);have B6:=B5.trans (hw6.below (by omega));have X6:=X5.wr hw6 (by omega);have hr6':=hr6;clear X5 HR5 B5 hw6 HRV hr6;have hmod:(n:Int)%2=((n%2:Nat):Int):=by omega
   by_cases hodd:n%2=1
   ·have ho1:(n:Int)%2=1:=by omega
    have ho2:(n:Int).tmod 2=1:=by rw[Int.tmod_eq_emod_of_nonneg (by omega)];exact ho1
    have HNE:Hid (n/2+n/2+1=n):=by show _=_;omega
    clear hmod hodd;have U6:=EAt.of_row hr6' HU.out.1;go_wp2_with fail;refine(squared_any V 0 us 1 _ (by decide) U6).mono ?_;rintro e w7 ⟨vs,hvk,hvv,rfl,b7⟩;have s6:=B6.size;have HV7:Hid (EOk vs∧ev vs=sqN (ev xs^(2^(n/2+n/2)-1)%fp) 1):=⟨hvk,by rw[hvv,HU.out.2]⟩
    have HR7:=HR6.below b7 HR6.lt;have HRV7:=hdI <| hr6'.below b7 hr6'.lt
    have B7:=B6.trans (b7.mono s6);have X7:=X6.below b7;have HUL:=hdI <| HU.out.1.1
    clear hvk hvv b7 U6 HR6 hr6' B6 X6;go_wp2_with (first
     |(refine wpList_storeE rfl (.tmp 6) (.tmp 23) rfl V vs us rfl rfl HV7.out.1.1 HUL.out HRV7.out ?_)
     |fail)
    intro w8 hr8 hw8;have HR8:=hw8.rowW HR7 (by omega);have B8:=B7.trans (hw8.below (by omega));have X8:=X7.wr hw8 (by omega);have V8:=EAt.of_row hr8 HV7.out.1;clear HR7 B7 X7 hw8 HRV7;go_wp2_with fail;refine(times_any V 0 g o vs xs _ V8 X8).mono ?_;rintro e wa ⟨ts,htk,htv,rfl,ba⟩;have s8:=B8.size;have HT:Hid (EOk ts∧ev ts=ev xs^(2^n-1)%fp):=⟨htk,by rw[htv,HV7.out.2,ones_odd _ _ hev.1 hev.2,HNE.out]⟩
    have HRa:=HR8.below ba HR8.lt;have HRVa:=hdI <| hr8.below ba hr8.lt
    have Ba:=B8.trans (ba.mono s8);have HVL8:=hdI <| HV7.out.1.1
    clear htk htv ba V8 X8 HR8 B8 hr8;go_wp2_with (first
     |(refine wpList_storeE rfl (.tmp 6) (.tmp 25) rfl V ts vs rfl rfl HT.out.1.1 HVL8.out HRVa.out ?_)
     |fail)
    intro wb hrb hwb;have HRb:=hwb.rowW HRa (by omega);have Bb:=Ba.trans (hwb.below (by omega));clear HRa Ba hwb HRVa;have HRES:=hdI <| HRb
    have HBE:=hdI <| Bb
    have HVL:=hdI <| EAt.of_row hrb HT.out.1
    clear hrb HRb Bb;go_wp2_with (first
     |(refine wpList_loadE rfl (.tmp 6) rfl V 0 ts rfl HVL.out ?_)
     |(refine wpList_storeE rfl (.tmp 4) (.tmp 26) rfl w.heap.size ts [0,0,0,0,0] rfl rfl HT.out.1.1 rfl HRES.out ?_)
     |fail)
    intro w9 hr9 hw9;have HB9:=hdI <| HBE.out.trans (hw9.below (Nat.le_refl _))
    have HR9:=hdI <| hr9
    clear hr9 hw9 HRES HBE HVL;go_wp2;exact bodyPost_ret (v:=.agg (ts.map (Value.int .u64)).toArray) (resE rfl _ _ w.heap.size ts HT.out.1.1 rfl HR9.out) rfl ⟨ts,HT.out.1,HT.out.2,rfl,HB9.out⟩
   ·have ho1:(n:Int)%2=0:=by omega
    have ho2:(n:Int).tmod 2=0:=by rw[Int.tmod_eq_emod_of_nonneg (by omega)];exact ho1
    have HT:Hid (EOk us∧ev us=ev xs^(2^n-1)%fp):=⟨HU.out.1,by rw[HU.out.2,show n/2+n/2=n by omega]⟩
    clear hmod hodd X6;have HRES:=hdI <| HR6
    have HBE:=hdI <| B6
    have HVL:=hdI <| EAt.of_row hr6' HT.out.1
    clear hr6' HR6 B6;go_wp2_with (first
     |(refine wpList_loadE rfl (.tmp 6) rfl V 0 us rfl HVL.out ?_)
     |(refine wpList_storeE rfl (.tmp 4) (.tmp 26) rfl w.heap.size us [0,0,0,0,0] rfl rfl HT.out.1.1 rfl HRES.out ?_)
     |fail)
    intro w9 hr9 hw9;have HB9:=hdI <| HBE.out.trans (hw9.below (Nat.le_refl _))
    have HR9:=hdI <| hr9
    clear hr9 hw9 HRES HBE HVL;go_wp2;exact bodyPost_ret (v:=.agg (us.map (Value.int .u64)).toArray) (resE rfl _ _ w.heap.size us HT.out.1.1 rfl HR9.out) rfl ⟨us,HT.out.1,HT.out.2,rfl,HB9.out⟩
structure Run (w wr:World) (R:List (Nat×List Int)) (E:List (Nat×Nat×List Int)):Prop where
 below:Below w.heap.size w wr
 rows:∀ r∈R,w.heap.size≤r.1∧RowW wr r.1 141 r.2∧EOk r.2
 order:R.Pairwise fun a b=>b.1<a.1
 els:∀ e∈E,e.1<w.heap.size∧EAt wr e.1 e.2.1 e.2.2
theorem Run.start (w:World) (E:List (Nat×Nat×List Int)) (h:∀ e∈E,EAt w e.1 e.2.1 e.2.2):Run w w [] E:=
 ⟨Below.refl _ _,by simp,List.Pairwise.nil,fun e he=>⟨(h e he).1,h e he⟩⟩
theorem Run.call {w wr w':World} {R:List (Nat×List Int)} {E:List (Nat×Nat×List Int)} (h:Run w wr R E) (b:Below wr.heap.size wr w'):Run w w' R E:=
 ⟨h.below.trans (b.mono h.below.size),fun r hr=>⟨(h.rows r hr).1,(h.rows r hr).2.1.below b (h.rows r hr).2.1.lt,(h.rows r hr).2.2⟩,h.order,fun e he=>⟨(h.els e he).1,(h.els e he).2.below b⟩⟩
theorem Run.push {w wr w':World} {R:List (Nat×List Int)} {E:List (Nat×Nat×List Int)} (h:Run w wr R E) (b:Below wr.heap.size wr w') {es:List Int} (hr:RowW w' wr.heap.size 141 es) (hk:EOk es) :
  Run w w' ((wr.heap.size,es)::R) E:=by
 have c:=h.call b;refine⟨c.below,?_,?_,c.els⟩
 ·intro r hm;rcases List.mem_cons.1 hm with rfl|hm
  ·exact⟨h.below.size,hr,hk⟩
  ·exact c.rows r hm
 ·exact List.Pairwise.cons (fun r hm=>(h.rows r hm).2.1.lt) h.order
theorem zero_ok:EOk [0,0,0,0,0]:=⟨rfl,fun i=>by rcases i with _|_|_|_|_|i<;>simp,fun i _=>by rcases i with _|_|_|_|_|i<;>simp,by decide⟩
theorem Run.room {w wr:World} {R:List (Nat×List Int)} {E:List (Nat×Nat×List Int)} (h:Run w wr R E) :
  Run w (wr.alloc (.cells #[.int .u64 0,.int .u64 0,.int .u64 0,.int .u64 0,.int .u64 0] 141)) ((wr.heap.size,[0,0,0,0,0])::R) E:=
 h.push (below_new2 _ _) (row0 wr) zero_ok
theorem Run.el {w wr:World} {R:List (Nat×List Int)} {E:List (Nat×Nat×List Int)} (h:Run w wr R E) (i:Nat) (g o:Nat) (es:List Int) (hi:E[i]?=some (g,o,es)):EAt wr g o es:=
 (h.els _ (List.mem_of_getElem? hi)).2
theorem Run.row {w wr:World} {R:List (Nat×List Int)} {E:List (Nat×Nat×List Int)} (h:Run w wr R E) (i:Nat) (g:Nat) (es:List Int) (hi:R[i]?=some (g,es)):RowW wr g 141 es:=
 (h.rows _ (List.mem_of_getElem? hi)).2.1
theorem Run.ok {w wr:World} {R:List (Nat×List Int)} {E:List (Nat×Nat×List Int)} (h:Run w wr R E) (i:Nat) (g:Nat) (es:List Int) (hi:R[i]?=some (g,es)):EOk es:=
 (h.rows _ (List.mem_of_getElem? hi)).2.2
theorem Run.re {w wr:World} {R:List (Nat×List Int)} {E:List (Nat×Nat×List Int)} (h:Run w wr R E) (i:Nat) (g:Nat) (es:List Int) (hi:R[i]?=some (g,es)):EAt wr g 0 es:=
 EAt.of_row (h.row i g es hi) (h.ok i g es hi)
theorem Run.put {w wr w':World} {R:List (Nat×List Int)} {E:List (Nat×Nat×List Int)} (h:Run w wr R E) (i:Nat) (g:Nat) (zs es:List Int) (hi:R[i]?=some (g,zs)) (hw:Wr g wr w') (hr:RowW w' g 141 es) (hk:EOk es) :
  Run w w' (R.set i (g,es)) E:=by
 have hg:=(h.rows _ (List.mem_of_getElem? hi)).1;have hil:=(List.getElem?_eq_some_iff.1 hi).1;have hie:=(List.getElem?_eq_some_iff.1 hi).2;have ho:=List.pairwise_iff_getElem.1 h.order;refine⟨h.below.trans (hw.below hg),?_,?_,fun e he=>⟨(h.els e he).1,(h.els e he).2.wr hw (by have:=(h.els e he).1;omega)⟩⟩
 ·intro r hm;obtain⟨j,hj,rfl⟩:=List.getElem_of_mem hm;rw[List.length_set] at hj;rw[List.getElem_set];split
  ·exact⟨hg,hr,hk⟩
  ·rename_i hne
   have q:=h.rows _ (List.getElem_mem hj);refine⟨q.1,hw.rowW q.2.1 ?_,q.2.2⟩;rcases Nat.lt_or_gt_of_ne hne with hlt|hgt
   ·have:=ho i j hil hj hlt;rw[hie] at this;simp only at this;omega
   ·have:=ho j i hj hil hgt;rw[hie] at this;simp only at this;omega
 ·rw[List.pairwise_iff_getElem];intro a b ha hb hab;rw[List.length_set] at ha hb;have:=ho a b ha hb hab;rw[List.getElem_set,List.getElem_set];split<;>split<;>simp_all
theorem wpList_storeN {w wr:World} {R:List (Nat×List Int)} {E:List (Nat×Nat×List Int)} (S:Run w wr R E)
  {ops:Array Oper} {rest:List Oper} {o:Oper} {a:Act} {Q:Exit→Act→World→Prop} (hgd:o.guard=none) (x y:Operand) (ho:o.op=.store 141 x y)
  (es:List Int) (hx:a.eval x=.pointer (some ⟨wr.heap.size,0,none⟩)) (hy:a.eval y=.agg (es.map (Value.int .u64)).toArray) (hk:EOk es)
  {wa:World} (hwa:wa=wr.alloc (.cells #[.int .u64 0,.int .u64 0,.int .u64 0,.int .u64 0,.int .u64 0] 141))
  (hK:∀ w',Run w w' ((wr.heap.size,es)::R) E→wpList Tryz.prog ops Q rest (a.put o.dst undef) w') :
  wpList Tryz.prog ops Q (o::rest) a wa:=by
 subst hwa;exact wpList_storeE hgd x y ho wr.heap.size es [0,0,0,0,0] hx hy hk.1 rfl (row0 wr) fun w' hr hw=>hK w' (S.push ((below_new2 _ _).trans (hw.below (Nat.le_refl _))) hr hk)
theorem wpList_storeR {w wr:World} {R:List (Nat×List Int)} {E:List (Nat×Nat×List Int)} (S:Run w wr R E)
  {ops:Array Oper} {rest:List Oper} {o:Oper} {a:Act} {Q:Exit→Act→World→Prop} (hgd:o.guard=none) (x y:Operand) (ho:o.op=.store 141 x y)
  (i g:Nat) (zs es:List Int) (hi:R[i]?=some (g,zs)) (hx:a.eval x=.pointer (some ⟨g,0,none⟩)) (hy:a.eval y=.agg (es.map (Value.int .u64)).toArray) (hk:EOk es)
  {wa:World} (hwa:wa=wr)
  (hK:∀ w',Run w w' (R.set i (g,es)) E→wpList Tryz.prog ops Q rest (a.put o.dst undef) w') :
  wpList Tryz.prog ops Q (o::rest) a wa:=by
 subst hwa;exact wpList_storeE hgd x y ho g es zs hx hy hk.1 (S.ok i g zs hi).1 (S.row i g zs hi) fun w' hr hw=>hK w' (S.put i g zs es hi hw hr hk)
theorem Run.ret {w wr:World} {R:List (Nat×List Int)} {E:List (Nat×Nat×List Int)} (S:Run w wr R E) {fn:Func} {p:Tmp} (h:fn.results=#[.cell p 141]) (tmps:Array Value)
  (i g:Nat) (es:List Int) (hi:R[i]?=some (g,es)) (hp:tmps.getD p undef=.pointer (some ⟨g,0,none⟩)) :
  (results fn tmps).run Tryz.prog wr=.ok (.agg (es.map (Value.int .u64)).toArray) wr:=
 resE h tmps wr g es (S.ok i g es hi).1 hp (S.row i g es hi)
def m250 (n:Nat):Nat:=2^n-1
def M250:Nat:=m250 250
theorem ones250_any (g o:Nat) (xs:List Int) (w:World) (h:EAt w g o xs) :
  Calls Tryz.prog 159 #[.pointer (some ⟨g,o,none⟩),.int .i64 250] w (EP w (ev xs^M250%fp)):=ones_any 250 g o xs w (by decide) (by decide) h
attribute [irreducible] M250
theorem e250 (x:Int) (m k r:Nat):sqN (x^m%fp) k*(x^r%fp)%fp=x^(m*2^k+r)%fp:=by
 have b:0≤x^m%fp∧x^m%fp<fp:=by unfold fp;omega
 rw[sqN_eq _ b.1 b.2,pow_mod_pow,mod_mul_mod,←Int.pow_add]
theorem pow1_mod (x:Int) (h0:0≤x) (h1:x<fp):x^1%fp=x:=by
 rw[Int.pow_succ,Int.pow_zero,Int.one_mul];exact Int.emod_eq_of_lt h0 h1
set_option maxHeartbeats 2000000 in
theorem rootPower_of (g o:Nat) (xs:List Int) (w:World) (h:EAt w g o xs) (v1 goalv:Int) (hv1:ev xs^M250%fp=v1) (hgoal:sqN v1 2*ev xs%fp=goalv) :
  Calls Tryz.prog 161 #[.pointer (some ⟨g,o,none⟩)] w (EP w goalv):=by
 have hev:=ev_bd xs;have HE:=hdI <| hgoal
 have HV1:=hdI <| hv1
 have S0:=(Run.start w [(g,o,xs)] (fun e he=>by rcases List.mem_singleton.1 he with rfl;exact h)).room;have HO:=hdI <| S0
 clear S0 h hv1 hev hgoal;go_enter Tryz.func161,Tryz.ntmps161;go_wp2_with fail;refine(ones250_any g o xs _ (HO.out.el 0 _ _ _ rfl)).mono ?_;rintro e w1 ⟨es,hk,hv,rfl,b⟩;have HK1:Hid (EOk es∧ev es=v1):=⟨hk,hv.trans HV1.out⟩
 have S1:=HO.out.call b;have H1:=hdI <| S1
 clear S1 hk hv b HV1;go_wp2_with (first
  |(refine wpList_storeN H1.out rfl (.tmp 3) (.tmp 6) rfl es rfl rfl HK1.out.1 rfl ?_)
  |fail)
 intro w2 S2;have H2:=hdI <| S2
 clear S2 H1 HO;generalize w1.heap.size=G1 at *;go_wp2_with fail;refine(squared_any G1 0 es 2 _ (by decide) (H2.out.re 0 _ _ rfl)).mono ?_;rintro e w3 ⟨fs,hk,hv,rfl,b⟩;have HK2:Hid (EOk fs∧ev fs=sqN v1 2):=⟨hk,by rw[hv,HK1.out.2]⟩
 have H3:=hdI <| H2.out.call b
 clear H2 hk hv b;go_wp2_with (first
  |(refine wpList_storeN H3.out rfl (.tmp 4) (.tmp 7) rfl fs rfl rfl HK2.out.1 rfl ?_)
  |fail)
 intro w4 S4;have H4:=hdI <| S4
 clear S4 H3;generalize w3.heap.size=G2 at *;go_wp2_with fail;refine(times_any G2 0 g o fs xs _ (H4.out.re 0 _ _ rfl) (H4.out.el 0 _ _ _ rfl)).mono ?_;rintro e w5 ⟨us,hk,hv,rfl,b⟩;have HK3:Hid (EOk us∧ev us=goalv):=⟨hk,by rw[hv,HK2.out.2];exact HE.out⟩
 have H5:=hdI <| H4.out.call b
 clear H4 hk hv b;go_wp2_with (first
  |(refine wpList_storeR H5.out rfl (.tmp 2) (.tmp 9) rfl 2 w.heap.size [0,0,0,0,0] us rfl rfl rfl HK3.out.1 rfl ?_)
  |fail)
 intro w6 S6;have H6:=hdI <| S6
 clear S6 H5;go_wp2;exact bodyPost_ret (v:=.agg (us.map (Value.int .u64)).toArray) (H6.out.ret rfl _ 2 w.heap.size us rfl rfl) rfl ⟨us,HK3.out.1,HK3.out.2,rfl,H6.out.below⟩
theorem rootPower_any (g o:Nat) (xs:List Int) (w:World) (h:EAt w g o xs) :
  Calls Tryz.prog 161 #[.pointer (some ⟨g,o,none⟩)] w (EP w (ev xs^(M250*4+1)%fp)):=by
 have hev:=ev_bd xs;have e:=e250 (ev xs) M250 2 1;rw[pow1_mod _ hev.1 hev.2] at e;exact rootPower_of g o xs w h _ _ rfl e
def lsT (xs:List Int):Int:=gcy B51 (xs.set 0 (xs.getD 0 0+19)) 5
def lsE (xs:List Int):List Int:=sst (xs.set 0 (xs.getD 0 0+19*lsT xs)) 5
theorem sst_dig (xs:List Int):Dig B51 (sst xs 5):=by
 intro z hz;obtain⟨i,hi,rfl⟩:=List.getElem_of_mem hz;have:=sst_bd xs i;have e:(sst xs 5).getD i 0=(sst xs 5)[i]:=by simp[hi]
 rw[e] at this;unfold B51;exact this
theorem fp_lit:fp=57896044618658097711785492504343953926634992332820282019728792003956564819949:=by decide
theorem sst_lt (xs:List Int):0≤val B51 (sst xs 5)∧val B51 (sst xs 5)<fp+19:=by
 have d:=sst_dig xs;have a:=val_nonneg (B:=B51) (by decide) d;have b:=val_lt (B:=B51) (by decide) d;rw[sst_len] at b;have e2:(B51:Int)^5=fp+19:=by decide
 rw[e2] at b;exact⟨a,b⟩
theorem EOk.val {xs:List Int} (h:EOk xs):0≤val B51 xs∧val B51 xs<fp+19+256:=by
 obtain⟨hl,h0,h1,h2⟩:=h
 match xs,hl with
 |[a,b,c,d,e],_=>
  have a0:=h0 0;have b0:=h0 1;have c0:=h0 2;have d0:=h0 3;have e0:=h0 4;have b1:=h1 1 (by decide);have c1:=h1 2 (by decide);have d1:=h1 3 (by decide);have e1:=h1 4 (by decide);simp only[List.getD_cons_zero,List.getD_cons_succ] at a0 b0 c0 d0 e0 b1 c1 d1 e1 h2;simp only[Go.Proofs.YtncomnkdlpoelaaGreatDoor.val,B51,fp_lit];omega
theorem ls_case (V t r L c:Int) (h1:r+t*(fp+19)=V+19) (h2:L+c*(fp+19)=V+19*t) (hr:0≤r∧r<fp+19) (hL:0≤L∧L<fp+19) (hV:0≤V∧V<fp+19+256) :
  0≤t∧t≤1∧L=V%fp:=by
 rw[fp_lit] at *;have ht:t=0∨t=1:=by omega
 rcases ht with rfl|rfl
 ·have hc:c=0:=by omega
  subst hc;omega
 ·have hc:c=1:=by omega
  subst hc;omega
theorem lsE_all {xs:List Int} (h:EOk xs):0≤lsT xs∧lsT xs≤1∧val B51 (lsE xs)=ev xs:=by
 have hl:=h.1;have s1:=sst_val (xs.set 0 (xs.getD 0 0+19)) (by simp[hl]);have s2:=sst_val (xs.set 0 (xs.getD 0 0+19*lsT xs)) (by simp[hl]);rw[val_set _ _ _ _ (by omega)] at s1 s2;simp only[Int.pow_zero,Int.mul_one] at s1 s2;have hV:=h.val;have hr:=sst_lt (xs.set 0 (xs.getD 0 0+19));have hL:=sst_lt (xs.set 0 (xs.getD 0 0+19*lsT xs));have e1:gcy B51 (xs.set 0 (xs.getD 0 0+19)) 5=lsT xs:=rfl;rw[e1] at s1;unfold ev lsE;generalize gcy B51 (xs.set 0 (xs.getD 0 0+19*lsT xs)) 5=c at *;generalize val B51 (sst (xs.set 0 (xs.getD 0 0+19*lsT xs)) 5)=L at *;generalize val B51 (sst (xs.set 0 (xs.getD 0 0+19)) 5)=r at *;generalize xs.getD 0 0=x0 at *;generalize lsT xs=t at *;generalize val B51 xs=V at *;exact ls_case V t r L c (by omega) (by omega) hr hL hV
theorem lsE_len (xs:List Int):(lsE xs).length=5:=sst_len _ _
theorem lsE_ok (xs:List Int):EOk (lsE xs):=⟨lsE_len xs,fun i=>(sst_bd _ i).1,fun i _=>(sst_bd _ i).2,by have:=(sst_bd (xs.set 0 (xs.getD 0 0+19*lsT xs)) 0).2;unfold lsE;omega⟩
theorem lsE_eq {xs ys:List Int} (hx:EOk xs) (hy:EOk ys):lsE xs=lsE ys↔ev xs=ev ys:=by
 constructor
 ·intro h;rw[←(lsE_all hx).2.2,←(lsE_all hy).2.2,h]
 ·intro h;exact val_inj (B:=B51) (by decide) (sst_dig _) (sst_dig _) (by rw[lsE_len,lsE_len]) (by rw[(lsE_all hx).2.2,(lsE_all hy).2.2,h])
theorem lsE_u62 {xs:List Int} (h:EOk xs) (k:Int) (h0:0≤k) (h1:k≤19):U62 (xs.set 0 (xs.getD 0 0+k)):=by
 intro i;have hl:=h.1;rw[getD_set_eq _ _ _ _ (by omega)];have a:=h.2.1 i;have a0:=h.2.1 0;have b0:=h.2.2.2;split
 ·omega
 ·have b:=h.2.2.1 i (by omega);omega
theorem val_odd (es:List Int) (h:es.length=5):val B51 es%2=es.getD 0 0%2:=by
 match es,h with
 |[a,b,c,d,e],_=>
  simp only[Go.Proofs.YtncomnkdlpoelaaGreatDoor.val,B51,List.getD_cons_zero];omega
set_option maxHeartbeats 2000000 in
theorem leastE_any (g o:Nat) (xs:List Int) (w:World) (h:EAt w g o xs) :
  Calls Tryz.prog 123 #[.pointer (some ⟨g,o,none⟩)] w fun e w'=>e=.returned (.agg ((lsE xs).map (Value.int .u64)).toArray)∧Below w.heap.size w w':=by
 have hk:=h.2.1;obtain⟨ht0,ht1,_⟩:=lsE_all hk;have HX:=hdI <| hk
 have HO:Hid (Run w (w.alloc (.cells #[.int .u64 0,.int .u64 0,.int .u64 0,.int .u64 0,.int .u64 0] 141)) [(w.heap.size,[0,0,0,0,0])] [(g,o,xs)]):=
  (Run.start w [(g,o,xs)] (fun e he=>by rcases List.mem_singleton.1 he with rfl;exact h)).room
 have HN:Hid (Run w ((w.alloc (.cells #[.int .u64 0,.int .u64 0,.int .u64 0,.int .u64 0,.int .u64 0] 141)).alloc (.cells #[.int .u64 0,.int .u64 0,.int .u64 0,.int .u64 0,.int .u64 0] 141)) [(w.heap.size+1,[0,0,0,0,0]),(w.heap.size,[0,0,0,0,0])] [(g,o,xs)]):=by
  have:=HO.out.room;rw[show(w.alloc (.cells #[.int .u64 0,.int .u64 0,.int .u64 0,.int .u64 0,.int .u64 0] 141)).heap.size=w.heap.size+1 from by simp] at this;exact this
 clear h hk;go_enter Tryz.func123,Tryz.ntmps123;go_wp2_with (first
  |(refine wpList_loadE rfl (.tmp 7) rfl g o xs rfl (HO.out.el 0 _ _ _ rfl) ?_)
  |(refine wpList_storeR HN.out rfl (.tmp 3) (.tmp 8) rfl 0 (w.heap.size+1) [0,0,0,0,0] xs rfl rfl rfl HX.out rfl ?_)
  |fail)
 intro w1 S1;clear HO HN;have hl:=HX.out.1;have hx0:=HX.out.2.1 0;have hx1:=HX.out.2.2.2;have r1:=S1.row 0 (w.heap.size+1) xs rfl;have z1:=S1.row 1 w.heap.size [0,0,0,0,0] rfl;have e1:=S1.el 0 g o xs rfl;have b1:=S1.below;have hgw:=(S1.els (g,o,xs) (by simp)).1;have c0:=r1.cell 0 (by omega);have f0:=r1.frozen 0;have s1:StS w1 (w.heap.size+1) (xs.set 0 (xs.getD 0 0+19)) (w1.setCell ⟨w.heap.size+1,0,none⟩ (.int .u64 (xs.getD 0 0+19))):=⟨r1.set 0 _,(Wr.refl _ _).setCell 0 _⟩
 have HU1:=hdI <| lsE_u62 HX.out 19 (by decide) (by decide)
 have HU2:=hdI <| lsE_u62 HX.out (19*lsT xs) (by omega) (by omega)
 have HT:Hid (gcy B51 (xs.set 0 (xs.getD 0 0+19)) 5=lsT xs):=rfl;have HL5:=hdI <| hl
 have HS1:=hdI <| s1
 have HLS:Hid (sst (xs.set 0 (xs.getD 0 0+19*lsT xs)) 5=lsE xs):=rfl;have HZ1:=hdI <| z1
 have HE1:=hdI <| e1
 have HB1:=hdI <| b1
 have HXX:Hid (xs.getD 0 0=xs.getD 0 0):=rfl;clear S1 r1 z1 e1 b1 s1 hl;have hxx:∃ x0,x0=xs.getD 0 0:=⟨_,rfl⟩
 obtain⟨x0,hx0e⟩:=hxx;rw[←hx0e] at c0 hx0 hx1 HU1 HU2 HT HS1 HLS;have HX0:=hdI <| hx0e
 clear hx0e;go_wp2_with fail;generalize w1.setCell ⟨w.heap.size+1,0,none⟩ (.int .u64 (x0+19))=w2 at *;refine(settle_any (w.heap.size+1) (xs.set 0 (x0+19)) _ (by rw[List.length_set];exact HL5.out) HS1.out.row HU1.out).mono ?_;rintro e w3 ⟨rfl,st⟩;rw[HT.out];have W3:=HS1.out.wr.trans st.wr;have HZ3:=hdI <| W3.rowW HZ1.out (by omega)
 have HE3:=hdI <| HE1.out.wr W3 (by omega)
 have HB3:=hdI <| HB1.out.trans (W3.below (by omega))
 clear st W3 HS1 HZ1 HE1 HB1 HU1 HT c0 f0;have s3:=HB3.out.size;have HZN:=hdI <| row0 w3
 go_wp2_with (first
  |(refine wpList_loadE rfl (.tmp 15) rfl g o xs rfl HE3.out ?_)
  |(refine wpList_storeE rfl (.tmp 5) (.tmp 16) rfl w3.heap.size xs [0,0,0,0,0] rfl rfl HL5.out rfl HZN.out ?_)
  |fail)
 intro w4 r4 W4;have b4:=(below_new2 _ _).trans (W4.below (Nat.le_refl _));have hz3:=HZ3.out.lt;have HZ4:=hdI <| HZ3.out.below b4 hz3
 have HB4:=hdI <| HB3.out.trans (b4.mono s3)
 clear b4 W4 HZ3 HB3 HE3 HZN;generalize w3.heap.size=V at *;have c4:=r4.cell 0 (by rw[HL5.out];decide);have f4:=r4.frozen 0;rw[←HX0.out] at c4;have HS4:Hid (StS w4 V (xs.set 0 (x0+19*lsT xs)) (w4.setCell ⟨V,0,none⟩ (.int .u64 (x0+19*lsT xs)))):=⟨r4.set 0 _,(Wr.refl _ _).setCell 0 _⟩
 clear r4;generalize lsT xs=t at *;go_wp2_with fail;generalize w4.setCell ⟨V,0,none⟩ (.int .u64 (x0+19*t))=w5 at *;refine(settle_any V (xs.set 0 (x0+19*t)) _ (by rw[List.length_set];exact HL5.out) HS4.out.row HU2.out).mono ?_;rintro e w6 ⟨rfl,st⟩;have W6:=HS4.out.wr.trans st.wr;have HZ6:=hdI <| W6.rowW HZ4.out (by omega)
 have HB6:=hdI <| HB4.out.trans (W6.below (by omega))
 have r6:=st.row;rw[HLS.out] at r6;have HE6:=hdI <| EAt.of_row r6 (lsE_ok xs)
 have HLL:=hdI <| lsE_len xs
 clear st W6 HS4 HZ4 HB4 c4 f4 r6 HLS HU2;go_wp2_with (first
  |(refine wpList_loadE rfl (.tmp 5) rfl V 0 (lsE xs) rfl HE6.out ?_)
  |(refine wpList_storeE rfl (.tmp 2) (.tmp 24) rfl w.heap.size (lsE xs) [0,0,0,0,0] rfl rfl HLL.out rfl HZ6.out ?_)
  |fail)
 intro w7 r7 W7;have HR7:=hdI <| r7
 have HB7:=hdI <| HB6.out.trans (W7.below (Nat.le_refl _))
 clear r7 W7 HZ6 HE6 HB6;go_wp2;exact bodyPost_ret (v:=.agg ((lsE xs).map (Value.int .u64)).toArray) (resE rfl _ _ w.heap.size (lsE xs) HLL.out rfl HR7.out) rfl ⟨rfl,HB7.out⟩
theorem decide_lsE {xs ys:List Int} (hx:EOk xs) (hy:EOk ys):decide (lsE xs=lsE ys)=decide (ev xs=ev ys):=by
 rw[decide_eq_decide];exact lsE_eq hx hy
set_option maxHeartbeats 1000000 in
theorem equalsE_any (g1 o1 g2 o2:Nat) (xs ys:List Int) (w:World) (h1:EAt w g1 o1 xs) (h2:EAt w g2 o2 ys) :
  Calls Tryz.prog 162 #[.pointer (some ⟨g1,o1,none⟩),.pointer (some ⟨g2,o2,none⟩)] w fun e w'=>e=.returned (.bool (decide (ev xs=ev ys)))∧Below w.heap.size w w':=by
 have HD:=hdI <| decide_lsE h1.2.1 h2.2.1
 have H2:=hdI <| h2
 have hml:=lsE_len xs;have hnl:=lsE_len ys;go_enter Tryz.func162,Tryz.ntmps162;go_wp2_with fail;refine(leastE_any g1 o1 xs _ h1).mono ?_;rintro e w1 ⟨rfl,b1⟩;have h2':=H2.out.below b1;have HB1:=hdI <| b1
 clear h1 h2 b1 H2;go_wp2_with fail;refine(leastE_any g2 o2 ys _ h2').mono ?_;rintro e w2 ⟨rfl,b2⟩;have HB2:=hdI <| HB1.out.trans (b2.mono HB1.out.size)
 clear h2' b2 HB1;go_wp2_with (simp only[run_eqW _ 9998 5 141 Tryz.underlying141 (lsE xs) (lsE ys) hml hnl]);rw[HD.out];obtain⟨q,hq⟩:∃ q,q=decide (ev xs=ev ys):=⟨_,rfl⟩
 rw[←hq];have HQQ:=hdI <| hq
 clear hq HD;simp only[Result.andThen_ok];go_simp;go_wp2
 go_ret
 exact⟨by rw[HQQ.out];rfl,HB2.out⟩
set_option maxHeartbeats 1000000 in
theorem isOdd_any (g o:Nat) (xs:List Int) (w:World) (h:EAt w g o xs) :
  Calls Tryz.prog 125 #[.pointer (some ⟨g,o,none⟩)] w fun e w'=>e=.returned (.bool (ev xs%2 == 1))∧Below w.heap.size w w':=by
 have HV:Hid ((lsE xs).getD 0 0%2=ev xs%2):=by
  show _=_
  rw[←val_odd _ (lsE_len xs),(lsE_all h.2.1).2.2]
 have HA:Hid (bits .and .u64 ((lsE xs).getD 0 0) 1=(lsE xs).getD 0 0%2):=u64_and_mask _ 1 ((lsE_ok xs).2.1 0) (by have:=(lsE_ok xs).2.2.2;omega) 1 (by decide) (by decide);go_enter Tryz.func125,Tryz.ntmps125;go_wp2_with fail;refine(leastE_any g o xs _ h).mono ?_;rintro e w1 ⟨rfl,b1⟩;have HB1:Hid (Below w.heap.size w w1):=b1;have HLL:Hid ((lsE xs).length=5):=lsE_len xs;have HZN:Hid (RowW (w1.alloc (.cells #[.int .u64 0,.int .u64 0,.int .u64 0,.int .u64 0,.int .u64 0] 141)) w1.heap.size 141 [0,0,0,0,0]):=row0 w1;clear h b1;go_wp2_with (first
  |(refine wpList_storeE rfl (.tmp 3) (.tmp 5) rfl w1.heap.size (lsE xs) [0,0,0,0,0] rfl rfl HLL.out rfl HZN.out ?_)
  |fail)
 intro w2 r2 W2;have HB2:Hid (Below w.heap.size w w2):=HB1.out.trans (((below_new2 _ _).trans (W2.below (Nat.le_refl _))).mono HB1.out.size);have c2:=r2.cell 0 (by rw[HLL.out];decide);clear W2 HZN r2 HB1;generalize w1.heap.size=V at *;generalize (lsE xs).getD 0 0=x at *;go_wp2;rw[HA.out,HV.out]
 go_ret
 exact⟨rfl,HB2.out⟩
set_option maxHeartbeats 1000000 in
theorem negated_any (g o:Nat) (xs:List Int) (w:World) (h:EAt w g o xs) :
  Calls Tryz.prog 126 #[.pointer (some ⟨g,o,none⟩)] w (EP w ((0-ev xs)%fp)):=by
 have HO:Hid (Run w (w.alloc (.cells #[.int .u64 0,.int .u64 0,.int .u64 0,.int .u64 0,.int .u64 0] 141)) [(w.heap.size,[0,0,0,0,0])] [(g,o,xs)]):=
  (Run.start w [(g,o,xs)] (fun e he=>by rcases List.mem_singleton.1 he with rfl;exact h)).room
 have HN:Hid (Run w ((w.alloc (.cells #[.int .u64 0,.int .u64 0,.int .u64 0,.int .u64 0,.int .u64 0] 141)).alloc (.cells #[.int .u64 0,.int .u64 0,.int .u64 0,.int .u64 0,.int .u64 0] 141)) [(w.heap.size+1,[0,0,0,0,0]),(w.heap.size,[0,0,0,0,0])] [(g,o,xs)]):=by
  have:=HO.out.room;rw[show(w.alloc (.cells #[.int .u64 0,.int .u64 0,.int .u64 0,.int .u64 0,.int .u64 0] 141)).heap.size=w.heap.size+1 from by simp] at this;exact this
 have HZ:Hid (ev [0,0,0,0,0]=0):=by show _=_;decide
 clear h HO;go_enter Tryz.func126,Tryz.ntmps126;go_wp2_with fail;refine(minus_any (w.heap.size+1) 0 g o [0,0,0,0,0] xs _ (HN.out.re 0 _ _ rfl) (HN.out.el 0 _ _ _ rfl)).mono ?_;rintro e w1 ⟨es,hk,hv,rfl,b⟩;rw[HZ.out] at hv;have HK:Hid (EOk es∧ev es=(0-ev xs)%fp):=⟨hk,hv⟩
 have H1:=hdI <| HN.out.call b
 clear hk hv b HN;go_wp2_with (first
  |(refine wpList_storeR H1.out rfl (.tmp 2) (.tmp 5) rfl 1 w.heap.size [0,0,0,0,0] es rfl rfl rfl HK.out.1 rfl ?_)
  |fail)
 intro w2 S2;have H2:=hdI <| S2
 clear S2 H1;go_wp2;exact bodyPost_ret (v:=.agg (es.map (Value.int .u64)).toArray) (H2.out.ret rfl _ 1 w.heap.size es rfl rfl) rfl ⟨es,HK.out.1,HK.out.2,rfl,H2.out.below⟩
def pl (x y z t:List Int):List Int:=x++(y++(z++t))
def over (zs:List Int):Nat→List Int→List Int
 |_,[]=>zs
 |o,a::r=>over (zs.set o a) (o+1) r
theorem RowW.setCells {g:Nat} {e:TypeId}:∀(es zs:List Int) (w:World) (o:Nat),RowW w g e zs→RowW (w.setCells g o (es.map (Value.int .u64))) g e (over zs o es)
 |[],_,_,_,h=>h
 |a::r,zs,w,o,h=>RowW.setCells r (zs.set o a) _ (o+1) (h.set o a)
theorem Wr.setCells {g:Nat} {v:World}:∀(es:List Value) (w:World) (o:Nat),Wr g v w→Wr g v (w.setCells g o es)
 |[],_,_,h=>h
 |a::r,w,o,h=>Wr.setCells r _ (o+1) (h.setCell o a)
theorem over_x {x y z t es:List Int} (hx:x.length=5) (he:es.length=5):over (pl x y z t) 0 es=pl es y z t:=by
 match x,hx,es,he with
 |[_,_,_,_,_],_,[_,_,_,_,_],_=>rfl
theorem over_y {x y z t es:List Int} (hx:x.length=5) (hy:y.length=5) (he:es.length=5):over (pl x y z t) 5 es=pl x es z t:=by
 match x,hx,y,hy,es,he with
 |[_,_,_,_,_],_,[_,_,_,_,_],_,[_,_,_,_,_],_=>rfl
theorem over_z {x y z t es:List Int} (hx:x.length=5) (hy:y.length=5) (hz:z.length=5) (he:es.length=5):over (pl x y z t) 10 es=pl x y es t:=by
 match x,hx,y,hy,z,hz,es,he with
 |[_,_,_,_,_],_,[_,_,_,_,_],_,[_,_,_,_,_],_,[_,_,_,_,_],_=>rfl
theorem over_t {x y z t es:List Int} (hx:x.length=5) (hy:y.length=5) (hz:z.length=5) (ht:t.length=5) (he:es.length=5):over (pl x y z t) 15 es=pl x y z es:=by
 match x,hx,y,hy,z,hz,t,ht,es,he with
 |[_,_,_,_,_],_,[_,_,_,_,_],_,[_,_,_,_,_],_,[_,_,_,_,_],_,[_,_,_,_,_],_=>rfl
structure Pt (w:World) (g:Nat) (x y z t:List Int):Prop where
 row:RowW w g 143 (pl x y z t)
 x:EOk x
 y:EOk y
 z:EOk z
 t:EOk t
theorem Pt.at {w:World} {g:Nat} {x y z t:List Int} (h:Pt w g x y z t) (o:Nat) (es:List Int) (hk:EOk es) (ho:o+5≤20) (he:∀ i,i<5→(pl x y z t).getD (o+i) 0=es.getD i 0):EAt w g o es:=
 ⟨h.row.lt,hk,fun i hi=>by
  have hl:(pl x y z t).length=20:=by unfold pl;simp[h.x.1,h.y.1,h.z.1,h.t.1]
  rw[h.row.cell (o+i) (by omega),he i hi]⟩
theorem Pt.ex {w:World} {g:Nat} {x y z t:List Int} (h:Pt w g x y z t):EAt w g 0 x:=h.at 0 x h.x (by omega) fun i hi=>by
 match x,h.x.1,i,hi with
 |[_,_,_,_,_],_,0,_=>rfl
 |[_,_,_,_,_],_,1,_=>rfl
 |[_,_,_,_,_],_,2,_=>rfl
 |[_,_,_,_,_],_,3,_=>rfl
 |[_,_,_,_,_],_,4,_=>rfl
theorem Pt.ey {w:World} {g:Nat} {x y z t:List Int} (h:Pt w g x y z t):EAt w g 5 y:=h.at 5 y h.y (by omega) fun i hi=>by
 match x,h.x.1,y,h.y.1,i,hi with
 |[_,_,_,_,_],_,[_,_,_,_,_],_,0,_=>rfl
 |[_,_,_,_,_],_,[_,_,_,_,_],_,1,_=>rfl
 |[_,_,_,_,_],_,[_,_,_,_,_],_,2,_=>rfl
 |[_,_,_,_,_],_,[_,_,_,_,_],_,3,_=>rfl
 |[_,_,_,_,_],_,[_,_,_,_,_],_,4,_=>rfl
theorem Pt.ez {w:World} {g:Nat} {x y z t:List Int} (h:Pt w g x y z t):EAt w g 10 z:=h.at 10 z h.z (by omega) fun i hi=>by
 match x,h.x.1,y,h.y.1,z,h.z.1,i,hi with
 |[_,_,_,_,_],_,[_,_,_,_,_],_,[_,_,_,_,_],_,0,_=>rfl
 |[_,_,_,_,_],_,[_,_,_,_,_],_,[_,_,_,_,_],_,1,_=>rfl
 |[_,_,_,_,_],_,[_,_,_,_,_],_,[_,_,_,_,_],_,2,_=>rfl
 |[_,_,_,_,_],_,[_,_,_,_,_],_,[_,_,_,_,_],_,3,_=>rfl
 |[_,_,_,_,_],_,[_,_,_,_,_],_,[_,_,_,_,_],_,4,_=>rfl
theorem Pt.et {w:World} {g:Nat} {x y z t:List Int} (h:Pt w g x y z t):EAt w g 15 t:=h.at 15 t h.t (by omega) fun i hi=>by
 match x,h.x.1,y,h.y.1,z,h.z.1,t,h.t.1,i,hi with
 |[_,_,_,_,_],_,[_,_,_,_,_],_,[_,_,_,_,_],_,[_,_,_,_,_],_,0,_=>rfl
 |[_,_,_,_,_],_,[_,_,_,_,_],_,[_,_,_,_,_],_,[_,_,_,_,_],_,1,_=>rfl
 |[_,_,_,_,_],_,[_,_,_,_,_],_,[_,_,_,_,_],_,[_,_,_,_,_],_,2,_=>rfl
 |[_,_,_,_,_],_,[_,_,_,_,_],_,[_,_,_,_,_],_,[_,_,_,_,_],_,3,_=>rfl
 |[_,_,_,_,_],_,[_,_,_,_,_],_,[_,_,_,_,_],_,[_,_,_,_,_],_,4,_=>rfl
structure RunP (w wr:World) (g:Nat) (x y z t:List Int) (R:List (Nat×List Int)) (E:List (Nat×Nat×List Int)):Prop where
 wrh:WrH g w wr
 lt:g<w.heap.size
 pt:Pt wr g x y z t
 rows:∀ r∈R,w.heap.size≤r.1∧RowW wr r.1 141 r.2∧EOk r.2
 order:R.Pairwise fun a b=>b.1<a.1
 els:∀ e∈E,e.1<w.heap.size∧e.1≠g∧EAt wr e.1 e.2.1 e.2.2
section
variable {w wr w':World} {g:Nat} {x y z t:List Int} {R:List (Nat×List Int)} {E:List (Nat×Nat×List Int)}
theorem RunP.start (h:Pt w g x y z t) (E:List (Nat×Nat×List Int)) (he:∀ e∈E,e.1≠g∧EAt w e.1 e.2.1 e.2.2):RunP w w g x y z t [] E:=
 ⟨WrH.refl _ _,h.row.lt,h,by simp,List.Pairwise.nil,fun e hm=>⟨(he e hm).2.1,(he e hm).1,(he e hm).2⟩⟩
theorem Pt.below (h:Pt w g x y z t) {B:Nat} (b:Below B w w') (hB:g<B):Pt w' g x y z t:=⟨h.row.below b hB,h.x,h.y,h.z,h.t⟩
theorem RunP.call (h:RunP w wr g x y z t R E) (b:Below wr.heap.size wr w'):RunP w w' g x y z t R E:=
 ⟨h.wrh.trans (WrH.of_below b),h.lt,h.pt.below b h.pt.row.lt,fun r hr=>⟨(h.rows r hr).1,(h.rows r hr).2.1.below b (h.rows r hr).2.1.lt,(h.rows r hr).2.2⟩,h.order,fun e he=>⟨(h.els e he).1,(h.els e he).2.1,(h.els e he).2.2.below b⟩⟩
theorem RunP.push (h:RunP w wr g x y z t R E) (b:Below wr.heap.size wr w') {es:List Int} (hr:RowW w' wr.heap.size 141 es) (hk:EOk es) :
  RunP w w' g x y z t ((wr.heap.size,es)::R) E:=by
 have c:=h.call b;refine⟨c.wrh,c.lt,c.pt,?_,?_,c.els⟩
 ·intro r hm;rcases List.mem_cons.1 hm with rfl|hm
  ·exact⟨h.wrh.size,hr,hk⟩
  ·exact c.rows r hm
 ·exact List.Pairwise.cons (fun r hm=>(h.rows r hm).2.1.lt) h.order
theorem RunP.el (h:RunP w wr g x y z t R E) (i:Nat) (G o:Nat) (es:List Int) (hi:E[i]?=some (G,o,es)):EAt wr G o es:=
 (h.els _ (List.mem_of_getElem? hi)).2.2
theorem RunP.row (h:RunP w wr g x y z t R E) (i:Nat) (G:Nat) (es:List Int) (hi:R[i]?=some (G,es)):RowW wr G 141 es:=
 (h.rows _ (List.mem_of_getElem? hi)).2.1
theorem RunP.ok (h:RunP w wr g x y z t R E) (i:Nat) (G:Nat) (es:List Int) (hi:R[i]?=some (G,es)):EOk es:=
 (h.rows _ (List.mem_of_getElem? hi)).2.2
theorem RunP.re (h:RunP w wr g x y z t R E) (i:Nat) (G:Nat) (es:List Int) (hi:R[i]?=some (G,es)):EAt wr G 0 es:=
 EAt.of_row (h.row i G es hi) (h.ok i G es hi)
theorem RunP.put (h:RunP w wr g x y z t R E) (i:Nat) (G:Nat) (zs es:List Int) (hi:R[i]?=some (G,zs)) (hw:Wr G wr w') (hr:RowW w' G 141 es) (hk:EOk es) :
  RunP w w' g x y z t (R.set i (G,es)) E:=by
 have hg:=(h.rows _ (List.mem_of_getElem? hi)).1;have hil:=(List.getElem?_eq_some_iff.1 hi).1;have hie:=(List.getElem?_eq_some_iff.1 hi).2;have ho:=List.pairwise_iff_getElem.1 h.order;have hgl:=h.lt;have b:=hw.below hg;refine⟨⟨hw.os.trans h.wrh.os,hw.tape.trans h.wrh.tape,hw.output.trans h.wrh.output,by rw[hw.size];exact h.wrh.size,fun k hk hg'=>(hw.block k (by omega)).trans (h.wrh.block k hk hg')⟩,h.lt,h.pt.below b h.lt,?_,?_,fun e he=>⟨(h.els e he).1,(h.els e he).2.1,(h.els e he).2.2.wr hw (by have:=(h.els e he).1;omega)⟩⟩
 ·intro r hm;obtain⟨j,hj,rfl⟩:=List.getElem_of_mem hm;rw[List.length_set] at hj;rw[List.getElem_set];split
  ·exact⟨hg,hr,hk⟩
  ·rename_i hne
   have q:=h.rows _ (List.getElem_mem hj);refine⟨q.1,hw.rowW q.2.1 ?_,q.2.2⟩;rcases Nat.lt_or_gt_of_ne hne with hlt|hgt
   ·have:=ho i j hil hj hlt;rw[hie] at this;simp only at this;omega
   ·have:=ho j i hj hil hgt;rw[hie] at this;simp only at this;omega
 ·rw[List.pairwise_iff_getElem];intro a b ha hb hab;rw[List.length_set] at ha hb;have:=ho a b ha hb hab;rw[List.getElem_set,List.getElem_set];split<;>split<;>simp_all
theorem RunP.point (h:RunP w wr g x y z t R E) {x' y' z' t':List Int} (hw:Wr g wr w') (hp:Pt w' g x' y' z' t'):RunP w w' g x' y' z' t' R E:=
 ⟨h.wrh.trans hw.wrH,h.lt,hp,fun r hr=>⟨(h.rows r hr).1,hw.rowW (h.rows r hr).2.1 (by have:=(h.rows r hr).1;have:=h.lt;omega),(h.rows r hr).2.2⟩,h.order,fun e he=>⟨(h.els e he).1,(h.els e he).2.1,(h.els e he).2.2.wr hw (h.els e he).2.1⟩⟩
variable {ops:Array Oper} {rest:List Oper} {o:Oper} {a:Act} {Q:Exit→Act→World→Prop}
theorem wpList_newP (S:RunP w wr g x y z t R E) (hgd:o.guard=none) (px py:Operand) (ho:o.op=.store 141 px py)
  (es:List Int) (hx:a.eval px=.pointer (some ⟨wr.heap.size,0,none⟩)) (hy:a.eval py=.agg (es.map (Value.int .u64)).toArray) (hk:EOk es)
  {wa:World} (hwa:wa=wr.alloc (.cells #[.int .u64 0,.int .u64 0,.int .u64 0,.int .u64 0,.int .u64 0] 141))
  (hK:∀ w',RunP w w' g x y z t ((wr.heap.size,es)::R) E→wpList Tryz.prog ops Q rest (a.put o.dst undef) w') :
  wpList Tryz.prog ops Q (o::rest) a wa:=by
 subst hwa;exact wpList_storeE hgd px py ho wr.heap.size es [0,0,0,0,0] hx hy hk.1 rfl (row0 wr) fun w' hr hw=>hK w' (S.push ((below_new2 _ _).trans (hw.below (Nat.le_refl _))) hr hk)
theorem wpList_rowP (S:RunP w wr g x y z t R E) (hgd:o.guard=none) (px py:Operand) (ho:o.op=.store 141 px py)
  (i G:Nat) (zs es:List Int) (hi:R[i]?=some (G,zs)) (hx:a.eval px=.pointer (some ⟨G,0,none⟩)) (hy:a.eval py=.agg (es.map (Value.int .u64)).toArray) (hk:EOk es)
  {wa:World} (hwa:wa=wr)
  (hK:∀ w',RunP w w' g x y z t (R.set i (G,es)) E→wpList Tryz.prog ops Q rest (a.put o.dst undef) w') :
  wpList Tryz.prog ops Q (o::rest) a wa:=by
 subst hwa;exact wpList_storeE hgd px py ho G es zs hx hy hk.1 (S.ok i G zs hi).1 (S.row i G zs hi) fun w' hr hw=>hK w' (S.put i G zs es hi hw hr hk)
theorem RunP.there (S:RunP w wr g x y z t R E) (p:Nat) (hp:p+5≤20):wr.there g p 5:=fun j hj=>by
 have hl:(pl x y z t).length=20:=by unfold pl;simp[S.pt.x.1,S.pt.y.1,S.pt.z.1,S.pt.t.1]
 exact⟨by rw[S.pt.row.cell (p+j) (by omega)];rfl,S.pt.row.frozen _⟩
theorem wpList_midP (S:RunP w wr g x y z t R E) (hgd:o.guard=none) (px py:Operand) (ho:o.op=.store 141 px py)
  (p:Nat) (hp:p+5≤20) (es x' y' z' t':List Int) (hov:over (pl x y z t) p es=pl x' y' z' t') (hk':EOk x'∧EOk y'∧EOk z'∧EOk t') (hx:a.eval px=.pointer (some ⟨g,p,none⟩)) (hy:a.eval py=.agg (es.map (Value.int .u64)).toArray) (hk:EOk es)
  {wa:World} (hwa:wa=wr)
  (hK:∀ w',RunP w w' g x' y' z' t' R E→wpList Tryz.prog ops Q rest (a.put o.dst undef) w') :
  wpList Tryz.prog ops Q (o::rest) a wa:=by
 subst hwa;have hsz:((es.map (Value.int .u64)).toArray).size=5:=by simp[hk.1]
 refine wpList_store_mid hgd 141 px py ho g p ((es.map (Value.int .u64)).toArray) hx hy (by rw[hsz];exact S.there p hp) (sizeEl hk.1) (all_oneCell_toArray (ints_oneCell _ _)) (hK _ ?_);have hr:=RowW.setCells es (pl x y z t) wa p S.pt.row;rw[hov] at hr;exact S.point (Wr.setCells _ _ p (Wr.refl _ _)) ⟨hr,hk'.1,hk'.2.1,hk'.2.2.1,hk'.2.2.2⟩
end
def PtW (w:World) (g:Nat) (cs:Array Value):Prop:=w.heap[g]?=some (.cells cs 79 (0,0))
theorem PtW.below {w w':World} {g B:Nat} {cs:Array Value} (h:PtW w g cs) (b:Below B w w') (hg:g<B):PtW w' g cs:=by unfold PtW;rw[b.block g hg];exact h
theorem PtW.lt {w:World} {g:Nat} {cs:Array Value} (h:PtW w g cs):g<w.heap.size:=(Array.getElem?_eq_some_iff.1 h).1
theorem PtW.new (w:World):PtW (w.alloc (.cells #[.slice none 0 0,.slice none 0 0,.slice none 0 0,.slice none 0 0] 79)) w.heap.size #[.slice none 0 0,.slice none 0 0,.slice none 0 0,.slice none 0 0]:=heap_alloc_new w _
theorem Tryz.sizePt:(Tryz.prog.info? 79).map (·.size)=some 4:=by kernel_rfl
theorem wpList_storePt {w:World} {ops:Array Oper} {rest:List Oper} {o:Oper} {a:Act} {Q:Exit→Act→World→Prop} (hgd:o.guard=none) (x y:Operand) (ho:o.op=.store 79 x y)
  (G:Nat) (s1 s2 s3 s4:Value) (old:Array Value) (h1:s1.oneCell'=true) (h2:s2.oneCell'=true) (h3:s3.oneCell'=true) (h4:s4.oneCell'=true) (hx:a.eval x=.pointer (some ⟨G,0,none⟩)) (hy:a.eval y=.agg #[s1,s2,s3,s4]) (hl:old.size=4) (hr:PtW w G old)
  (hK:∀ w',PtW w' G #[s1,s2,s3,s4]→Wr G w w'→wpList Tryz.prog ops Q rest (a.put o.dst undef) w') :
  wpList Tryz.prog ops Q (o::rest) a w:=
 wpList_store_row hgd 79 x y ho G #[s1,s2,s3,s4] hx hy 79 _ hr Tryz.sizePt (by simp[hl]) (by simp[h1,h2,h3,h4]) (hK _ (setRow_heap _ _ _ _ _ _ hr) (Wr.setRow _ _ _))
def AfP (w:World) (a a':Option Addr) (cap cap':Nat) (x y:Int) (e:Ending) (w':World):Prop:=
 ∃ gz cz gt ct,e=.returned (.agg #[.slice a 16 cap,.slice a' 16 cap',.slice (some ⟨gz,0,none⟩) 16 cz,.slice (some ⟨gt,0,none⟩) 16 ct])∧FeA w' (some ⟨gz,0,none⟩) (1%fp)∧FeA w' (some ⟨gt,0,none⟩) (x*y%fp)∧Below w.heap.size w w'∧w.heap.size≤gz∧w.heap.size≤gt
theorem FeA.wr {w w':World} {g V:Nat} {x:Int} (h:FeA w (some ⟨g,0,none⟩) x) (hw:Wr V w w') (hne:g≠V):FeA w' (some ⟨g,0,none⟩) x:=by
 obtain⟨zs,h1,h2,h3⟩:=h;refine⟨zs,?_,h2,h3⟩;obtain⟨b,o,e,hb,hc⟩:=h1.get (by have:=h2.1;omega);cases e;exact .inr ⟨g,0,rfl,by rw[hw.size];exact hb,fun i hi=>by rw[World.cell?_of_block (a:=⟨g,0+i,none⟩) (w:=w) (hw.block g hne)];exact hc i hi⟩
set_option maxHeartbeats 2000000 in
theorem affine_any (a a':Option Addr) (cap cap':Nat) (x y:Int) (w:World) (ha:FeA w a x) (ha':FeA w a' y) :
  Calls Tryz.prog 58 #[.slice a 16 cap,.slice a' 16 cap'] w (AfP w a a' cap cap' x y):=by
 have b0:Below w.heap.size w (w.alloc (.cells #[.slice none 0 0,.slice none 0 0,.slice none 0 0,.slice none 0 0] 79)):=below_new3 _ _;have HP0:=hdI <| PtW.new w
 have HS0:Hid (SR w (w.alloc (.cells #[.slice none 0 0,.slice none 0 0,.slice none 0 0,.slice none 0 0] 79)) [(a,x),(a',y)]):=⟨b0,fun e he=>by
  simp only[List.mem_cons,List.not_mem_nil,or_false] at he;rcases he with rfl|rfl
  ·exact ha.below b0
  ·exact ha'.below b0⟩
 clear ha ha' b0;go_enter Tryz.func58,Tryz.ntmps58;go_wp2_with fail;refine(small_any 1 _ (by decide) (by decide)).mono ?_;rintro e w1 ⟨g1,c1,rfl,k1,l1,hf,hb⟩;have HP1:=hdI <| HP0.out.below hb HP0.out.lt
 have HS1:=hdI <| HS0.out.add hf hb
 have hg1:w.heap.size<g1:=by have:=HP0.out.lt;omega
 clear hf hb HS0 HP0;go_wp2_with fail;refine(fmul_any _ _ cap cap' x y _ (HS1.out.at 1 _ _ rfl) (HS1.out.at 2 _ _ rfl)).mono ?_;rintro e w2 ⟨g2,c2,rfl,k2,l2,hf,hb⟩;have HP2:=hdI <| HP1.out.below hb HP1.out.lt
 have HS2:=hdI <| HS1.out.add hf hb
 have hg2:w.heap.size<g2:=by have:=HP1.out.lt;omega
 clear hf hb HS1 HP1;go_wp2_with (first
  |(refine wpList_storePt rfl (.tmp 4) (.tmp 11) rfl w.heap.size _ _ _ _ _ rfl rfl rfl rfl rfl rfl rfl HP2.out ?_)
  |fail)
 intro w3 hp3 hw3;have HP3:Hid (PtW w3 w.heap.size #[.slice a 16 cap,.slice a' 16 cap',.slice (some ⟨g1,0,none⟩) 16 c1,.slice (some ⟨g2,0,none⟩) 16 c2]):=hp3;have HF:Hid (FeA w3 (some ⟨g1,0,none⟩) (1%fp)∧FeA w3 (some ⟨g2,0,none⟩) (x*y%fp)∧Below w.heap.size w w3):=
  ⟨(HS2.out.at 1 _ _ rfl).wr hw3 (by omega),(HS2.out.at 0 _ _ rfl).wr hw3 (by omega),HS2.out.below.trans (hw3.below (Nat.le_refl _))⟩
 clear hp3 hw3 HS2 HP2;go_wp2;exact bodyPost_ret (v:=.agg #[.slice a 16 cap,.slice a' 16 cap',.slice (some ⟨g1,0,none⟩) 16 c1,.slice (some ⟨g2,0,none⟩) 16 c2]) (results_cell_row rfl _ _ w.heap.size 79 _ (0,0) _ rfl HP3.out Tryz.underlying79 rfl Tryz.sizePt) rfl ⟨g1,c1,g2,c2,rfl,HF.out.1,HF.out.2.1,HF.out.2.2,by omega,by omega⟩
end Go.Proofs.YtncomnkdlpoelaaGreatDoor
