import Derived.Test.YtncomnkdlpoelaaGreatDoorMReg
import Derived.Test.YtncomnkdlpoelaaGreatDoorMCatZ
namespace Go.Proofs.YtncomnkdlpoelaaGreatDoor
open Go.ChangeShapes Go.WideShapes Go.ChangeAt Go.RowKit
set_option linter.unusedVariables false
theorem wp_appI (w:World) {o:Oper} {a:Act} {K:Act→World→Prop} {Q:Exit→Act→World→Prop} {k:IntKind} {t s:TypeId} {by':Nat} (hk:KT k t s by')
  (sx x:Operand) (hop:o.op=Op.call { callee:=Callee.builtin Builtin.append,args:=#[sx,x],argTypes:=#[s,s] })
  (B:Nat) (v:Value) (xs:List Int) (hs:a.eval sx=v) (hown:OwnK k t w B v xs) (ad:Addr) (m c:Nat) (news:List Int) (hx:a.eval x=.slice (some ad) m c) (hl:news.length=m)
  (hnews:∀ j,j<m→w.cell? (ad.add j)=some (.int k (news.getD j 0))) (hb:xs.length+m≤1099511627776) (hB:B≤w.heap.size)
  (hK:∀ v' w',OwnK k t w' B v' (xs++news)→Below B w w'→K (a.put o.dst v') w') :
  o.wp Tryz.prog a w K Q:=by
 obtain⟨i0,hi,hz0,hz1,hz2⟩:=info_parts hk.info;have hbase:=hown.base;have hp:=hk.pos;have hle:=hk.le;refine wp_append_own w sx x s hop B t i0 (.int k 0) 1 by' hk.und hi hz0 hz1 hz2 rfl (by omega) v xs.length _ hs hown.1 ad m c (news.map (Value.int k)) hx (by simp[hl]) ?_ (ints_oneCell _ _) (by unfold maxLen;omega) ?_ hB ?_
 ·intro j u hu;have hj:j<news.length:=by have:=(List.getElem?_eq_some_iff.1 hu).1;simpa using this
  rw[hnews j (by omega)];simp[hj] at hu;simp[hj,hu]
 ·have:=Nat.mul_le_mul hb hle;omega
 ·intro v' w' h1 h2 h3;obtain⟨g,c0,hv,hBg,_,_⟩:=hbase;have hbel:=(Below.refl _ _).grown h2 hB (fun k hk=>by rw[hv] at hk;simp[Value.ownBlock] at hk;omega);refine hK v' w' ⟨?_,?_⟩ hbel
  ·rw[List.map_append,List.length_append,hl];exact h1
  ·rcases h1.2 with⟨h',_⟩|⟨g',c',cur,h',_⟩
   ·exact absurd (h3.1 h').1 (by rw[hv];simp)
   ·exact⟨g',c',by rw[h',List.length_append,hl]⟩
def GAd (B:Nat) (u va vb:Value) (pa pb:Addr) (k:Nat) (x y s:Int) (zs:List Int):Nat→(Nat→Bool)→World→Value→Prop
 |0,_,_,v=>v=u
 |1,_,_,v=>v=va
 |2,_,_,v=>v=.int .i64 k
 |3,_,_,v=>v=.pointer (some pa)
 |4,_,_,v=>v=.int .i64 x
 |5,_,_,v=>v=vb
 |6,_,_,v=>v=.int .i64 k
 |7,_,_,v=>v=.pointer (some pb)
 |8,_,_,v=>v=.int .i64 y
 |9,_,_,v=>v=.int .i64 s
 |10,L,w,v=>L 11=false→∃ g',v=.slice (some ⟨g',0,none⟩) 1 1∧g'<w.heap.size∧w.cell? ⟨g',0,none⟩=some (.int .i64 s)
 |11,_,w,v=>OwnI w B v (zs++[s])
 |_,_,_,_=>True
theorem GAd_stab (B:Nat) (u va vb:Value) (pa pb:Addr) (k:Nat) (x y s:Int) (zs:List Int) (j:Nat) (L:Nat→Bool) (w w':World) (i:Nat) (v:Value) (hm:i≠11→Below w.heap.size w w') (hij:i≠j) (hL:L i=false) (h:GAd B u va vb pa pb k x y s zs j L w v) :
  GAd B u va vb pa pb k x y s zs j (updK L i) w' v:=by
 unfold GAd at *;split at h<;>try exact h
 ·intro h14;have hi:i≠11:=fun e=>by subst e;simp[updK] at h14
  have hL14:L 11=false:=by simpa[updK,Ne.symm hi] using h14
  obtain⟨g',e,hg,c0⟩:=h hL14;have hb:=hm hi;exact⟨g',e,by have:=hb.size;omega,by rw[hb.cell (p:=⟨g',0,none⟩) hg];exact c0⟩
 ·exact h.grow (hm (fun e=>hij e))
def addF (xs ys:List Int):List Int:=(List.range 16).map fun i=>xs.getD i 0+ys.getD i 0
theorem addF_len (xs ys:List Int):(addF xs ys).length=16:=by simp[addF]
theorem addF_bd {xs ys:List Int} (hx:R xs) (hy:R ys):Bd 131400 (addF xs ys):=by
 intro i;by_cases h:i<16
 ·rw[show(addF xs ys).getD i 0=_ from rget _ i h];have:=hx.2 i;have:=hy.2 i;omega
 ·rw[getD_past (by rw[addF_len];omega)];omega
theorem addF_fv {xs ys:List Int} (hx:R xs) (hy:R ys):fv (addF xs ys)=(fv xs+fv ys)%fp:=by
 unfold fv addF;have e:=val_lin 65536 (fun i=>xs.getD i 0) (fun i=>ys.getD i 0) 16 (1);rw[show(fun i=>xs.getD i 0+ys.getD i 0)=fun i=>xs.getD i 0+1*ys.getD i 0 from by funext i;omega,e,←val_eq_range 65536 xs 16 hx.1,←val_eq_range 65536 ys 16 hy.1];rw[←Int.add_emod]
 congr 1;omega
set_option maxHeartbeats 2000000 in
theorem fadd_any (a a':Option Addr) (cap cap':Nat) (x y:Int) (w:World) (ha:FeA w a x) (ha':FeA w a' y) :
  Calls Tryz.prog 83 #[.slice a 16 cap,.slice a' 16 cap'] w (FeP w ((x+y)%fp)):=by
 obtain⟨xs,hA,hR,rfl⟩:=ha;obtain⟨ys,hA',hR',rfl⟩:=ha';obtain⟨b0,off,rfl,hb0,hc⟩:=hA.get (by have:=hR.1;omega);obtain⟨b1,off',rfl,hb1,hc'⟩:=hA'.get (by have:=hR'.1;omega);obtain⟨t1,t2⟩:=one_R (addF_len xs ys) (addF_bd hR hR');have HT:Hid (R (carryL (addF xs ys))∧fv (carryL (addF xs ys))=(fv xs+fv ys)%fp):=⟨t1,by rw[t2,addF_fv hR hR']⟩
 have HB1:=hdI <| addF_bd hR hR'
 have HC:Hid (∀ i,i<16→w.cell? ⟨b0,off+i,none⟩=some (.int .i64 (xs.getD i 0))):=fun i hi=>hc i (by have:=hR.1;omega)
 have HC':Hid (∀ i,i<16→w.cell? ⟨b1,off'+i,none⟩=some (.int .i64 (ys.getD i 0))):=fun i hi=>hc' i (by have:=hR'.1;omega)
 have HR:Hid (R xs∧R ys):=⟨hR,hR'⟩
 go_enter Tryz.func83,Tryz.ntmps83;go_wp2
 go_loopw [5,6] (fun v i wr=>∃ k:Nat,k≤16∧i=.int .i64 k∧OwnI wr w.heap.size v ((addF xs ys).take k)∧Below w.heap.size w wr) (fun _ i _=>16-(intOf i).toNat)
 case atStart=>exact⟨0,by decide,rfl,OwnK.empty _ _ (Nat.le_refl _),(Below.refl _ _).alloc (Nat.le_refl _) _⟩
 case round=>
  obtain⟨k,hk,rfl,hown,hbel⟩:=hrel;by_cases hlt:k<16
  ·have hlt':(k:Int)<16:=by omega
   have HO:=hdI <| hown
   have HBE:=hdI <| hbel
   have hx:=(HR.out.1).2 k;have hy:=(HR.out.2).2 k;obtain⟨x0,x1⟩:=hx;obtain⟨y0,y1⟩:=hy;have HTK:Hid ((addF xs ys).take (k+1)=(addF xs ys).take k++[xs.getD k 0+ys.getD k 0]):=by
    show _=_
    have e:(addF xs ys).getD k 0=xs.getD k 0+ys.getD k 0:=rget _ k hlt;rw[←e,List.take_succ_eq_append_getElem (by rw[addF_len];exact hlt),List.getD_eq_getElem?_getD,List.getElem?_eq_getElem (by rw[addF_len];exact hlt)];rfl
   have HTL:Hid (((addF xs ys).take k).length=k):=by show _=_;rw[List.length_take,addF_len];omega
   have HCX:=hdI <| HC.out k hlt
   have HCY:=hdI <| HC'.out k hlt
   have hsz:=hbel.size;generalize (addF xs ys).take k=zs at *;generalize xs.getD k 0=x at *;generalize ys.getD k 0=y at *;have HWR:Hid (IntKind.i64.wrap (x+y)=x+y):=by show _=_;rw[IntKind.wrap_i64];omega
   go_wp2;refine wp_region_any (by kernel_rfl) ?_;refine wpAny_slotsK 12 (fun i w w'=>i≠11→Below w.heap.size w w') (frame:=(fun (a b c d e f g h i j k l m n:Value)=>fun (t:Nat→Value)=>({ tmps:=List.toArray [a,b,c,d,e,f,g,h,i,j,k,l,t 0,t 1,t 2,t 3,t 4,t 5,t 6,t 7,t 8,t 9,t 10,t 11,m,n],defers:=[] }:Act)) _ _ _ _ _ _ _ _ _ _ _ _ _ _)
    (Ext:=fun L w'=>(L 11=false→Below wr.heap.size wr w')∧Below w.heap.size w w'∧wr.heap.size≤w'.heap.size)
    (Good:=GAd w.heap.size u5 (.slice (some ⟨b0,off,none⟩) 16 cap) (.slice (some ⟨b1,off',none⟩) 16 cap') ⟨b0,off+k,none⟩ ⟨b1,off'+k,none⟩ k x y (x+y) zs) (by rfl) (by kernel_rfl) (GAd_stab _ _ _ _ _ _ _ _ _ _ _) (by kernel_rfl) (by kernel_rfl) ?hop ?hend _ _ ((fun (x0 x1 x2 x3 x4 x5 x6 x7 x8 x9 x10 x11:Value)=>fun (i:Nat)=>if i=0 then x0 else if i=1 then x1 else if i=2 then x2 else if i=3 then x3 else if i=4 then x4 else if i=5 then x5 else if i=6 then x6 else if i=7 then x7 else if i=8 then x8 else if i=9 then x9 else if i=10 then x10 else if i=11 then x11 else undef) _ _ _ _ _ _ _ _ _ _ _ _) _ (by simp) (by simp) ?ext ?start (by simp)
   case start=>intro i hi h;exact absurd h (by rw[Array.getD_eq_getD_getElem?,Array.getElem?_replicate];split<;>simp)
   case ext=>exact⟨fun _=>(Below.refl _ _).drew,⟨HBE.out.os,HBE.out.tape,HBE.out.output,HBE.out.size,HBE.out.block⟩,Nat.le_refl _⟩
   case hop=>
    intro i o L t w' hil ho hLi hx hdep K hK;obtain⟨hx14,hxB,hxS⟩:=hx;have cX:w'.cell? ⟨b0,off+k,none⟩=some (.int .i64 x):=by rw[hxB.cell (p:=⟨b0,off+k,none⟩) hb0];exact HCX.out
    have cY:w'.cell? ⟨b1,off'+k,none⟩=some (.int .i64 y):=by rw[hxB.cell (p:=⟨b1,off'+k,none⟩) hb1];exact HCY.out
    have RX:Hid (∀ j,j≠11→∀ ww,Below w'.heap.size w' ww→((updK L j 11=false→Below wr.heap.size wr ww)∧Below w.heap.size w ww∧wr.heap.size≤ww.heap.size)):=fun j hj ww hb=>
     ⟨fun hL=>(hx14 (by simpa[updK,Ne.symm hj] using hL)).trans (hb.mono hxS),hxB.trans (hb.mono hxB.size),by have:=hb.size;omega⟩
    have RR:Hid (∀ j,j≠11→((updK L j 11=false→Below wr.heap.size wr w')∧Below w.heap.size w w'∧wr.heap.size≤w'.heap.size)):=fun j hj=>RX.out j hj w' (Below.refl _ _)
    have RM:Hid (∀ j:Nat,j≠11→Below w'.heap.size w' w'):=fun _ _=>Below.refl _ _
    have H14:=hdI <| hx14
    have HXB:=hdI <| hxB
    obtain rfl|rfl|rfl|rfl|rfl|rfl|rfl|rfl|rfl|rfl|rfl|rfl:i=0∨i=1∨i=2∨i=3∨i=4∨i=5∨i=6∨i=7∨i=8∨i=9∨i=10∨i=11:=by omega
    all_goals(simp at ho;subst ho)
    ·clear hdep;go_simp;exact hK w' u5 rfl (RR.out 0 (by decide)) (RM.out 0)
    ·clear hdep;go_simp;exact hK w' (.slice (some ⟨b0,off,none⟩) 16 cap) rfl (RR.out 1 (by decide)) (RM.out 1)
    ·clear hdep;go_simp;exact hK w' (.int .i64 k) rfl (RR.out 2 (by decide)) (RM.out 2)
    ·have d1:t 1=_:=hdep ⟨1,.data⟩ (by simp) rfl;have d2:t 2=_:=hdep ⟨2,.data⟩ (by simp) rfl;go_simp;simpa[upd,d1,d2] using hK w' (.pointer (some ⟨b0,off+k,none⟩)) rfl (RR.out 3 (by decide)) (RM.out 3)
    ·have d3:t 3=_:=hdep ⟨3,.data⟩ (by simp) rfl;go_simp;simpa[upd,d3] using hK w' (.int .i64 x) rfl (RR.out 4 (by decide)) (RM.out 4)
    ·clear hdep;go_simp;exact hK w' (.slice (some ⟨b1,off',none⟩) 16 cap') rfl (RR.out 5 (by decide)) (RM.out 5)
    ·clear hdep;go_simp;exact hK w' (.int .i64 k) rfl (RR.out 6 (by decide)) (RM.out 6)
    ·have d5:t 5=_:=hdep ⟨5,.data⟩ (by simp) rfl;have d6:t 6=_:=hdep ⟨6,.data⟩ (by simp) rfl;go_simp;simpa[upd,d5,d6] using hK w' (.pointer (some ⟨b1,off'+k,none⟩)) rfl (RR.out 7 (by decide)) (RM.out 7)
    ·have d7:t 7=_:=hdep ⟨7,.data⟩ (by simp) rfl;go_simp;simpa[upd,d7] using hK w' (.int .i64 y) rfl (RR.out 8 (by decide)) (RM.out 8)
    ·have d4:t 4=_:=hdep ⟨4,.data⟩ (by simp) rfl;have d8:t 8=_:=hdep ⟨8,.data⟩ (by simp) rfl;go_simp;simpa[upd,d4,d8,HWR.out] using hK w' (.int .i64 (x+y)) rfl (RR.out 9 (by decide)) (RM.out 9)
    ·have d9:t 9=_:=hdep ⟨9,.data⟩ (by simp) rfl;have hK':=hK (w'.alloc (.cells #[.int .i64 (x+y)] 2)) (.slice (some ⟨w'.heap.size,0,none⟩) 1 1) (fun _=>⟨w'.heap.size,rfl,by simp,cell_of_row _ _ _ _ _ _ (heap_alloc_new _ _)⟩) (RX.out 10 (by decide) _ (below_new3 _ _)) (fun _=>below_new3 _ _);go_simp;simpa[upd,d9] using hK'
    ·have d0:=hdep ⟨0,.data⟩ (by simp) rfl;have d10:=hdep ⟨10,.data⟩ (by simp) rfl;obtain⟨g',e10,hg',cc0⟩:=d10 hLi;have hO:=HO.out.grow (H14.out hLi);refine wp_appI (a:=_) _ ktI _ _ rfl w.heap.size _ zs (by first|exact d0|(simp[d0];done)) hO ⟨g',0,none⟩ 1 1 [x+y] (by first|exact e10|(simp[e10];done)) rfl ?_ ?_ ?_ ?_
     ·intro j hj;obtain rfl:j=0:=by omega
      rw[Addr.add_lit];exact cc0
     ·rw[HTL.out];omega
     ·exact HXB.out.size
     ·intro v' w9 hown' hbel';exact hK w9 v' hown' ⟨fun h=>by simp[updK] at h,HXB.out.trans hbel',by have:=hbel'.size;have:=HXB.out.size;omega⟩ (fun h=>absurd rfl h)
   case hend=>
    intro o L t w' ho hx hg K hK;simp at ho;subst ho;obtain⟨hx14,hxB,hxS⟩:=hx;have O14:=hg 11 (by decide);have HXB:=hdI <| hxB
    have HO14:Hid (OwnI w' w.heap.size (t 11) ((addF xs ys).take (k+1))):=by rw[HTK.out];exact O14
    go_simp;refine hK _ _ ?_;go_wp2;go_roundw
    case rel=>exact⟨k+1,by omega,by go_num,HO14.out,HXB.out⟩
    case measure=>simp[intOf];omega
  ·have hk16:k=16:=by omega
   have ho:OwnI wr w.heap.size u5 (addF xs ys):=by rw[hk16,List.take_of_length_le (by rw[addF_len];decide)] at hown;exact hown
   obtain⟨g,c,rfl,hg,hg',hA⟩:=ho.at_;rw[addF_len];have hlt':¬ (k:Int)<16:=by omega
   go_wp2_with fail;refine(carry_any _ c (addF xs ys) _ (addF_len _ _) hA 131400 3 HB1.out (by decide) (by decide) (by decide) (by decide)).mono ?_;rintro e w2 h2;have HP:Hid (FeP w ((fv xs+fv ys)%fp) e w2):=by
    obtain⟨g2,c2,rfl,p1,p2,p3,p4⟩:=h2.fe HT.out.1 HT.out.2;exact⟨g2,c2,rfl,by have:=hbel.size;omega,p2,p3,hbel.trans (p4.mono hbel.size)⟩
   obtain⟨g2,c2,rfl,_⟩:=h2;go_wp2
   go_ret
   exact HP.out
def subF (xs ys:List Int):List Int:=(List.range 16).map fun i=>xs.getD i 0-ys.getD i 0
theorem subF_len (xs ys:List Int):(subF xs ys).length=16:=by simp[subF]
theorem subF_bd {xs ys:List Int} (hx:R xs) (hy:R ys):Bd 131400 (subF xs ys):=by
 intro i;by_cases h:i<16
 ·rw[show(subF xs ys).getD i 0=_ from rget _ i h];have:=hx.2 i;have:=hy.2 i;omega
 ·rw[getD_past (by rw[subF_len];omega)];omega
theorem subF_fv {xs ys:List Int} (hx:R xs) (hy:R ys):fv (subF xs ys)=(fv xs-fv ys)%fp:=by
 unfold fv subF;have e:=val_lin 65536 (fun i=>xs.getD i 0) (fun i=>ys.getD i 0) 16 (-1);rw[show(fun i=>xs.getD i 0-ys.getD i 0)=fun i=>xs.getD i 0+-1*ys.getD i 0 from by funext i;omega,e,←val_eq_range 65536 xs 16 hx.1,←val_eq_range 65536 ys 16 hy.1];rw[←Int.sub_emod]
 congr 1;omega
set_option maxHeartbeats 2000000 in
theorem fsub_any (a a':Option Addr) (cap cap':Nat) (x y:Int) (w:World) (ha:FeA w a x) (ha':FeA w a' y) :
  Calls Tryz.prog 82 #[.slice a 16 cap,.slice a' 16 cap'] w (FeP w ((x-y)%fp)):=by
 obtain⟨xs,hA,hR,rfl⟩:=ha;obtain⟨ys,hA',hR',rfl⟩:=ha';obtain⟨b0,off,rfl,hb0,hc⟩:=hA.get (by have:=hR.1;omega);obtain⟨b1,off',rfl,hb1,hc'⟩:=hA'.get (by have:=hR'.1;omega);obtain⟨t1,t2⟩:=one_R (subF_len xs ys) (subF_bd hR hR');have HT:Hid (R (carryL (subF xs ys))∧fv (carryL (subF xs ys))=(fv xs-fv ys)%fp):=⟨t1,by rw[t2,subF_fv hR hR']⟩
 have HB1:=hdI <| subF_bd hR hR'
 have HC:Hid (∀ i,i<16→w.cell? ⟨b0,off+i,none⟩=some (.int .i64 (xs.getD i 0))):=fun i hi=>hc i (by have:=hR.1;omega)
 have HC':Hid (∀ i,i<16→w.cell? ⟨b1,off'+i,none⟩=some (.int .i64 (ys.getD i 0))):=fun i hi=>hc' i (by have:=hR'.1;omega)
 have HR:Hid (R xs∧R ys):=⟨hR,hR'⟩
 go_enter Tryz.func82,Tryz.ntmps82;go_wp2
 go_loopw [5,6] (fun v i wr=>∃ k:Nat,k≤16∧i=.int .i64 k∧OwnI wr w.heap.size v ((subF xs ys).take k)∧Below w.heap.size w wr) (fun _ i _=>16-(intOf i).toNat)
 case atStart=>exact⟨0,by decide,rfl,OwnK.empty _ _ (Nat.le_refl _),(Below.refl _ _).alloc (Nat.le_refl _) _⟩
 case round=>
  obtain⟨k,hk,rfl,hown,hbel⟩:=hrel;by_cases hlt:k<16
  ·have hlt':(k:Int)<16:=by omega
   have HO:=hdI <| hown
   have HBE:=hdI <| hbel
   have hx:=(HR.out.1).2 k;have hy:=(HR.out.2).2 k;obtain⟨x0,x1⟩:=hx;obtain⟨y0,y1⟩:=hy;have HTK:Hid ((subF xs ys).take (k+1)=(subF xs ys).take k++[xs.getD k 0-ys.getD k 0]):=by
    show _=_
    have e:(subF xs ys).getD k 0=xs.getD k 0-ys.getD k 0:=rget _ k hlt;rw[←e,List.take_succ_eq_append_getElem (by rw[subF_len];exact hlt),List.getD_eq_getElem?_getD,List.getElem?_eq_getElem (by rw[subF_len];exact hlt)];rfl
   have HTL:Hid (((subF xs ys).take k).length=k):=by show _=_;rw[List.length_take,subF_len];omega
   have HCX:=hdI <| HC.out k hlt
   have HCY:=hdI <| HC'.out k hlt
   have hsz:=hbel.size;generalize (subF xs ys).take k=zs at *;generalize xs.getD k 0=x at *;generalize ys.getD k 0=y at *;have HWR:Hid (IntKind.i64.wrap (x-y)=x-y):=by show _=_;rw[IntKind.wrap_i64];omega
   go_wp2;refine wp_region_any (by kernel_rfl) ?_;refine wpAny_slotsK 12 (fun i w w'=>i≠11→Below w.heap.size w w') (frame:=(fun (a b c d e f g h i j k l m n:Value)=>fun (t:Nat→Value)=>({ tmps:=List.toArray [a,b,c,d,e,f,g,h,i,j,k,l,t 0,t 1,t 2,t 3,t 4,t 5,t 6,t 7,t 8,t 9,t 10,t 11,m,n],defers:=[] }:Act)) _ _ _ _ _ _ _ _ _ _ _ _ _ _)
    (Ext:=fun L w'=>(L 11=false→Below wr.heap.size wr w')∧Below w.heap.size w w'∧wr.heap.size≤w'.heap.size)
    (Good:=GAd w.heap.size u5 (.slice (some ⟨b0,off,none⟩) 16 cap) (.slice (some ⟨b1,off',none⟩) 16 cap') ⟨b0,off+k,none⟩ ⟨b1,off'+k,none⟩ k x y (x-y) zs) (by rfl) (by kernel_rfl) (GAd_stab _ _ _ _ _ _ _ _ _ _ _) (by kernel_rfl) (by kernel_rfl) ?hop ?hend _ _ ((fun (x0 x1 x2 x3 x4 x5 x6 x7 x8 x9 x10 x11:Value)=>fun (i:Nat)=>if i=0 then x0 else if i=1 then x1 else if i=2 then x2 else if i=3 then x3 else if i=4 then x4 else if i=5 then x5 else if i=6 then x6 else if i=7 then x7 else if i=8 then x8 else if i=9 then x9 else if i=10 then x10 else if i=11 then x11 else undef) _ _ _ _ _ _ _ _ _ _ _ _) _ (by simp) (by simp) ?ext ?start (by simp)
   case start=>intro i hi h;exact absurd h (by rw[Array.getD_eq_getD_getElem?,Array.getElem?_replicate];split<;>simp)
   case ext=>exact⟨fun _=>(Below.refl _ _).drew,⟨HBE.out.os,HBE.out.tape,HBE.out.output,HBE.out.size,HBE.out.block⟩,Nat.le_refl _⟩
   case hop=>
    intro i o L t w' hil ho hLi hx hdep K hK;obtain⟨hx14,hxB,hxS⟩:=hx;have cX:w'.cell? ⟨b0,off+k,none⟩=some (.int .i64 x):=by rw[hxB.cell (p:=⟨b0,off+k,none⟩) hb0];exact HCX.out
    have cY:w'.cell? ⟨b1,off'+k,none⟩=some (.int .i64 y):=by rw[hxB.cell (p:=⟨b1,off'+k,none⟩) hb1];exact HCY.out
    have RX:Hid (∀ j,j≠11→∀ ww,Below w'.heap.size w' ww→((updK L j 11=false→Below wr.heap.size wr ww)∧Below w.heap.size w ww∧wr.heap.size≤ww.heap.size)):=fun j hj ww hb=>
     ⟨fun hL=>(hx14 (by simpa[updK,Ne.symm hj] using hL)).trans (hb.mono hxS),hxB.trans (hb.mono hxB.size),by have:=hb.size;omega⟩
    have RR:Hid (∀ j,j≠11→((updK L j 11=false→Below wr.heap.size wr w')∧Below w.heap.size w w'∧wr.heap.size≤w'.heap.size)):=fun j hj=>RX.out j hj w' (Below.refl _ _)
    have RM:Hid (∀ j:Nat,j≠11→Below w'.heap.size w' w'):=fun _ _=>Below.refl _ _
    have H14:=hdI <| hx14
    have HXB:=hdI <| hxB
    obtain rfl|rfl|rfl|rfl|rfl|rfl|rfl|rfl|rfl|rfl|rfl|rfl:i=0∨i=1∨i=2∨i=3∨i=4∨i=5∨i=6∨i=7∨i=8∨i=9∨i=10∨i=11:=by omega
    all_goals(simp at ho;subst ho)
    ·clear hdep;go_simp;exact hK w' u5 rfl (RR.out 0 (by decide)) (RM.out 0)
    ·clear hdep;go_simp;exact hK w' (.slice (some ⟨b0,off,none⟩) 16 cap) rfl (RR.out 1 (by decide)) (RM.out 1)
    ·clear hdep;go_simp;exact hK w' (.int .i64 k) rfl (RR.out 2 (by decide)) (RM.out 2)
    ·have d1:t 1=_:=hdep ⟨1,.data⟩ (by simp) rfl;have d2:t 2=_:=hdep ⟨2,.data⟩ (by simp) rfl;go_simp;simpa[upd,d1,d2] using hK w' (.pointer (some ⟨b0,off+k,none⟩)) rfl (RR.out 3 (by decide)) (RM.out 3)
    ·have d3:t 3=_:=hdep ⟨3,.data⟩ (by simp) rfl;go_simp;simpa[upd,d3] using hK w' (.int .i64 x) rfl (RR.out 4 (by decide)) (RM.out 4)
    ·clear hdep;go_simp;exact hK w' (.slice (some ⟨b1,off',none⟩) 16 cap') rfl (RR.out 5 (by decide)) (RM.out 5)
    ·clear hdep;go_simp;exact hK w' (.int .i64 k) rfl (RR.out 6 (by decide)) (RM.out 6)
    ·have d5:t 5=_:=hdep ⟨5,.data⟩ (by simp) rfl;have d6:t 6=_:=hdep ⟨6,.data⟩ (by simp) rfl;go_simp;simpa[upd,d5,d6] using hK w' (.pointer (some ⟨b1,off'+k,none⟩)) rfl (RR.out 7 (by decide)) (RM.out 7)
    ·have d7:t 7=_:=hdep ⟨7,.data⟩ (by simp) rfl;go_simp;simpa[upd,d7] using hK w' (.int .i64 y) rfl (RR.out 8 (by decide)) (RM.out 8)
    ·have d4:t 4=_:=hdep ⟨4,.data⟩ (by simp) rfl;have d8:t 8=_:=hdep ⟨8,.data⟩ (by simp) rfl;go_simp;simpa[upd,d4,d8,HWR.out] using hK w' (.int .i64 (x-y)) rfl (RR.out 9 (by decide)) (RM.out 9)
    ·have d9:t 9=_:=hdep ⟨9,.data⟩ (by simp) rfl;have hK':=hK (w'.alloc (.cells #[.int .i64 (x-y)] 2)) (.slice (some ⟨w'.heap.size,0,none⟩) 1 1) (fun _=>⟨w'.heap.size,rfl,by simp,cell_of_row _ _ _ _ _ _ (heap_alloc_new _ _)⟩) (RX.out 10 (by decide) _ (below_new3 _ _)) (fun _=>below_new3 _ _);go_simp;simpa[upd,d9] using hK'
    ·have d0:=hdep ⟨0,.data⟩ (by simp) rfl;have d10:=hdep ⟨10,.data⟩ (by simp) rfl;obtain⟨g',e10,hg',cc0⟩:=d10 hLi;have hO:=HO.out.grow (H14.out hLi);refine wp_appI (a:=_) _ ktI _ _ rfl w.heap.size _ zs (by first|exact d0|(simp[d0];done)) hO ⟨g',0,none⟩ 1 1 [x-y] (by first|exact e10|(simp[e10];done)) rfl ?_ ?_ ?_ ?_
     ·intro j hj;obtain rfl:j=0:=by omega
      rw[Addr.add_lit];exact cc0
     ·rw[HTL.out];omega
     ·exact HXB.out.size
     ·intro v' w9 hown' hbel';exact hK w9 v' hown' ⟨fun h=>by simp[updK] at h,HXB.out.trans hbel',by have:=hbel'.size;have:=HXB.out.size;omega⟩ (fun h=>absurd rfl h)
   case hend=>
    intro o L t w' ho hx hg K hK;simp at ho;subst ho;obtain⟨hx14,hxB,hxS⟩:=hx;have O14:=hg 11 (by decide);have HXB:=hdI <| hxB
    have HO14:Hid (OwnI w' w.heap.size (t 11) ((subF xs ys).take (k+1))):=by rw[HTK.out];exact O14
    go_simp;refine hK _ _ ?_;go_wp2;go_roundw
    case rel=>exact⟨k+1,by omega,by go_num,HO14.out,HXB.out⟩
    case measure=>simp[intOf];omega
  ·have hk16:k=16:=by omega
   have ho:OwnI wr w.heap.size u5 (subF xs ys):=by rw[hk16,List.take_of_length_le (by rw[subF_len];decide)] at hown;exact hown
   obtain⟨g,c,rfl,hg,hg',hA⟩:=ho.at_;rw[subF_len];have hlt':¬ (k:Int)<16:=by omega
   go_wp2_with fail;refine(carry_any _ c (subF xs ys) _ (subF_len _ _) hA 131400 3 HB1.out (by decide) (by decide) (by decide) (by decide)).mono ?_;rintro e w2 h2;have HP:Hid (FeP w ((fv xs-fv ys)%fp) e w2):=by
    obtain⟨g2,c2,rfl,p1,p2,p3,p4⟩:=h2.fe HT.out.1 HT.out.2;exact⟨g2,c2,rfl,by have:=hbel.size;omega,p2,p3,hbel.trans (p4.mono hbel.size)⟩
   obtain⟨g2,c2,rfl,_⟩:=h2;go_wp2
   go_ret
   exact HP.out
set_option maxHeartbeats 400000 in
theorem l4P_any (i:Nat) (w:World) (hi:i<16):Calls Tryz.prog 81 #[.int .i64 i] w fun e w'=>e=.returned (.int .i64 (pD.getD i 0))∧w'=w:=by
 rw[pD_get i hi];by_cases h0:i=0
 ·subst h0;go_enter Tryz.func81,Tryz.ntmps81;go_wp2
  go_ret
  exact⟨rfl,rfl⟩
 ·rw[if_neg h0];have h0':((i:Int) == 0)=false:=by simp;omega
  by_cases h15:i=15
  ·subst h15;go_enter Tryz.func81,Tryz.ntmps81;go_wp2
   go_ret
   exact⟨rfl,rfl⟩
  ·rw[if_neg h15];have h15':((i:Int) == 15)=false:=by simp;omega
   go_enter Tryz.func81,Tryz.ntmps81;go_wp2
   go_ret
   exact⟨rfl,rfl⟩
def LsA (w:World) (a:Option Addr) (x:Int):Prop:=∃ zs,At .i64 w a zs∧zs.length=16∧(∀ i,0≤zs.getD i 0∧zs.getD i 0<65536)∧val 65536 zs=x
def LsP (w:World) (x:Int) (e:Ending) (w':World):Prop:=
 ∃ g c,e=.returned (.slice (some ⟨g,0,none⟩) 16 c)∧w.heap.size≤g∧g<w'.heap.size∧LsA w' (some ⟨g,0,none⟩) x∧Below w.heap.size w w'
theorem LsA.below {w w':World} {a:Option Addr} {x:Int} (h:LsA w a x) (hb:Below w.heap.size w w'):LsA w' a x:=by
 obtain⟨zs,h1,h2⟩:=h;exact⟨zs,h1.below hb,h2⟩
structure LsS (w:World) (x:Int) (v:Value) (wr:World):Prop where
 ls:∃ g c,v=.slice (some ⟨g,0,none⟩) 16 c∧w.heap.size≤g∧g<wr.heap.size∧LsA wr (some ⟨g,0,none⟩) x
 below:Below w.heap.size w wr
def less1 (x:Int):Int:=if fp≤x then x-fp else x
def lessN (x:Int):Nat→Int
 |0=>x
 |k+1=>less1 (lessN x k)
theorem lessN_two {x:Int} (h0:0≤x) (h1:x<65536^16):lessN x 2=x%fp:=by
 have e:(65536:Int)^16=2*fp+38:=by decide
 rw[e] at h1;have e2:lessN x 2=less1 (less1 x):=rfl;rw[e2];unfold less1;unfold fp at *;split<;>(try split)<;>omega
set_option maxHeartbeats 1000000 in
theorem least_any (a:Option Addr) (cap:Nat) (x:Int) (w:World) (ha:FeA w a x):Calls Tryz.prog 56 #[.slice a 16 cap] w (LsP w x):=by
 obtain⟨xs,hA,hR,hx⟩:=ha;have hd:=least_dig hR;have h1b:=hR.2;have h2b:Bd 65611 (carryL xs):=by
  have hc:=cy_bd (C:=2) hR.2 (by decide) (by decide) 16;exact(carry_bd (by decide) hc).1
 have h3b:Bd 65535 (carryL (carryL xs)):=fun i=>by have:=hd i;omega
 have hid:=carry_id (carryL_len _) hd;have hfv:val 65536 (carryL (carryL xs))%fp=x:=by
  rw[←hx];have:=fv_carry (carryL xs) (carryL_len _);rw[fv_carry xs hR.1] at this;exact this
 have hv0:=val_nonneg (by decide) (dig_of_get hd);have hv1:val 65536 (carryL (carryL xs))<65536^16:=by
  have:=val_lt (B:=65536) (by decide) (dig_of_get hd)
  rwa [carryL_len] at this
 have hfin:=lessN_two hv0 hv1;rw[hfv] at hfin;have HD:=hdI <| hd
 have HFIN:=hdI <| hfin
 have HR:=hdI <| hR.1
 go_enter Tryz.func56,Tryz.ntmps56;go_wp2_with fail;refine(carry_any _ cap xs _ HR.out hA 65700 2 h1b (by decide) (by decide) (by decide) (by decide)).mono ?_;rintro e w1 ⟨g1,c1,rfl,o1,b1⟩;obtain⟨hA1,_,_⟩:=o1.atS;go_wp2_with fail;refine(carry_any _ c1 (carryL xs) _ (carryL_len _) hA1 65611 2 h2b (by decide) (by decide) (by decide) (by decide)).mono ?_;rintro e w2 ⟨g2,c2,rfl,o2,b2⟩;obtain⟨hA2,_,_⟩:=o2.atS;have B2:=b1.trans (b2.mono b1.size);generalize hys:carryL (carryL xs)=ys at *;have HYL:Hid (ys.length=16):=by rw[←hys];exact carryL_len _
 go_wp2_with fail;refine(carry_any _ c2 ys _ HYL.out hA2 65535 1 h3b (by decide) (by decide) (by decide) (by decide)).mono ?_;rintro e w3 ⟨g3,c3,rfl,o3,b3⟩;rw[hid] at o3;obtain⟨hA3,_,_⟩:=o3.atS;have B3:=B2.trans (b3.mono B2.size);go_wp2_with fail;refine(carry_any _ c3 ys _ HYL.out hA3 65535 1 h3b (by decide) (by decide) (by decide) (by decide)).mono ?_;rintro e w4 ⟨g4,c4,rfl,o4,b4⟩;rw[hid] at o4;obtain⟨hA4,hg4,hg4'⟩:=o4.atS;have B4:=B3.trans (b4.mono B3.size);have HS:Hid (LsS w (lessN (val 65536 ys) 0) (.slice (some ⟨g4,0,none⟩) 16 c4) w4):=⟨⟨g4,c4,rfl,by have:=B3.size;omega,hg4',⟨ys,hA4,HYL.out,HD.out,rfl⟩⟩,B4⟩
 generalize val 65536 ys=V at *;go_wp2
 go_loopw [3,4] (fun v i wr=>∃ m:Nat,m≤2∧i=.int .i64 m∧LsS w (lessN V m) v wr) (fun _ i _=>2-(intOf i).toNat)
 case atStart=>exact⟨0,by decide,rfl,HS.out⟩
 case round=>
  obtain⟨m,hm,rfl,⟨⟨g,c,rfl,hg,hg',⟨zs,hzA,hzl,hzd,hzv⟩⟩,hbel⟩⟩:=hrel;by_cases hm2:m<2
  ·have hm2':(m:Int)<2:=by omega
   have HN:Hid (lessN V (m+1)=less1 (lessN V m)):=rfl;have HZ:Hid (At .i64 wr (some ⟨g,0,none⟩) zs∧zs.length=16∧(∀ i,0≤zs.getD i 0∧zs.getD i 0<65536)∧val 65536 zs=lessN V m):=⟨hzA,hzl,hzd,hzv⟩
   have HB:=hdI <| hbel
   generalize lessN V m=U at *;obtain⟨w5,hw5⟩:∃ x,x=wr:=⟨_,rfl⟩
   subst hw5;go_wp2
   go_loopw [5,6,7] (fun v b i wq=>∃(k:Nat) (ds:List Int) (bb:Int),k≤16∧i=.int .i64 k∧b=.int .i64 bb∧(bb=0∨bb=1)∧ds.length=k∧(∀ i,0≤ds.getD i 0∧ds.getD i 0<65536)∧val 65536 (zs.take k)-val 65536 (pD.take k)=val 65536 ds-bb*65536^k∧OwnI wq w5.heap.size v ds∧Below w5.heap.size w5 wq) (fun _ _ i _=>16-(intOf i).toNat)
   case atStart=>exact⟨0,[],0,by decide,rfl,rfl,.inl rfl,rfl,fun i=>by simp,by simp[val],OwnK.empty _ _ (Nat.le_refl _),(Below.refl _ _).alloc (Nat.le_refl _) _⟩
   case round=>
    obtain⟨k,ds,bb,hk,rfl,rfl,hbb,hdl,hdd,hdv,hown,hbq⟩:=hrel;by_cases hk16:k<16
    ·have hk16':(k:Int)<16:=by omega
     have hsz:=hbq.size;have c0:wr.cell? ⟨g,k,none⟩=some (.int .i64 (zs.getD k 0)):=by
      obtain⟨_,_,e,_,hc⟩:=HZ.out.1.get (by have:=HZ.out.2.1;omega);cases e;rw[hbq.cell (p:=⟨g,k,none⟩) hg'];have:=hc k (by have:=HZ.out.2.1;omega)
      rwa [Nat.zero_add] at this
     have hx:=HZ.out.2.2.1 k;have hy:=pD_dig k;have vx:=val_take 65536 zs k (by have:=HZ.out.2.1;omega);have vy:=val_take 65536 pD k (by simpa[pD] using hk16);obtain⟨x',b',hb',hx0',hx1',hx2⟩:∃ x' b':Int,(b'=0∨b'=1)∧0≤x'∧x'<65536∧x'-b'*65536=zs.getD k 0-pD.getD k 0-bb:=by
      by_cases h:zs.getD k 0-pD.getD k 0-bb<0
      ·exact⟨zs.getD k 0-pD.getD k 0-bb+65536,1,.inr rfl,by omega,by omega,by omega⟩
      ·exact⟨zs.getD k 0-pD.getD k 0-bb,0,.inl rfl,by omega,by omega,by omega⟩
     have hstep:=sub_step16 _ _ _ _ _ _ _ _ _ _ hdv hx2;rw[←vx,←vy,←Int.pow_succ,←hdl,←val_snoc,hdl] at hstep;have HST:=hdI <| hstep
     have HDD:Hid (∀ i,0≤(ds++[x']).getD i 0∧(ds++[x']).getD i 0<65536):=by
      intro i;rcases Nat.lt_trichotomy i ds.length with h|h|h
      ·rw[List.getD_eq_getElem?_getD,List.getElem?_append_left h,←List.getD_eq_getElem?_getD];exact hdd i
      ·subst h;rw[List.getD_eq_getElem?_getD,List.getElem?_append_right (Nat.le_refl _)];simp;omega
      ·rw[getD_past (by simp;omega)];omega
     have HDL:=hdI <| hdl
     have LP:=l4P_any k;clear hstep hdv vx vy hdd hdl;generalize zs.getD k 0=x at *;generalize pD.getD k 0=y at *;obtain⟨hx0,hx1⟩:=hx;obtain⟨hy0,hy1⟩:=hy;go_wp2
     go_quiet (first|(go_at_call 81;refine Calls.quiet_of_same (LP _ hk16)))
     have O2:OwnI (wr.drewN nq) w5.heap.size u5 ds:=hown;have B2:Below w5.heap.size w5 (wr.drewN nq):=⟨hbq.os,hbq.tape,hbq.output,hbq.size,hbq.block⟩
     have Z2:w5.heap.size≤(wr.drewN nq).heap.size:=hsz;clear hown hbq hsz c0 LP;generalize wr.drewN nq=w6 at *;have ht0:-65538<x-y-bb:=by omega
     have ht1:x-y-bb<65536:=by omega
     generalize x-y-bb=t at *;by_cases hneg:t<0
     ·obtain rfl:b'=1:=by omega
      obtain rfl:x'=t+65536:=by omega
      clear hx2 hbb hb';go_wp2_with (at_builtin;refine wpList_appK _ ktI rfl _ _ rfl w5.heap.size _ _ rfl (O2.alloc _) ⟨w6.heap.size,0,none⟩ 1 1 [t+65536] rfl rfl ?c1 ?c2 ?c3 ?_);all_goals first|(intro j hj;obtain rfl:j=0:=by omega
                                                                                                                                                                                                    simp[Addr.add];done)|skip
      case c2=>rw[HDL.out];omega
      case c3=>first|omega|(rw[World.size_alloc];omega)
      intro v' w7 hown' hbel' _;have HO:Hid (OwnI w7 w5.heap.size v' (ds++[t+65536])):=hown';have HB7:Hid (Below w5.heap.size w5 w7):=(B2.alloc (by omega) _).trans hbel';clear O2 hown' B2 hbel';go_wp2;go_roundw
      case rel=>exact⟨k+1,ds++[t+65536],1,by omega,by go_num,rfl,.inr rfl,by rw[List.length_append,HDL.out];rfl,HDD.out,HST.out,HO.out,HB7.out⟩
      case measure=>simp[intOf];omega
     ·obtain rfl:b'=0:=by omega
      obtain rfl:x'=t:=by omega
      clear hx2 hbb hb';go_wp2_with (at_builtin;refine wpList_appK _ ktI rfl _ _ rfl w5.heap.size _ _ rfl (O2.alloc _) ⟨w6.heap.size,0,none⟩ 1 1 [x'] rfl rfl ?d1 ?d2 ?d3 ?_);all_goals first|(intro j hj;obtain rfl:j=0:=by omega
                                                                                                                                                                                               simp[Addr.add];done)|skip
      case d2=>rw[HDL.out];omega
      case d3=>first|omega|(rw[World.size_alloc];omega)
      intro v' w7 hown' hbel' _;have HO:=hdI <| hown'
      have HB7:=hdI <| (B2.alloc (by omega) _).trans hbel'
      go_wp2;go_roundw
      case rel=>exact⟨k+1,ds++[x'],0,by omega,by go_num,rfl,.inl rfl,by rw[List.length_append,HDL.out];rfl,HDD.out,HST.out,HO.out,HB7.out⟩
      case measure=>simp[intOf];omega
    ·have hk16e:k=16:=by omega
     rw[hk16e,List.take_of_length_le (by have:=HZ.out.2.1;omega),List.take_of_length_le (by simp[pD]),pD_val,HZ.out.2.2.2] at hdv;have z0:=val_nonneg (by decide) (dig_of_get hdd);have z1:val 65536 ds<65536^16:=by
      have:=val_lt (B:=65536) (by decide) (dig_of_get hdd)
      rwa [hdl,hk16e] at this
     have hk16':¬ (k:Int)<16:=by omega
     have hUl:U<65536^16:=by
      have:=val_lt (B:=65536) (by decide) (dig_of_get HZ.out.2.2.1)
      rwa [HZ.out.2.1,HZ.out.2.2.2] at this
     obtain⟨gd,cd,rfl,hgd,hgd',hdA⟩:=hown.at_;have hdl16:ds.length=16:=by omega
     rw[hdl16];have hs5:=HB.out.size;have HB8:=hdI <| HB.out.trans (hbq.mono hs5)
     rcases hbb with rfl|rfl
     ·have HP:Hid (LsS w (lessN V (m+1)) (.slice (some ⟨gd,0,none⟩) 16 cd) wr):=by
       refine⟨⟨gd,cd,rfl,by omega,hgd',⟨ds,hdA,hdl16,hdd,?_⟩⟩,HB8.out⟩;rw[HN.out];unfold less1;rw[if_pos (by omega)];omega
      go_wp2;go_roundw
      case rel=>exact⟨m+1,by omega,by go_num,HP.out⟩
      case measure=>simp[intOf];omega
     ·have HP:Hid (LsS w (lessN V (m+1)) (.slice (some ⟨g,0,none⟩) 16 c) wr):=by
       obtain⟨q1,q2,q3,q4⟩:=HZ.out;refine⟨⟨g,c,rfl,hg,by have:=hbq.size;omega,⟨zs,q1.below hbq,q2,q3,?_⟩⟩,HB8.out⟩;rw[HN.out,q4];unfold less1;rw[if_neg (by omega)]
      go_wp2;go_roundw
      case rel=>exact⟨m+1,by omega,by go_num,HP.out⟩
      case measure=>simp[intOf];omega
  ·have hme:m=2:=by omega
   have HP:Hid (LsP w x (.returned (.slice (some ⟨g,0,none⟩) 16 c)) wr):=⟨g,c,rfl,hg,hg',⟨zs,hzA,hzl,hzd,by rw[hzv,hme];exact HFIN.out⟩,hbel⟩
   go_wp2
   go_ret
   exact HP.out
structure PwS (w:World) (x:Int) (v:Value) (wr:World):Prop where
 fe:∃ g c,v=.slice (some ⟨g,0,none⟩) 16 c∧w.heap.size≤g∧g<wr.heap.size∧FeA wr (some ⟨g,0,none⟩) x
 below:Below w.heap.size w wr
set_option maxHeartbeats 1000000 in
theorem pow0_any (a:Option Addr) (cap:Nat) (x:Int) (w:World) (ha:FeA w a x) :
  Calls Tryz.prog 55 #[.slice a 16 cap,.int .i64 0] w (FeP w (pwF x 11 5 254 255)):=by
 have HA:=hdI <| ha
 clear ha;go_enter Tryz.func55,Tryz.ntmps55;go_wp2_with fail;refine(small_any 1 _ (by decide) (by decide)).mono ?_;rintro e w1 ⟨g1,c1,rfl,hg1,hg1',hf1,hb1⟩;have HS:Hid (PwS w (pwF x 11 5 254 0) (.slice (some ⟨g1,0,none⟩) 16 c1) w1):=⟨⟨g1,c1,rfl,hg1,hg1',hf1⟩,hb1⟩
 clear hf1 hb1;go_wp2
 go_loopw [8,9] (fun v i wr=>∃ j:Nat,j≤255∧i=.int .i64 ((j:Int)-1)∧PwS w (pwF x 11 5 254 (255-j)) v wr) (fun _ i _=>(intOf i+1).toNat)
 case atStart=>exact⟨255,Nat.le_refl _,by go_num,HS.out⟩
 case round=>
  clear HS;obtain⟨j,hj,rfl,⟨⟨g,c,rfl,hg,hg',hf⟩,hbel⟩⟩:=hrel;by_cases hj0:0<j
  ·obtain⟨j,rfl⟩:∃ i,j=i+1:=⟨j-1,by omega⟩
   have ei:((j+1:Nat):Int)-1=(j:Int):=by omega
   rw[ei];clear ei;have hstep:pwF x 11 5 254 (255-j)=pstep x (pbit 11 5 j) (pwF x 11 5 254 (255-(j+1))):=by
    have e1:255-j=(255-(j+1))+1:=by omega
    rw[e1,pwF];have e2:254-(255-(j+1))=j:=by omega
    rw[e2]
   have HST:=hdI <| hstep
   clear hstep;generalize pwF x 11 5 254 (255-(j+1))=s at *;have HF:=hdI <| hf
   have HB:=hdI <| hbel
   clear hf hbel;go_wp2_with fail;refine(fmul_any _ _ c c s s _ HF.out HF.out).mono ?_;rintro e w2 ⟨g2,c2,rfl,hg2,hg2',hf2,hb2⟩;have HB2:=hdI <| HB.out.trans (hb2.mono HB.out.size)
   have HF2:=hdI <| hf2
   have HA2:=hdI <| (HA.out.below HB.out).below hb2
   have hs:=HB.out.size;clear hf2 hb2 HF HB;by_cases hge:5≤j
   ·have hge':(5:Int)≤(j:Int):=by omega
    have hge2:decide ((5:Int)≤(j:Int))=true:=by simpa using hge'
    have HPS:Hid (pstep x (pbit 11 5 j) s=s*s%fp*x%fp):=by show _=_;unfold pbit pstep;simp[hge]
    go_wp2_with fail;refine(fmul_any _ _ c2 cap (s*s%fp) x _ HF2.out HA2.out).mono ?_;rintro e w3 ⟨g3,c3,rfl,hg3,hg3',hf3,hb3⟩;have HP:Hid (PwS w (pwF x 11 5 254 (255-j)) (.slice (some ⟨g3,0,none⟩) 16 c3) w3):=by
     rw[HST.out,HPS.out];exact⟨⟨g3,c3,rfl,by have:=HB2.out.size;omega,hg3',hf3⟩,HB2.out.trans (hb3.mono HB2.out.size)⟩
    clear hf3 hb3 HST HPS HB2 HF2 HA2;go_wp2;go_roundw
    case rel=>exact⟨j,by omega,rfl,HP.out⟩
    case measure=>first|(simp[intOf];done)|(simp[intOf];omega)
   ·have hge':¬ (5:Int)≤(j:Int):=by omega
    have hge2:decide ((5:Int)≤(j:Int))=false:=by simpa using hge'
    by_cases hbit:11/2^j%2=1
    ·have HPS:Hid (pstep x (pbit 11 5 j) s=s*s%fp*x%fp):=by show _=_;unfold pbit pstep;simp[hbit]
     have hb2:((11:Int)/2^j).tmod 2=1:=by
      rw[Int.tmod_eq_emod_of_nonneg (Int.ediv_nonneg (by decide) (Int.pow_nonneg (by decide)))];have:(((11/2^j%2:Nat)):Int)=1:=by rw[hbit];rfl
      simpa using this
     have hb3:((11:Int)/2^j)%2=1:=by
      have:(((11/2^j%2:Nat)):Int)=1:=by rw[hbit];rfl
      simpa using this
     clear hbit;go_wp2_with fail;refine(fmul_any _ _ c2 cap (s*s%fp) x _ HF2.out HA2.out).mono ?_;rintro e w3 ⟨g3,c3,rfl,hg3,hg3',hf3,hb3'⟩;have HP:Hid (PwS w (pwF x 11 5 254 (255-j)) (.slice (some ⟨g3,0,none⟩) 16 c3) w3):=by
      rw[HST.out,HPS.out];exact⟨⟨g3,c3,rfl,by have:=HB2.out.size;omega,hg3',hf3⟩,HB2.out.trans (hb3'.mono HB2.out.size)⟩
     clear hf3 hb3' HST HPS HB2 HF2 HA2;go_wp2;go_roundw
     case rel=>exact⟨j,by omega,rfl,HP.out⟩
     case measure=>first|(simp[intOf];done)|(simp[intOf];omega)
    ·have HPS:Hid (pstep x (pbit 11 5 j) s=s*s%fp):=by show _=_;unfold pbit pstep;simp[hge,hbit]
     have hbit0:11/2^j%2=0:=by omega
     have hb3:((11:Int)/2^j)%2=0:=by
      have:(((11/2^j%2:Nat)):Int)=0:=by rw[hbit0];rfl
      simpa using this
     have hb2:((11:Int)/2^j).tmod 2=0:=by
      rw[Int.tmod_eq_emod_of_nonneg (Int.ediv_nonneg (by decide) (Int.pow_nonneg (by decide)))];exact hb3
     clear hbit hbit0;have HP:Hid (PwS w (pwF x 11 5 254 (255-j)) (.slice (some ⟨g2,0,none⟩) 16 c2) w2):=by
      rw[HST.out,HPS.out];exact⟨⟨g2,c2,rfl,by omega,hg2',HF2.out⟩,HB2.out⟩
     clear HST HPS HB2 HF2 HA2;go_wp2;go_roundw
     case rel=>exact⟨j,by omega,rfl,HP.out⟩
     case measure=>first|(simp[intOf];done)|(simp[intOf];omega)
  ·obtain rfl:j=0:=by omega
   have HP:Hid (FeP w (pwF x 11 5 254 255) (.returned (.slice (some ⟨g,0,none⟩) 16 c)) wr):=⟨g,c,rfl,hg,hg',hf,hbel⟩
   clear hf hbel;go_wp2
   go_ret
   exact HP.out
set_option maxHeartbeats 1000000 in
theorem pow1_any (a:Option Addr) (cap:Nat) (x:Int) (w:World) (ha:FeA w a x) :
  Calls Tryz.prog 55 #[.slice a 16 cap,.int .i64 1] w (FeP w (pwF x 5 3 251 252)):=by
 have HA:=hdI <| ha
 go_enter Tryz.func55,Tryz.ntmps55;go_wp2_with fail;refine(small_any 1 _ (by decide) (by decide)).mono ?_;rintro e w1 ⟨g1,c1,rfl,hg1,hg1',hf1,hb1⟩;have HS:Hid (PwS w (pwF x 5 3 251 0) (.slice (some ⟨g1,0,none⟩) 16 c1) w1):=⟨⟨g1,c1,rfl,hg1,hg1',hf1⟩,hb1⟩
 go_wp2
 go_loopw [8,9] (fun v i wr=>∃ j:Nat,j≤252∧i=.int .i64 ((j:Int)-1)∧PwS w (pwF x 5 3 251 (252-j)) v wr) (fun _ i _=>(intOf i+1).toNat)
 case atStart=>exact⟨252,Nat.le_refl _,by go_num,HS.out⟩
 case round=>
  obtain⟨j,hj,rfl,⟨⟨g,c,rfl,hg,hg',hf⟩,hbel⟩⟩:=hrel;by_cases hj0:0<j
  ·obtain⟨j,rfl⟩:∃ i,j=i+1:=⟨j-1,by omega⟩
   have ei:((j+1:Nat):Int)-1=(j:Int):=by omega
   rw[ei];have hstep:pwF x 5 3 251 (252-j)=pstep x (pbit 5 3 j) (pwF x 5 3 251 (252-(j+1))):=by
    have e1:252-j=(252-(j+1))+1:=by omega
    rw[e1,pwF];have e2:251-(252-(j+1))=j:=by omega
    rw[e2]
   have HST:=hdI <| hstep
   generalize pwF x 5 3 251 (252-(j+1))=s at *;have HF:=hdI <| hf
   have HB:=hdI <| hbel
   go_wp2_with fail;refine(fmul_any _ _ c c s s _ HF.out HF.out).mono ?_;rintro e w2 ⟨g2,c2,rfl,hg2,hg2',hf2,hb2⟩;have HB2:=hdI <| HB.out.trans (hb2.mono HB.out.size)
   have HF2:=hdI <| hf2
   have HA2:=hdI <| (HA.out.below HB.out).below hb2
   have hs:=HB.out.size;by_cases hge:3≤j
   ·have hge':(3:Int)≤(j:Int):=by omega
    have hge2:decide ((3:Int)≤(j:Int))=true:=by simpa using hge'
    have HPS:Hid (pstep x (pbit 5 3 j) s=s*s%fp*x%fp):=by show _=_;unfold pbit pstep;simp[hge]
    go_wp2_with fail;refine(fmul_any _ _ c2 cap (s*s%fp) x _ HF2.out HA2.out).mono ?_;rintro e w3 ⟨g3,c3,rfl,hg3,hg3',hf3,hb3⟩;have HP:Hid (PwS w (pwF x 5 3 251 (252-j)) (.slice (some ⟨g3,0,none⟩) 16 c3) w3):=by
     rw[HST.out,HPS.out];exact⟨⟨g3,c3,rfl,by have:=HB2.out.size;omega,hg3',hf3⟩,HB2.out.trans (hb3.mono HB2.out.size)⟩
    go_wp2;go_roundw
    case rel=>exact⟨j,by omega,rfl,HP.out⟩
    case measure=>first|(simp[intOf];done)|(simp[intOf];omega)
   ·have hge':¬ (3:Int)≤(j:Int):=by omega
    have hge2:decide ((3:Int)≤(j:Int))=false:=by simpa using hge'
    by_cases hbit:5/2^j%2=1
    ·have HPS:Hid (pstep x (pbit 5 3 j) s=s*s%fp*x%fp):=by show _=_;unfold pbit pstep;simp[hbit]
     have hb2:((5:Int)/2^j).tmod 2=1:=by
      rw[Int.tmod_eq_emod_of_nonneg (Int.ediv_nonneg (by decide) (Int.pow_nonneg (by decide)))];have:(((5/2^j%2:Nat)):Int)=1:=by rw[hbit];rfl
      simpa using this
     have hb3:((5:Int)/2^j)%2=1:=by
      have:(((5/2^j%2:Nat)):Int)=1:=by rw[hbit];rfl
      simpa using this
     go_wp2_with fail;refine(fmul_any _ _ c2 cap (s*s%fp) x _ HF2.out HA2.out).mono ?_;rintro e w3 ⟨g3,c3,rfl,hg3,hg3',hf3,hb3'⟩;have HP:Hid (PwS w (pwF x 5 3 251 (252-j)) (.slice (some ⟨g3,0,none⟩) 16 c3) w3):=by
      rw[HST.out,HPS.out];exact⟨⟨g3,c3,rfl,by have:=HB2.out.size;omega,hg3',hf3⟩,HB2.out.trans (hb3'.mono HB2.out.size)⟩
     go_wp2;go_roundw
     case rel=>exact⟨j,by omega,rfl,HP.out⟩
     case measure=>first|(simp[intOf];done)|(simp[intOf];omega)
    ·have HPS:Hid (pstep x (pbit 5 3 j) s=s*s%fp):=by show _=_;unfold pbit pstep;simp[hge,hbit]
     have hbit0:5/2^j%2=0:=by omega
     have hb3:((5:Int)/2^j)%2=0:=by
      have:(((5/2^j%2:Nat)):Int)=0:=by rw[hbit0];rfl
      simpa using this
     have hb2:((5:Int)/2^j).tmod 2=0:=by
      rw[Int.tmod_eq_emod_of_nonneg (Int.ediv_nonneg (by decide) (Int.pow_nonneg (by decide)))];exact hb3
     have HP:Hid (PwS w (pwF x 5 3 251 (252-j)) (.slice (some ⟨g2,0,none⟩) 16 c2) w2):=by
      rw[HST.out,HPS.out];exact⟨⟨g2,c2,rfl,by omega,hg2',HF2.out⟩,HB2.out⟩
     go_wp2;go_roundw
     case rel=>exact⟨j,by omega,rfl,HP.out⟩
     case measure=>first|(simp[intOf];done)|(simp[intOf];omega)
  ·obtain rfl:j=0:=by omega
   have HP:Hid (FeP w (pwF x 5 3 251 252) (.returned (.slice (some ⟨g,0,none⟩) 16 c)) wr):=⟨g,c,rfl,hg,hg',hf,hbel⟩
   go_wp2
   go_ret
   exact HP.out
set_option maxHeartbeats 1000000 in
theorem pow2_any (a:Option Addr) (cap:Nat) (x:Int) (w:World) (ha:FeA w a x) :
  Calls Tryz.prog 55 #[.slice a 16 cap,.int .i64 2] w (FeP w (pwF x 3 3 252 253)):=by
 have HA:=hdI <| ha
 go_enter Tryz.func55,Tryz.ntmps55;go_wp2_with fail;refine(small_any 1 _ (by decide) (by decide)).mono ?_;rintro e w1 ⟨g1,c1,rfl,hg1,hg1',hf1,hb1⟩;have HS:Hid (PwS w (pwF x 3 3 252 0) (.slice (some ⟨g1,0,none⟩) 16 c1) w1):=⟨⟨g1,c1,rfl,hg1,hg1',hf1⟩,hb1⟩
 go_wp2
 go_loopw [8,9] (fun v i wr=>∃ j:Nat,j≤253∧i=.int .i64 ((j:Int)-1)∧PwS w (pwF x 3 3 252 (253-j)) v wr) (fun _ i _=>(intOf i+1).toNat)
 case atStart=>exact⟨253,Nat.le_refl _,by go_num,HS.out⟩
 case round=>
  obtain⟨j,hj,rfl,⟨⟨g,c,rfl,hg,hg',hf⟩,hbel⟩⟩:=hrel;by_cases hj0:0<j
  ·obtain⟨j,rfl⟩:∃ i,j=i+1:=⟨j-1,by omega⟩
   have ei:((j+1:Nat):Int)-1=(j:Int):=by omega
   rw[ei];have hstep:pwF x 3 3 252 (253-j)=pstep x (pbit 3 3 j) (pwF x 3 3 252 (253-(j+1))):=by
    have e1:253-j=(253-(j+1))+1:=by omega
    rw[e1,pwF];have e2:252-(253-(j+1))=j:=by omega
    rw[e2]
   have HST:=hdI <| hstep
   generalize pwF x 3 3 252 (253-(j+1))=s at *;have HF:=hdI <| hf
   have HB:=hdI <| hbel
   go_wp2_with fail;refine(fmul_any _ _ c c s s _ HF.out HF.out).mono ?_;rintro e w2 ⟨g2,c2,rfl,hg2,hg2',hf2,hb2⟩;have HB2:=hdI <| HB.out.trans (hb2.mono HB.out.size)
   have HF2:=hdI <| hf2
   have HA2:=hdI <| (HA.out.below HB.out).below hb2
   have hs:=HB.out.size;by_cases hge:3≤j
   ·have hge':(3:Int)≤(j:Int):=by omega
    have hge2:decide ((3:Int)≤(j:Int))=true:=by simpa using hge'
    have HPS:Hid (pstep x (pbit 3 3 j) s=s*s%fp*x%fp):=by show _=_;unfold pbit pstep;simp[hge]
    go_wp2_with fail;refine(fmul_any _ _ c2 cap (s*s%fp) x _ HF2.out HA2.out).mono ?_;rintro e w3 ⟨g3,c3,rfl,hg3,hg3',hf3,hb3⟩;have HP:Hid (PwS w (pwF x 3 3 252 (253-j)) (.slice (some ⟨g3,0,none⟩) 16 c3) w3):=by
     rw[HST.out,HPS.out];exact⟨⟨g3,c3,rfl,by have:=HB2.out.size;omega,hg3',hf3⟩,HB2.out.trans (hb3.mono HB2.out.size)⟩
    go_wp2;go_roundw
    case rel=>exact⟨j,by omega,rfl,HP.out⟩
    case measure=>first|(simp[intOf];done)|(simp[intOf];omega)
   ·have hge':¬ (3:Int)≤(j:Int):=by omega
    have hge2:decide ((3:Int)≤(j:Int))=false:=by simpa using hge'
    by_cases hbit:3/2^j%2=1
    ·have HPS:Hid (pstep x (pbit 3 3 j) s=s*s%fp*x%fp):=by show _=_;unfold pbit pstep;simp[hbit]
     have hb2:((3:Int)/2^j).tmod 2=1:=by
      rw[Int.tmod_eq_emod_of_nonneg (Int.ediv_nonneg (by decide) (Int.pow_nonneg (by decide)))];have:(((3/2^j%2:Nat)):Int)=1:=by rw[hbit];rfl
      simpa using this
     have hb3:((3:Int)/2^j)%2=1:=by
      have:(((3/2^j%2:Nat)):Int)=1:=by rw[hbit];rfl
      simpa using this
     go_wp2_with fail;refine(fmul_any _ _ c2 cap (s*s%fp) x _ HF2.out HA2.out).mono ?_;rintro e w3 ⟨g3,c3,rfl,hg3,hg3',hf3,hb3'⟩;have HP:Hid (PwS w (pwF x 3 3 252 (253-j)) (.slice (some ⟨g3,0,none⟩) 16 c3) w3):=by
      rw[HST.out,HPS.out];exact⟨⟨g3,c3,rfl,by have:=HB2.out.size;omega,hg3',hf3⟩,HB2.out.trans (hb3'.mono HB2.out.size)⟩
     go_wp2;go_roundw
     case rel=>exact⟨j,by omega,rfl,HP.out⟩
     case measure=>first|(simp[intOf];done)|(simp[intOf];omega)
    ·have HPS:Hid (pstep x (pbit 3 3 j) s=s*s%fp):=by show _=_;unfold pbit pstep;simp[hge,hbit]
     have hbit0:3/2^j%2=0:=by omega
     have hb3:((3:Int)/2^j)%2=0:=by
      have:(((3/2^j%2:Nat)):Int)=0:=by rw[hbit0];rfl
      simpa using this
     have hb2:((3:Int)/2^j).tmod 2=0:=by
      rw[Int.tmod_eq_emod_of_nonneg (Int.ediv_nonneg (by decide) (Int.pow_nonneg (by decide)))];exact hb3
     have HP:Hid (PwS w (pwF x 3 3 252 (253-j)) (.slice (some ⟨g2,0,none⟩) 16 c2) w2):=by
      rw[HST.out,HPS.out];exact⟨⟨g2,c2,rfl,by omega,hg2',HF2.out⟩,HB2.out⟩
     go_wp2;go_roundw
     case rel=>exact⟨j,by omega,rfl,HP.out⟩
     case measure=>first|(simp[intOf];done)|(simp[intOf];omega)
  ·obtain rfl:j=0:=by omega
   have HP:Hid (FeP w (pwF x 3 3 252 253) (.returned (.slice (some ⟨g,0,none⟩) 16 c)) wr):=⟨g,c,rfl,hg,hg',hf,hbel⟩
   go_wp2
   go_ret
   exact HP.out
theorem ls_eq {xs ys:List Int} (hx:xs.length=16) (hy:ys.length=16) (dx:∀ i,0≤xs.getD i 0∧xs.getD i 0<65536) (dy:∀ i,0≤ys.getD i 0∧ys.getD i 0<65536):val 65536 xs=val 65536 ys↔∀ i,i<16→xs.getD i 0=ys.getD i 0:=by
 constructor
 ·intro h i _;rw[val_inj (B:=65536) (by decide) (dig_of_get dx) (dig_of_get dy) (by omega) h]
 ·intro h;rw[list16 hx hy h]
set_option maxHeartbeats 1000000 in
theorem equal_any (a a':Option Addr) (cap cap':Nat) (x y:Int) (w:World) (ha:FeA w a x) (ha':FeA w a' y) :
  Calls Tryz.prog 86 #[.slice a 16 cap,.slice a' 16 cap'] w fun e w'=>e=.returned (.bool (decide (x=y)))∧Below w.heap.size w w':=by
 have HA':=hdI <| ha'
 go_enter Tryz.func86,Tryz.ntmps86;go_wp2_with fail;refine(least_any a cap x _ ha).mono ?_;rintro e w1 ⟨g1,c1,rfl,hg1,hg1',hl1,hb1⟩;have HB1:=hdI <| hb1
 have HL1:=hdI <| hl1
 have ha2:=HA'.out.below hb1;go_wp2_with fail;refine(least_any a' cap' y _ ha2).mono ?_;rintro e w2 ⟨g2,c2,rfl,hg2,hg2',hl2,hb2⟩;have HB2:=hdI <| HB1.out.trans (hb2.mono HB1.out.size)
 have hl1:=HL1.out.below hb2;obtain⟨xs,hA1,hx1,hx2,hx3⟩:=hl1;obtain⟨ys,hA2,hy1,hy2,hy3⟩:=hl2;have HEQ:Hid (x=y↔∀ i,i<16→xs.getD i 0=ys.getD i 0):=by
  show _↔_
  rw[←hx3,←hy3];exact ls_eq hx1 hy1 hx2 hy2
 have HC1:Hid (∀ i,i<16→w2.cell? ⟨g1,i,none⟩=some (.int .i64 (xs.getD i 0))):=fun i hi=>by
  obtain⟨b,o,e,_,h⟩:=hA1.get (by omega);cases e;have:=h i (by omega)
  rwa [Nat.zero_add] at this
 have HC2:Hid (∀ i,i<16→w2.cell? ⟨g2,i,none⟩=some (.int .i64 (ys.getD i 0))):=fun i hi=>by
  obtain⟨b,o,e,_,h⟩:=hA2.get (by omega);cases e;have:=h i (by omega)
  rwa [Nat.zero_add] at this
 go_wp2
 go_loopw [7] (fun i wr=>∃(k q:Nat),k≤16∧i=.int .i64 k∧wr=w2.drewN q∧∀ i,i<k→xs.getD i 0=ys.getD i 0) (fun i _=>16-(intOf i).toNat)
 case atStart=>exact⟨0,0,by decide,rfl,rfl,fun i hi=>by omega⟩
 case round=>
  obtain⟨k,q,hk,rfl,rfl,hall⟩:=hrel;have HALL:=hdI <| hall
  by_cases hlt:k<16
  ·have hlt':(k:Int)<16:=by omega
   have c1':=HC1.out k hlt;have c2':=HC2.out k hlt;have HXY:Hid (∀ d e:Int,xs.getD k 0=d→ys.getD k 0=e→d=e→∀ i,i<k+1→xs.getD i 0=ys.getD i 0):=fun d e h1 h2 h3 i hi=>by
    by_cases h:i=k
    ·subst h;rw[h1,h2,h3]
    ·exact HALL.out i (by omega)
   have HNE:Hid (xs.getD k 0≠ys.getD k 0→decide (x=y)=false):=fun h=>decide_eq_false (fun e=>h (HEQ.out.1 e k hlt))
   by_cases hxy:xs.getD k 0=ys.getD k 0
   ·have HS:=hdI <| HXY.out _ _ rfl rfl hxy
    rw[←hxy] at c2';generalize xs.getD k 0=d at *;go_wp2
    go_quiet (fail)
    rw[dN_dN];go_wp2;go_roundw
    case rel=>exact⟨k+1,q+nq,by omega,by go_num,rfl,HS.out⟩
    case measure=>simp[intOf];omega
   ·have HD:=hdI <| HNE.out hxy
    generalize xs.getD k 0=d at *;generalize ys.getD k 0=d' at *;have hdd:(d == d')=false:=by simpa using hxy
    have hdn:(d != d')=true:=by simpa using hxy
    go_wp2
    go_quiet (fail)
    rw[dN_dN];go_wp2
    go_ret
    exact⟨by rw[HD.out];rfl,⟨HB2.out.os,HB2.out.tape,HB2.out.output,HB2.out.size,HB2.out.block⟩⟩
  ·have hk16:k=16:=by omega
   have HD:=hdI <| decide_eq_true (HEQ.out.2 (fun i hi=>HALL.out i (by omega)))
   have hlt':¬ (k:Int)<16:=by omega
   go_wp2
   go_ret
   exact⟨by rw[HD.out];rfl,⟨HB2.out.os,HB2.out.tape,HB2.out.output,HB2.out.size,HB2.out.block⟩⟩
structure SR (w wr:World) (L:List (Option Addr×Int)):Prop where
 below:Below w.heap.size w wr
 fe:∀ e∈L,FeA wr e.1 e.2
theorem SR.start (w:World) (L:List (Option Addr×Int)) (h:∀ e∈L,FeA w e.1 e.2):SR w w L:=⟨Below.refl _ _,h⟩
theorem SR.at {w wr:World} {L:List (Option Addr×Int)} (h:SR w wr L) (i:Nat) (a:Option Addr) (x:Int) (hi:L[i]?=some (a,x)):FeA wr a x:=h.fe _ (List.mem_of_getElem? hi)
theorem SR.low {w wr w':World} {L:List (Option Addr×Int)} (h:SR w wr L) (b:Below wr.heap.size wr w'):SR w w' L:=⟨h.below.trans (b.mono h.below.size),fun e he=>(h.fe e he).below b⟩
theorem SR.add {w wr w':World} {L:List (Option Addr×Int)} {a:Option Addr} {x:Int} (h:SR w wr L) (hf:FeA w' a x) (b:Below wr.heap.size wr w'):SR w w' ((a,x)::L):=
 ⟨(h.low b).below,fun e he=>by
  rcases List.mem_cons.1 he with rfl|he
  ·exact hf
  ·exact(h.low b).fe e he⟩
def inv0 (x:Int):Int:=pwF x 11 5 254 255
def pw1 (x:Int):Int:=pwF x 5 3 251 252
def pw2 (x:Int):Int:=pwF x 3 3 252 253
def mdD:Int:=(-121665)%fp*inv0 (121666%fp)%fp
def mdU (Y:Int):Int:=(Y*Y%fp-1%fp)%fp
def mdV (Y D:Int):Int:=(D*(Y*Y%fp)%fp+1%fp)%fp
def mdW (Y D:Int):Int:=mdU Y*inv0 (mdV Y D)%fp
def mdR (Y D:Int):Int:=mdW Y D*pw1 (mdW Y D)%fp
def mdQ (Y D:Int):Int:=mdR Y D*pw2 (2%fp)%fp
def mdOk (Y D:Int):Bool:=decide (mdR Y D*mdR Y D%fp=mdW Y D) || decide (mdQ Y D*mdQ Y D%fp=mdW Y D)
def mdX (Y D:Int):Int:=if mdR Y D*mdR Y D%fp=mdW Y D then mdR Y D else mdQ Y D
def RtP (w:World) (Y D:Int) (e:Ending) (w':World):Prop:=
 ∃ g c,e=.returned (.tuple #[.bool (mdOk Y D),.slice (some ⟨g,0,none⟩) 16 c])∧w.heap.size≤g∧g<w'.heap.size∧FeA w' (some ⟨g,0,none⟩) (mdX Y D)∧Below w.heap.size w w'
set_option maxHeartbeats 2000000 in
theorem d_any (w:World):Calls Tryz.prog 39 #[] w (FeP w mdD):=by
 have HS0:=hdI <| SR.start w [] (by simp)
 go_enter Tryz.func39,Tryz.ntmps39;go_wp2_with fail;refine(small_any (-121665) _ (by decide) (by decide)).mono ?_;rintro e w1 ⟨g1,c1,rfl,k1,l1,hf,hb⟩;have HS1:=hdI <| HS0.out.add hf hb
 have m1:=hb.size;go_wp2_with fail;refine(small_any 121666 _ (by decide) (by decide)).mono ?_;rintro e w2 ⟨g2,c2,rfl,k2,l2,hf,hb⟩;have HS2:=hdI <| HS1.out.add hf hb
 have m2:=hb.size;go_wp2_with fail;refine(pow0_any _ c2 (121666%fp) _ (HS2.out.at 0 _ _ rfl)).mono ?_;rintro e w3 ⟨g3,c3,rfl,k3,l3,hf,hb⟩;have HS3:=hdI <| HS2.out.add hf hb
 have m3:=hb.size;go_wp2_with fail;refine(fmul_any _ _ c1 c3 ((-121665)%fp) (inv0 (121666%fp)) _ (HS3.out.at 2 _ _ rfl) (HS3.out.at 0 _ _ rfl)).mono ?_;rintro e w4 ⟨g4,c4,rfl,k4,l4,hf,hb⟩;have HS4:=hdI <| HS3.out.add hf hb
 have m4:=hb.size;have HP:Hid (w.heap.size≤g4∧g4<w4.heap.size):=⟨by omega,by omega⟩
 go_wp2
 go_ret
 exact⟨g4,c4,rfl,HP.out.1,HP.out.2,HS4.out.at 0 _ _ rfl,HS4.out.below⟩
set_option maxHeartbeats 4000000 in
theorem root_any (a a':Option Addr) (cap cap':Nat) (Y D:Int) (w:World) (ha:FeA w a Y) (ha':FeA w a' D) :
  Calls Tryz.prog 85 #[.slice a 16 cap,.slice a' 16 cap'] w (RtP w Y D):=by
 have HS0:Hid (SR w w [(a,Y),(a',D)]):=SR.start w _ (fun e he=>by
  simp only[List.mem_cons,List.not_mem_nil,or_false] at he;rcases he with rfl|rfl
  ·exact ha
  ·exact ha')
 go_enter Tryz.func85,Tryz.ntmps85;go_wp2_with fail;refine(fmul_any _ _ cap cap (Y) (Y) _ (HS0.out.at 0 _ _ rfl) (HS0.out.at 0 _ _ rfl)).mono ?_;rintro e w1 ⟨g1,c1,rfl,k1,l1,hf,hb⟩;have HS1:=hdI <| HS0.out.add hf hb
 have m1:=hb.size;go_wp2_with fail;refine(small_any 1 _ (by decide) (by decide)).mono ?_;rintro e w2 ⟨g2,c2,rfl,k2,l2,hf,hb⟩;have HS2:=hdI <| HS1.out.add hf hb
 have m2:=hb.size;go_wp2_with fail;refine(fsub_any _ _ c1 c2 (Y*Y%fp) (1%fp) _ (HS2.out.at 1 _ _ rfl) (HS2.out.at 0 _ _ rfl)).mono ?_;rintro e w3 ⟨g3,c3,rfl,k3,l3,hf,hb⟩;have HS3:=hdI <| HS2.out.add hf hb
 have m3:=hb.size;go_wp2_with fail;refine(fmul_any _ _ cap' c1 (D) (Y*Y%fp) _ (HS3.out.at 4 _ _ rfl) (HS3.out.at 2 _ _ rfl)).mono ?_;rintro e w4 ⟨g4,c4,rfl,k4,l4,hf,hb⟩;have HS4:=hdI <| HS3.out.add hf hb
 have m4:=hb.size;go_wp2_with fail;refine(small_any 1 _ (by decide) (by decide)).mono ?_;rintro e w5 ⟨g5,c5,rfl,k5,l5,hf,hb⟩;have HS5:=hdI <| HS4.out.add hf hb
 have m5:=hb.size;go_wp2_with fail;refine(fadd_any _ _ c4 c5 (D*(Y*Y%fp)%fp) (1%fp) _ (HS5.out.at 1 _ _ rfl) (HS5.out.at 0 _ _ rfl)).mono ?_;rintro e w6 ⟨g6,c6,rfl,k6,l6,hf,hb⟩;have HS6:=hdI <| HS5.out.add hf hb
 have m6:=hb.size;go_wp2_with fail;refine(pow0_any _ c6 (mdV Y D) _ (HS6.out.at 0 _ _ rfl)).mono ?_;rintro e w7 ⟨g7,c7,rfl,k7,l7,hf,hb⟩;have HS7:=hdI <| HS6.out.add hf hb
 have m7:=hb.size;go_wp2_with fail;refine(fmul_any _ _ c3 c7 (mdU Y) (inv0 (mdV Y D)) _ (HS7.out.at 4 _ _ rfl) (HS7.out.at 0 _ _ rfl)).mono ?_;rintro e w8 ⟨g8,c8,rfl,k8,l8,hf,hb⟩;have HS8:=hdI <| HS7.out.add hf hb
 have m8:=hb.size;go_wp2_with fail;refine(pow1_any _ c8 (mdW Y D) _ (HS8.out.at 0 _ _ rfl)).mono ?_;rintro e w9 ⟨g9,c9,rfl,k9,l9,hf,hb⟩;have HS9:=hdI <| HS8.out.add hf hb
 have m9:=hb.size;go_wp2_with fail;refine(fmul_any _ _ c8 c9 (mdW Y D) (pw1 (mdW Y D)) _ (HS9.out.at 1 _ _ rfl) (HS9.out.at 0 _ _ rfl)).mono ?_;rintro e w10 ⟨g10,c10,rfl,k10,l10,hf,hb⟩;have HS10:=hdI <| HS9.out.add hf hb
 have m10:=hb.size;go_wp2_with fail;refine(fmul_any _ _ c10 c10 (mdR Y D) (mdR Y D) _ (HS10.out.at 0 _ _ rfl) (HS10.out.at 0 _ _ rfl)).mono ?_;rintro e w11 ⟨g11,c11,rfl,k11,l11,hf,hb⟩;have HS11:=hdI <| HS10.out.add hf hb
 have m11:=hb.size;go_wp2_with fail;refine(equal_any _ _ c11 c8 (mdR Y D*mdR Y D%fp) (mdW Y D) _ (HS11.out.at 0 _ _ rfl) (HS11.out.at 3 _ _ rfl)).mono ?_;rintro e wq ⟨rfl,hb⟩;have HSq:=hdI <| HS11.out.low hb
 have mq:=hb.size;by_cases hq:mdR Y D*mdR Y D%fp=mdW Y D
 ·have HQ:Hid (mdOk Y D=true∧mdX Y D=mdR Y D):=⟨by unfold mdOk;rw[decide_eq_true hq];rfl,by unfold mdX;rw[if_pos hq]⟩
  rw[decide_eq_true hq];have HP:Hid (w.heap.size≤g10∧g10<wq.heap.size):=⟨by omega,by omega⟩
  go_wp2
  go_ret2
  exact⟨g10,c10,by rw[HQ.out.1];rfl,HP.out.1,HP.out.2,by rw[HQ.out.2];exact HSq.out.at 1 _ _ rfl,HSq.out.below⟩
 ·have HQ:=hdI <| hq
  rw[decide_eq_false hq];go_wp2_with fail;refine(small_any 2 _ (by decide) (by decide)).mono ?_;rintro e w12 ⟨g12,c12,rfl,k12,l12,hf,hb⟩;have HS12:=hdI <| HSq.out.add hf hb
  have m12:=hb.size;go_wp2_with fail;refine(pow2_any _ c12 (2%fp) _ (HS12.out.at 0 _ _ rfl)).mono ?_;rintro e w13 ⟨g13,c13,rfl,k13,l13,hf,hb⟩;have HS13:=hdI <| HS12.out.add hf hb
  have m13:=hb.size;go_wp2_with fail;refine(fmul_any _ _ c10 c13 (mdR Y D) (pw2 (2%fp)) _ (HS13.out.at 3 _ _ rfl) (HS13.out.at 0 _ _ rfl)).mono ?_;rintro e w14 ⟨g14,c14,rfl,k14,l14,hf,hb⟩;have HS14:=hdI <| HS13.out.add hf hb
  have m14:=hb.size;go_wp2_with fail;refine(fmul_any _ _ c14 c14 (mdQ Y D) (mdQ Y D) _ (HS14.out.at 0 _ _ rfl) (HS14.out.at 0 _ _ rfl)).mono ?_;rintro e w15 ⟨g15,c15,rfl,k15,l15,hf,hb⟩;have HS15:=hdI <| HS14.out.add hf hb
  have m15:=hb.size;go_wp2_with fail;refine(equal_any _ _ c15 c8 (mdQ Y D*mdQ Y D%fp) (mdW Y D) _ (HS15.out.at 0 _ _ rfl) (HS15.out.at 7 _ _ rfl)).mono ?_;rintro e wz ⟨rfl,hb⟩;have HSz:Hid (SR w wz [(some ⟨g15,0,none⟩,mdQ Y D*mdQ Y D%fp),(some ⟨g14,0,none⟩,mdQ Y D),(some ⟨g13,0,none⟩,pw2 (2%fp)),(some ⟨g12,0,none⟩,2%fp),(some ⟨g11,0,none⟩,mdR Y D*mdR Y D%fp),(some ⟨g10,0,none⟩,mdR Y D),(some ⟨g9,0,none⟩,pw1 (mdW Y D)),(some ⟨g8,0,none⟩,mdW Y D),(some ⟨g7,0,none⟩,inv0 (mdV Y D)),(some ⟨g6,0,none⟩,mdV Y D),(some ⟨g5,0,none⟩,1%fp),(some ⟨g4,0,none⟩,D*(Y*Y%fp)%fp),(some ⟨g3,0,none⟩,mdU Y),(some ⟨g2,0,none⟩,1%fp),(some ⟨g1,0,none⟩,Y*Y%fp),(a,Y),(a',D)]):=HS15.out.low hb;have mz:=hb.size;have HD:Hid (decide (mdQ Y D*mdQ Y D%fp=mdW Y D)=mdOk Y D∧mdX Y D=mdQ Y D):=⟨by unfold mdOk;rw[decide_eq_false HQ.out];simp,by unfold mdX;rw[if_neg HQ.out]⟩
  rw[HD.out.1];have HP:Hid (w.heap.size≤g14∧g14<wz.heap.size):=⟨by omega,by omega⟩
  go_wp2
  go_ret2
  exact⟨g14,c14,rfl,HP.out.1,HP.out.2,by rw[HD.out.2];exact HSz.out.at 1 _ _ rfl,HSz.out.below⟩
def fbL (bs:List Int):List Int:=(List.range 16).map fun i=>bs.getD (2*i) 0+256*bs.getD (2*i+1) 0
theorem fbL_len (bs:List Int):(fbL bs).length=16:=by simp[fbL]
theorem fb_val (bs:List Int) (n:Nat) (h:2*n≤bs.length):val 65536 ((List.range n).map fun i=>bs.getD (2*i) 0+256*bs.getD (2*i+1) 0)=val 256 (bs.take (2*n)):=by
 induction n with
 |zero=>simp[val]
 |succ n ih=>
  rw[val_range,ih (by omega),show 2*(n+1)=2*n+1+1 by omega,val_take 256 bs (2*n+1) (by omega),val_take 256 bs (2*n) (by omega)];have e:(65536:Int)^n=256^(2*n):=by rw[Int.pow_mul];rfl
  rw[e,Int.pow_succ];generalize (256:Int)^(2*n)=P;generalize bs.getD (2*n) 0=x;generalize bs.getD (2*n+1) 0=y;generalize val 256 (bs.take (2*n))=v
  grind
theorem fb_top (V r d:Int) (hV:V=r+d*1766847064778384329583297500742918515827483896875618958121606201292619776) (h0:0≤r) (h1:r<1766847064778384329583297500742918515827483896875618958121606201292619776) (hd0:0≤d) (hd1:d<65536) :
  V+(d%32768-d)*1766847064778384329583297500742918515827483896875618958121606201292619776=V%57896044618658097711785492504343953926634992332820282019728792003956564819968:=by omega
theorem fb_all (bs:List Int) (hl:bs.length=32) (hb:Byte bs):((fbL bs).set 15 ((fbL bs).getD 15 0%32768)).length=16∧(∀ i,0≤((fbL bs).set 15 ((fbL bs).getD 15 0%32768)).getD i 0∧((fbL bs).set 15 ((fbL bs).getD 15 0%32768)).getD i 0<65536)∧val 65536 ((fbL bs).set 15 ((fbL bs).getD 15 0%32768))=val 256 bs%(fp+19):=by
 have hd:∀ i,0≤(fbL bs).getD i 0∧(fbL bs).getD i 0<65536:=fun i=>by
  by_cases h:i<16
  ·rw[show(fbL bs).getD i 0=_ from rget _ i h];have:=hb.get (2*i);have:=hb.get (2*i+1);omega
  ·rw[getD_past (by rw[fbL_len];omega)];omega
 refine⟨by rw[List.length_set,fbL_len],fun i=>?_,?_⟩
 ·rw[getD_set_eq _ _ _ _ (by rw[fbL_len];decide)];have:=hd i;have:=hd 15;split<;>omega
 ·have e1:val 65536 (fbL bs)=val 256 bs:=by
   have:=fb_val bs 16 (by omega);rw[List.take_of_length_le (by omega)] at this;exact this
  have e2:=val_take 65536 (fbL bs) 15 (by rw[fbL_len];decide);rw[List.take_of_length_le (by rw[fbL_len];decide),e1] at e2;have dg:Dig 65536 ((fbL bs).take 15):=fun z hz=>dig_of_get hd z (List.mem_of_mem_take hz)
  have b0:=val_nonneg (B:=65536) (by decide) dg;have b1:=val_lt (B:=65536) (by decide) dg;rw[List.length_take,fbL_len,show min 15 16=15 from rfl] at b1;have e3:(65536:Int)^15=1766847064778384329583297500742918515827483896875618958121606201292619776:=by decide
  have e4:fp+19=57896044618658097711785492504343953926634992332820282019728792003956564819968:=by decide
  rw[val_set _ _ _ _ (by rw[fbL_len];decide),e1,e3,e4];rw[e3] at e2 b1;exact fb_top _ _ _ e2 b0 b1 (hd 15).1 (hd 15).2
def GFb (B:Nat) (u:Value) (b0 off n cap k:Nat) (x y:Int) (zs:List Int):Nat→(Nat→Bool)→World→Value→Prop
 |0,_,_,v=>v=u
 |1,_,_,v=>v=(.slice (some ⟨b0,off,none⟩) n cap)
 |2,_,_,v=>v=(.int .i64 k)
 |3,_,_,v=>v=(.int .i64 ((2*k:Nat):Int))
 |4,_,_,v=>v=(.pointer (some ⟨b0,off+2*k,none⟩))
 |5,_,_,v=>v=(.int .u8 x)
 |6,_,_,v=>v=(.int .i64 x)
 |7,_,_,v=>v=(.slice (some ⟨b0,off,none⟩) n cap)
 |8,_,_,v=>v=(.int .i64 k)
 |9,_,_,v=>v=(.int .i64 ((2*k:Nat):Int))
 |10,_,_,v=>v=(.int .i64 ((2*k+1:Nat):Int))
 |11,_,_,v=>v=(.pointer (some ⟨b0,off+(2*k+1),none⟩))
 |12,_,_,v=>v=(.int .u8 y)
 |13,_,_,v=>v=(.int .i64 y)
 |14,_,_,v=>v=(.int .i64 (256*y))
 |15,_,_,v=>v=(.int .i64 (x+256*y))
 |16,L,w,v=>L 17=false→∃ g',v=.slice (some ⟨g',0,none⟩) 1 1∧g'<w.heap.size∧w.cell? ⟨g',0,none⟩=some (.int .i64 (x+256*y))
 |17,_,w,v=>OwnI w B v (zs++[x+256*y])
 |_,_,_,_=>True
theorem GFb_stab (B:Nat) (u:Value) (b0 off n cap k:Nat) (x y:Int) (zs:List Int) (j:Nat) (L:Nat→Bool) (w w':World) (i:Nat) (v:Value) (hm:i≠17→Below w.heap.size w w') (hij:i≠j) (hL:L i=false) (h:GFb B u b0 off n cap k x y zs j L w v) :
  GFb B u b0 off n cap k x y zs j (updK L i) w' v:=by
 unfold GFb at *;split at h<;>try exact h
 ·intro h14;have hi:i≠17:=fun e=>by subst e;simp[updK] at h14
  have hL14:L 17=false:=by simpa[updK,Ne.symm hi] using h14
  obtain⟨g',e,hg,c0⟩:=h hL14;have hb:=hm hi;exact⟨g',e,by have:=hb.size;omega,by rw[hb.cell (p:=⟨g',0,none⟩) hg];exact c0⟩
 ·exact h.grow (hm (fun e=>hij e))
set_option maxHeartbeats 2000000 in
theorem fromBytes_any (a:Option Addr) (n cap:Nat) (bs:List Int) (w:World) (hn:bs.length=n) (h32:32≤n) (hmx:n≤32) (ha:At .u8 w a bs) (hb:Byte bs) :
  Calls Tryz.prog 84 #[.slice a n cap] w (LsP w (val 256 bs%(fp+19))):=by
 obtain⟨b0,off,rfl,hb0,hc⟩:=ha.get (by omega);have HC:Hid (∀ i,i<32→w.cell? ⟨b0,off+i,none⟩=some (.int .u8 (bs.getD i 0))):=fun i hi=>hc i (by omega)
 have HBY:=hdI <| hb
 have HALL:=hdI <| fb_all bs (by omega) hb
 have H15:Hid (0≤(fbL bs).getD 15 0∧(fbL bs).getD 15 0<65536):=by
  show _∧_
  rw[show(fbL bs).getD 15 0=_ from rget _ 15 (by decide)];have:=hb.get (2*15);have:=hb.get (2*15+1);omega
 go_enter Tryz.func84,Tryz.ntmps84;go_wp2
 go_loopw [3,4] (fun v i wr=>∃ k:Nat,k≤16∧i=.int .i64 k∧OwnI wr w.heap.size v ((fbL bs).take k)∧Below w.heap.size w wr) (fun _ i _=>16-(intOf i).toNat)
 case atStart=>exact⟨0,by decide,rfl,OwnK.empty _ _ (Nat.le_refl _),(Below.refl _ _).alloc (Nat.le_refl _) _⟩
 case round=>
  obtain⟨k,hk,rfl,hown,hbel⟩:=hrel;by_cases hlt:k<16
  ·have hlt':(k:Int)<16:=by omega
   have HO:=hdI <| hown
   have HBE:=hdI <| hbel
   obtain⟨x0,x1⟩:=HBY.out.get (2*k);obtain⟨y0,y1⟩:=HBY.out.get (2*k+1);have HTK:Hid ((fbL bs).take (k+1)=(fbL bs).take k++[bs.getD (2*k) 0+256*bs.getD (2*k+1) 0]):=by
    show _=_
    have e:(fbL bs).getD k 0=bs.getD (2*k) 0+256*bs.getD (2*k+1) 0:=rget _ k hlt;rw[←e,List.take_succ_eq_append_getElem (by rw[fbL_len];exact hlt),List.getD_eq_getElem?_getD,List.getElem?_eq_getElem (by rw[fbL_len];exact hlt)];rfl
   have HTL:Hid (((fbL bs).take k).length=k):=by show _=_;rw[List.length_take,fbL_len];omega
   have HCX:Hid (w.cell? ⟨b0,off+2*k,none⟩=some (.int .u8 (bs.getD (2*k) 0))):=HC.out _ (by omega);have HCY:Hid (w.cell? ⟨b0,off+(2*k+1),none⟩=some (.int .u8 (bs.getD (2*k+1) 0))):=HC.out _ (by omega);have hsz:=hbel.size;generalize (fbL bs).take k=zs at *;generalize bs.getD (2*k) 0=x at *;generalize bs.getD (2*k+1) 0=y at *;have hm1:IntKind.i64.wrap x=x:=by rw[IntKind.wrap_i64];omega
   have hm2:IntKind.i64.wrap y=y:=by rw[IntKind.wrap_i64];omega
   have hm3:IntKind.i64.wrap (256*y)=256*y:=by rw[IntKind.wrap_i64];omega
   have hm4:IntKind.i64.wrap (x+256*y)=x+256*y:=by rw[IntKind.wrap_i64];omega
   have hm5:IntKind.i64.wrap (2*(k:Int))=2*(k:Int):=by rw[IntKind.wrap_i64];omega
   have hm6:IntKind.i64.wrap (2*(k:Int)+1)=2*(k:Int)+1:=by rw[IntKind.wrap_i64];omega
   have hp1:0≤2*(k:Int):=by omega
   have hp2:0≤2*(k:Int)+1:=by omega
   have ht1:(2*(k:Int)).toNat=2*k:=by omega
   have ht2:(2*(k:Int)+1).toNat=2*k+1:=by omega
   have hi1:2*(k:Int)<(n:Int):=by omega
   have hi2:2*(k:Int)+1<(n:Int):=by omega
   have hi3:((2*k:Nat):Int)<(n:Int):=by omega
   have hi4:((2*k+1:Nat):Int)<(n:Int):=by omega
   go_wp2;refine wp_region_any (by kernel_rfl) ?_;refine wpAny_slotsK 18 (fun i w w'=>i≠17→Below w.heap.size w w') (frame:=(fun (a b c d e f g h i j k l m n o p q:Value)=>fun (t:Nat→Value)=>({ tmps:=List.toArray [a,b,c,d,e,f,g,h,i,j,t 0,t 1,t 2,t 3,t 4,t 5,t 6,t 7,t 8,t 9,t 10,t 11,t 12,t 13,t 14,t 15,t 16,t 17,k,l,m,n,o,p,q],defers:=[] }:Act)) _ _ _ _ _ _ _ _ _ _ _ _ _ _ _ _ _)
    (Ext:=fun L w'=>(L 17=false→Below wr.heap.size wr w')∧Below w.heap.size w w'∧wr.heap.size≤w'.heap.size)
    (Good:=GFb w.heap.size u3 b0 off n cap k x y zs) (by rfl) (by kernel_rfl) (GFb_stab _ _ _ _ _ _ _ _ _ _) (by kernel_rfl) (by kernel_rfl) ?hop ?hend _ _ ((fun (x0 x1 x2 x3 x4 x5 x6 x7 x8 x9 x10 x11 x12 x13 x14 x15 x16 x17:Value)=>fun (i:Nat)=>if i=0 then x0 else if i=1 then x1 else if i=2 then x2 else if i=3 then x3 else if i=4 then x4 else if i=5 then x5 else if i=6 then x6 else if i=7 then x7 else if i=8 then x8 else if i=9 then x9 else if i=10 then x10 else if i=11 then x11 else if i=12 then x12 else if i=13 then x13 else if i=14 then x14 else if i=15 then x15 else if i=16 then x16 else if i=17 then x17 else undef) _ _ _ _ _ _ _ _ _ _ _ _ _ _ _ _ _ _) _ (by simp) (by simp) ?ext ?start (by simp)
   case start=>intro i hi h;exact absurd h (by rw[Array.getD_eq_getD_getElem?,Array.getElem?_replicate];split<;>simp)
   case ext=>exact⟨fun _=>(Below.refl _ _).drew,⟨HBE.out.os,HBE.out.tape,HBE.out.output,HBE.out.size,HBE.out.block⟩,Nat.le_refl _⟩
   case hop=>
    intro i o L t w' hil ho hLi hx hdep K hK;obtain⟨hx14,hxB,hxS⟩:=hx;have cX:w'.cell? ⟨b0,off+2*k,none⟩=some (.int .u8 x):=by rw[hxB.cell (p:=⟨b0,off+2*k,none⟩) hb0];exact HCX.out
    have cY:w'.cell? ⟨b0,off+(2*k+1),none⟩=some (.int .u8 y):=by rw[hxB.cell (p:=⟨b0,off+(2*k+1),none⟩) hb0];exact HCY.out
    have RX:Hid (∀ j,j≠17→∀ ww,Below w'.heap.size w' ww→((updK L j 17=false→Below wr.heap.size wr ww)∧Below w.heap.size w ww∧wr.heap.size≤ww.heap.size)):=fun j hj ww hb=>
     ⟨fun hL=>(hx14 (by simpa[updK,Ne.symm hj] using hL)).trans (hb.mono hxS),hxB.trans (hb.mono hxB.size),by have:=hb.size;omega⟩
    have RR:Hid (∀ j,j≠17→((updK L j 17=false→Below wr.heap.size wr w')∧Below w.heap.size w w'∧wr.heap.size≤w'.heap.size)):=fun j hj=>RX.out j hj w' (Below.refl _ _)
    have RM:Hid (∀ j:Nat,j≠17→Below w'.heap.size w' w'):=fun _ _=>Below.refl _ _
    have H14:=hdI <| hx14
    have HXB:=hdI <| hxB
    obtain rfl|rfl|rfl|rfl|rfl|rfl|rfl|rfl|rfl|rfl|rfl|rfl|rfl|rfl|rfl|rfl|rfl|rfl:i=0∨i=1∨i=2∨i=3∨i=4∨i=5∨i=6∨i=7∨i=8∨i=9∨i=10∨i=11∨i=12∨i=13∨i=14∨i=15∨i=16∨i=17:=by omega
    all_goals(simp at ho;subst ho)
    ·clear hdep;go_simp;exact hK w' u3 rfl (RR.out 0 (by decide)) (RM.out 0)
    ·clear hdep;go_simp;exact hK w' (.slice (some ⟨b0,off,none⟩) n cap) rfl (RR.out 1 (by decide)) (RM.out 1)
    ·clear hdep;go_simp;exact hK w' (.int .i64 k) rfl (RR.out 2 (by decide)) (RM.out 2)
    ·have d2:t 2=(.int .i64 k):=hdep ⟨2,.data⟩ (by simp) rfl;have hK':=hK w' (.int .i64 ((2*k:Nat):Int)) rfl (RR.out 3 (by decide)) (RM.out 3);go_simp;simpa[upd,d2,hm1,hm2,hm3,hm4,hm5,hm6,hp1,hp2,ht1,ht2] using hK'
    ·have d1:t 1=(.slice (some ⟨b0,off,none⟩) n cap):=hdep ⟨1,.data⟩ (by simp) rfl;have d3:t 3=(.int .i64 ((2*k:Nat):Int)):=hdep ⟨3,.data⟩ (by simp) rfl;have hK':=hK w' (.pointer (some ⟨b0,off+2*k,none⟩)) rfl (RR.out 4 (by decide)) (RM.out 4);go_simp;simpa[upd,d1,d3,hm1,hm2,hm3,hm4,hm5,hm6,hp1,hp2,ht1,ht2] using hK'
    ·have d4:t 4=(.pointer (some ⟨b0,off+2*k,none⟩)):=hdep ⟨4,.data⟩ (by simp) rfl;have hK':=hK w' (.int .u8 x) rfl (RR.out 5 (by decide)) (RM.out 5);go_simp;simpa[upd,d4,hm1,hm2,hm3,hm4,hm5,hm6,hp1,hp2,ht1,ht2] using hK'
    ·have d5:t 5=(.int .u8 x):=hdep ⟨5,.data⟩ (by simp) rfl;have hK':=hK w' (.int .i64 x) rfl (RR.out 6 (by decide)) (RM.out 6);go_simp;simpa[upd,d5,hm1,hm2,hm3,hm4,hm5,hm6,hp1,hp2,ht1,ht2] using hK'
    ·clear hdep;go_simp;exact hK w' (.slice (some ⟨b0,off,none⟩) n cap) rfl (RR.out 7 (by decide)) (RM.out 7)
    ·clear hdep;go_simp;exact hK w' (.int .i64 k) rfl (RR.out 8 (by decide)) (RM.out 8)
    ·have d8:t 8=(.int .i64 k):=hdep ⟨8,.data⟩ (by simp) rfl;have hK':=hK w' (.int .i64 ((2*k:Nat):Int)) rfl (RR.out 9 (by decide)) (RM.out 9);go_simp;simpa[upd,d8,hm1,hm2,hm3,hm4,hm5,hm6,hp1,hp2,ht1,ht2] using hK'
    ·have d9:t 9=(.int .i64 ((2*k:Nat):Int)):=hdep ⟨9,.data⟩ (by simp) rfl;have hK':=hK w' (.int .i64 ((2*k+1:Nat):Int)) rfl (RR.out 10 (by decide)) (RM.out 10);go_simp;simpa[upd,d9,hm1,hm2,hm3,hm4,hm5,hm6,hp1,hp2,ht1,ht2] using hK'
    ·have d7:t 7=(.slice (some ⟨b0,off,none⟩) n cap):=hdep ⟨7,.data⟩ (by simp) rfl;have d10:t 10=(.int .i64 ((2*k+1:Nat):Int)):=hdep ⟨10,.data⟩ (by simp) rfl;have hK':=hK w' (.pointer (some ⟨b0,off+(2*k+1),none⟩)) rfl (RR.out 11 (by decide)) (RM.out 11);go_simp;simpa[upd,d7,d10,hm1,hm2,hm3,hm4,hm5,hm6,hp1,hp2,ht1,ht2] using hK'
    ·have d11:t 11=(.pointer (some ⟨b0,off+(2*k+1),none⟩)):=hdep ⟨11,.data⟩ (by simp) rfl;have hK':=hK w' (.int .u8 y) rfl (RR.out 12 (by decide)) (RM.out 12);go_simp;simpa[upd,d11,hm1,hm2,hm3,hm4,hm5,hm6,hp1,hp2,ht1,ht2] using hK'
    ·have d12:t 12=(.int .u8 y):=hdep ⟨12,.data⟩ (by simp) rfl;have hK':=hK w' (.int .i64 y) rfl (RR.out 13 (by decide)) (RM.out 13);go_simp;simpa[upd,d12,hm1,hm2,hm3,hm4,hm5,hm6,hp1,hp2,ht1,ht2] using hK'
    ·have d13:t 13=(.int .i64 y):=hdep ⟨13,.data⟩ (by simp) rfl;have hK':=hK w' (.int .i64 (256*y)) rfl (RR.out 14 (by decide)) (RM.out 14);go_simp;simpa[upd,d13,hm1,hm2,hm3,hm4,hm5,hm6,hp1,hp2,ht1,ht2] using hK'
    ·have d6:t 6=(.int .i64 x):=hdep ⟨6,.data⟩ (by simp) rfl;have d14:t 14=(.int .i64 (256*y)):=hdep ⟨14,.data⟩ (by simp) rfl;have hK':=hK w' (.int .i64 (x+256*y)) rfl (RR.out 15 (by decide)) (RM.out 15);go_simp;simpa[upd,d6,d14,hm1,hm2,hm3,hm4,hm5,hm6,hp1,hp2,ht1,ht2] using hK'
    ·have d15:t 15=(.int .i64 (x+256*y)):=hdep ⟨15,.data⟩ (by simp) rfl;have hK':=hK (w'.alloc (.cells #[.int .i64 (x+256*y)] 2)) (.slice (some ⟨w'.heap.size,0,none⟩) 1 1) (fun _=>⟨w'.heap.size,rfl,by simp,cell_of_row _ _ _ _ _ _ (heap_alloc_new _ _)⟩) (RX.out 16 (by decide) _ (below_new3 _ _)) (fun _=>below_new3 _ _);go_simp;simpa[upd,d15] using hK'
    ·have d0:=hdep ⟨0,.data⟩ (by simp) rfl;have d10:=hdep ⟨16,.data⟩ (by simp) rfl;obtain⟨g',e10,hg',cc0⟩:=d10 hLi;have hO:=HO.out.grow (H14.out hLi);refine wp_appI (a:=_) _ ktI _ _ rfl w.heap.size _ zs (by first|exact d0|(simp[d0];done)) hO ⟨g',0,none⟩ 1 1 [x+256*y] (by first|exact e10|(simp[e10];done)) rfl ?_ ?_ ?_ ?_
     ·intro j hj;obtain rfl:j=0:=by omega
      rw[Addr.add_lit];exact cc0
     ·rw[HTL.out];omega
     ·exact HXB.out.size
     ·intro v' w9 hown' hbel';exact hK w9 v' hown' ⟨fun h=>by simp[updK] at h,HXB.out.trans hbel',by have:=hbel'.size;have:=HXB.out.size;omega⟩ (fun h=>absurd rfl h)
   case hend=>
    intro o L t w' ho hx hg K hK;simp at ho;subst ho;obtain⟨hx14,hxB,hxS⟩:=hx;have O14:=hg 17 (by decide);have HXB:=hdI <| hxB
    have HO14:Hid (OwnI w' w.heap.size (t 17) ((fbL bs).take (k+1))):=by rw[HTK.out];exact O14
    go_simp;refine hK _ _ ?_;go_wp2;go_roundw
    case rel=>exact⟨k+1,by omega,by go_num,HO14.out,HXB.out⟩
    case measure=>simp[intOf];omega
  ·have hk16:k=16:=by omega
   have ho:OwnI wr w.heap.size u3 (fbL bs):=by rw[hk16,List.take_of_length_le (by rw[fbL_len];decide)] at hown;exact hown
   obtain⟨g,c,rfl,hg,hg',hA⟩:=ho.at_;rw[fbL_len] at ho ⊢;obtain⟨c15,f15,o15⟩:=ho.set (fbL_len bs) 15 ((fbL bs).getD 15 0%32768) (by decide);have HOW:=hdI <| o15
   have HBE:Hid (Below w.heap.size w (wr.setCell ⟨g,15,none⟩ (.int .i64 ((fbL bs).getD 15 0%32768)))):=hbel.setCell (by simpa using hg) _;obtain⟨q0,q1⟩:=H15.out;have hlt':¬ (k:Int)<16:=by omega
   generalize hdd:(fbL bs).getD 15 0=d at *;have htm:d.tmod 32768=d%32768:=Int.tmod_eq_emod_of_nonneg q0;go_wp2
   go_ret
   obtain⟨hA1,z1,z2⟩:=HOW.out.atS;exact⟨g,c,rfl,z1,z2,⟨_,hA1,HALL.out.1,HALL.out.2.1,HALL.out.2.2⟩,HBE.out⟩
def tapI (U T:List Int) (i:Nat):Prop:=T.getD (i*2) 0∈U∧(0≤T.getD (i*2+1) 0∧T.getD (i*2+1) 0≤4294967295)∧∀ j,j<i→T.getD (j*2) 0≠T.getD (i*2) 0
def TapP (U T:List Int) (n:Nat):Prop:=∀ i,i<n→tapI U T i
open Classical in
noncomputable def tapB (U T:List Int) (n:Nat):Bool:=decide (TapP U T n)
theorem tapB_no {U T:List Int} {n:Nat} (h:¬ TapP U T n):tapB U T n=false:=by unfold tapB;simp[h]
theorem tapB_yes {U T:List Int} {n:Nat} (h:TapP U T n):tapB U T n=true:=by unfold tapB;simp[h]
theorem Row.low {w w':World} {g:Nat} {t:TypeId} {bs:List Int} {B:Nat} (h:Row w g t bs) (b:Below B w w') (hg:g<B):Row w' g t bs:=by unfold Row;rw[b.block g hg];exact h
structure TFS (w:World) (U T:List Int) (k:Nat) (wr:World):Prop where
 below:Below w.heap.size w wr
 set:∃ bs,Row wr w.heap.size 59 bs∧SetB bs (fun v=>(v:Int)∈U∧∀ j,j<k→T.getD (j*2) 0≠(v:Int))
 ok:∀ i,i<k→tapI U T i
open Classical in
set_option maxRecDepth 100000 in
set_option maxHeartbeats 4000000 in
theorem tapsFit_any (a:Option Addr) (n cap:Nat) (U T us:List Int) (w:World) (hn:T.length=n*2) (hm:n≤1048576) (ha:At .i64 w a T) (hU:SerP U) (hs:SetB us (fun v=>(v:Int)∈U)) :
  Calls Tryz.prog 44 #[.slice a n cap,.agg (us.map (Value.int .u8)).toArray] w fun e w'=>e=.returned (.bool (tapB U T n))∧Below w.heap.size w w':=by
 have HS:Hid (TFS w U T 0 (w.alloc (.cells (us.map (Value.int .u8)).toArray 59))):=
  ⟨(Below.refl _ _).alloc (Nat.le_refl _) _,⟨us,heap_alloc_new w _,hs.congr (fun v _=>⟨fun h=>⟨h,fun j hj=>by omega⟩,fun h=>h.1⟩)⟩,fun i hi=>by omega⟩
 have HA:=hdI <| ha
 have HNX:=hdI <| hn
 have HUR:Hid (∀ z∈U,0≤z∧z<256):=fun z hz=>by
  obtain⟨i,hi,rfl⟩:=List.getElem_of_mem hz;have:=hU i hi;rw[show U[i]=U.getD i 0 by simp[List.getD,hi]];exact⟨this.1,this.2.1⟩
 clear ha hn hs hU;go_enter Tryz.func44,Tryz.ntmps44;go_wp2_with fail;generalize w.alloc (.cells (us.map (Value.int .u8)).toArray 59)=w0 at *
 go_loopw [9] (fun i wr=>∃ k:Nat,k≤n∧i=.int .i64 k∧TFS w U T k wr) (fun i _=>n-(intOf i).toNat)
 case atStart=>exact⟨0,Nat.zero_le _,rfl,HS.out⟩
 case round=>
  clear HS;obtain⟨k,hk,rfl,hst⟩:=hrel;by_cases hlt:k<n
  ·have hlt':(k:Int)<n:=by omega
   obtain⟨b,off,ea,hb,hc⟩:=(HA.out.below hst.below).get (by have:=HNX.out;omega);have c0:=hc (k*2) (by have:=HNX.out;omega);have c1:=hc (k*2+1) (by have:=HNX.out;omega);rw[←Nat.add_assoc] at c1;have HST:=hdI <| hst
   subst ea;obtain⟨bs,hrow,hset⟩:=hst.set;have HTI:Hid (tapI U T k↔(T.getD (k*2) 0∈U∧(0≤T.getD (k*2+1) 0∧T.getD (k*2+1) 0≤4294967295)∧∀ j,j<k→T.getD (j*2) 0≠T.getD (k*2) 0)):=Iff.rfl;generalize hs':T.getD (k*2) 0=s at *;generalize hn':T.getD (k*2+1) 0=nw at *;have b1:Below wr.heap.size wr (wr.alloc (.cells #[.int .i64 s,.int .i64 nw] 70)):=(Below.refl _ _).alloc (Nat.le_refl _) _;have hrow1:=hrow.low b1 hrow.lt;have HBT:=hdI <| hrow1.bat hset.1 hset.2.1
   have HB1:=hdI <| HST.out.below.trans (b1.mono HST.out.below.size)
   have HSB:=hdI <| hset
   have HRW:=hdI <| hrow1
   have HHQ:Hid (decide (s∈U∧∀ j,j<k→T.getD (j*2) 0≠s)=true↔(0≤s∧s<256∧((s.toNat:Int)∈U∧∀ j,j<k→T.getD (j*2) 0≠(s.toNat:Int)))):=by
    show _↔_
    rw[decide_eq_true_eq];constructor
    ·rintro⟨h1,h2⟩;obtain⟨r0,r1⟩:=HUR.out s h1;have e:=Int.toNat_of_nonneg r0;rw[e];exact⟨r0,r1,h1,h2⟩
    ·rintro⟨r0,r1,h⟩;have e:=Int.toNat_of_nonneg r0
     rwa [e] at h
   clear hst hc hb hrow hset hrow1 b1;go_wp2_with fail;generalize hW:wr.alloc (.cells #[.int .i64 s,.int .i64 nw] 70)=w1 at *;have hc10:w1.cell? ⟨wr.heap.size,1,none⟩=some (.int .i64 nw):=by rw[←hW];exact cell_of_row _ _ _ _ _ _ (heap_alloc_new wr _)
   have hc00:w1.cell? ⟨wr.heap.size,0,none⟩=some (.int .i64 s):=by rw[←hW];exact cell_of_row _ _ _ _ _ _ (heap_alloc_new wr _)
   have hwl:w.heap.size<wr.heap.size:=by obtain⟨b',r',_⟩:=HST.out.set;exact r'.lt
   clear hW;refine(hasS_any w.heap.size 0 s bs _ (decide (s∈U∧∀ j,j<k→T.getD (j*2) 0≠s)) _ HBT.out HSB.out HHQ.out).mono ?_;rintro e w2 ⟨rfl,rfl⟩;by_cases hin:s∈U∧∀ j,j<k→T.getD (j*2) 0≠s
   ·rw[decide_eq_true hin];have HIN:Hid (s∈U∧∀ j,j<k→T.getD (j*2) 0≠s):=hin;clear hin HHQ;go_wp2_with fail;refine(isNow_any _ _).mono ?_;rintro e w3 ⟨rfl,rfl⟩;by_cases hno:0≤nw∧nw≤4294967295
    ·have HNO:Hid (nowOk nw=true):=decide_eq_true hno;obtain⟨r0,r1⟩:=HUR.out s HIN.out.1;obtain⟨v,hv⟩:=Int.eq_ofNat_of_zero_le r0;have hv256:v<256:=by omega
     have HN:∀ q,Hid (TFS w U T (k+1) ((w3.setCell ⟨w.heap.size,0+v/8,none⟩ (.int .u8 ((remB bs v).getD (v/8) 0))).drewN q)):=fun q=>by
      have hr2:=HRW.out.set (v/8) ((remB bs v).getD (v/8) 0);have e2:bs.set (v/8) ((remB bs v).getD (v/8) 0)=remB bs v:=by
       unfold remB;rw[getD_set8 _ _ _ _ (by have:=HSB.out.1;omega),if_pos rfl]
      rw[e2] at hr2;have hw:Wr w.heap.size w3 (w3.setCell ⟨w.heap.size,v/8,none⟩ (.int .u8 ((remB bs v).getD (v/8) 0))):=(Wr.refl _ _).setCell _ _;rw[Nat.zero_add];refine⟨?_,⟨remB bs v,hr2,(HSB.out.rem v hv256).congr (fun u hu=>?_)⟩,fun i hi=>?_⟩
      ·have bq:=HB1.out.trans (hw.below (Nat.le_refl _));exact⟨bq.os,bq.tape,bq.output,bq.size,bq.block⟩
      ·constructor
       ·rintro⟨⟨h1,h2⟩,h3⟩;refine⟨h1,fun j hj=>?_⟩;by_cases hjk:j<k
        ·exact h2 j hjk
        ·have:j=k:=by omega
         subst this;rw[hs',hv];intro e;exact h3 (by omega)
       ·rintro⟨h1,h2⟩;refine⟨⟨h1,fun j hj=>h2 j (by omega)⟩,fun e=>?_⟩;have:=h2 k (by omega);rw[hs',hv,e] at this;exact this rfl
      ·by_cases hik:i<k
       ·exact HST.out.ok i hik
       ·have:i=k:=by omega
        subst this;exact HTI.out.2 ⟨HIN.out.1,hno,HIN.out.2⟩
     rw[HNO.out];clear hno r0 r1 HIN;subst hv;go_wp2_with fail;refine(remS_any w.heap.size 0 v bs _ hv256 HBT.out).mono ?_;rintro e w4 ⟨rfl,q,rfl⟩;have H2:=HN q;clear HN HBT HST HRW HSB HB1;generalize (w3.setCell ⟨w.heap.size,0+v/8,none⟩ (.int .u8 ((remB bs v).getD (v/8) 0))).drewN q=w4 at *;go_wp2;go_roundw
     case rel=>exact⟨k+1,by omega,by go_num,H2.out⟩
     case measure=>simp[intOf];omega
    ·have HNO:Hid (nowOk nw=false):=decide_eq_false hno;have HNT:Hid (tapB U T n=false):=tapB_no (fun h=>hno (HTI.out.1 (h k hlt)).2.1);rw[HNO.out];clear hno;go_wp2
     go_ret
     exact⟨by rw[HNT.out];rfl,HB1.out⟩
   ·rw[decide_eq_false hin];have HNT:=hdI <| tapB_no (fun h=>hin ⟨(HTI.out.1 (h k hlt)).1,(HTI.out.1 (h k hlt)).2.2⟩)
    clear hin HHQ;go_wp2
    go_ret
    exact⟨by rw[HNT.out];rfl,HB1.out⟩
  ·have hkn:k=n:=by omega
   have hlt':¬ ((k:Int)<n):=by omega
   have HNT:Hid (tapB U T n=true):=tapB_yes (fun i hi=>hst.ok i (by omega));have HBW:Hid (Below w.heap.size w wr):=hst.below;clear hst;go_wp2
   go_ret
   exact⟨by rw[HNT.out];rfl,HBW.out⟩
end Go.Proofs.YtncomnkdlpoelaaGreatDoor
