import Derived.Test.YtjdhhgaelgemcaaGreatDoorMSvB
import Derived.Test.YtjdhhgaelgemcaaGreatDoorMTxt
import Derived.Test.YtjdhhgaelgemcaaGreatDoorMSvM
namespace Go.Proofs.YtjdhhgaelgemcaaGreatDoor
set_option linter.unusedVariables false
def Asc (xs:List Int):Prop:=xs.Pairwise (·<·)
theorem asc_ext:∀(xs ys:List Int),Asc xs→Asc ys→(∀ z,z∈xs↔z∈ys)→xs=ys:=by
 intro xs
 induction xs with
 |nil=>
  intro ys _ _ h;cases ys with
  |nil=>rfl
  |cons y ys=>exact absurd ((h y).2 (by simp)) (by simp)
 |cons x xs ih=>
  intro ys hx hy h;cases ys with
  |nil=>exact absurd ((h x).1 (by simp)) (by simp)
  |cons y ys=>
   have hx':=List.pairwise_cons.1 hx;have hy':=List.pairwise_cons.1 hy;have e:x=y:=by
    rcases List.mem_cons.1 ((h x).1 (by simp)) with h1|h1
    ·exact h1
    ·rcases List.mem_cons.1 ((h y).2 (by simp)) with h2|h2
     ·exact h2.symm
     ·have:=hy'.1 x h1;have:=hx'.1 y h2;omega
   subst e;rw[ih ys hx'.2 hy'.2 (fun z=>?_)];constructor
   ·intro hz;rcases List.mem_cons.1 ((h z).1 (List.mem_cons_of_mem _ hz)) with h1|h1
    ·have:=hx'.1 z hz;omega
    ·exact h1
   ·intro hz;rcases List.mem_cons.1 ((h z).2 (List.mem_cons_of_mem _ hz)) with h1|h1
    ·have:=hy'.1 z hz;omega
    ·exact h1
theorem getD_el {xs:List Int} {i:Nat} (h:i<xs.length):xs.getD i 0=xs[i]:=by simp[List.getD,h]
theorem SerP.asc {xs:List Int} (h:SerP xs):Asc xs:=by
 have q:∀ d i,i+d+1<xs.length→xs.getD i 0<xs.getD (i+d+1) 0:=by
  intro d
  induction d with
  |zero=>intro i hi;exact(h (i+0+1) hi).2.2 (by omega)
  |succ d ih=>
   intro i hi;have h1:=ih i (by omega);have h2:=(h (i+(d+1)+1) hi).2.2 (by omega);rw[show i+(d+1)+1-1=i+d+1 by omega] at h2;omega
 refine List.pairwise_iff_getElem.2 (fun i j hi hj hij=>?_);have:=q (j-i-1) i (by omega);rw[show i+(j-i-1)+1=j by omega,getD_el hi,getD_el hj] at this;exact this
theorem SerP.range {xs:List Int} (h:SerP xs) {z:Int} (hz:z∈xs):0≤z∧z<256:=by
 obtain⟨i,hi,rfl⟩:=List.getElem_of_mem hz;have:=h i hi;unfold okI at this;rw[getD_el hi] at this;exact⟨this.1,this.2.1⟩
theorem SerP.of_asc {xs:List Int} (h:Asc xs) (hr:∀ z∈xs,0≤z∧z<256):SerP xs:=by
 intro i hi;have:=hr _ (List.getElem_mem hi);refine⟨by rw[getD_el hi];exact this.1,by rw[getD_el hi];exact this.2,fun h0=>?_⟩;rw[getD_el hi,getD_el (by omega:i-1<xs.length)];exact List.pairwise_iff_getElem.1 h (i-1) i (by omega) hi (by omega)
def upTo (P:Nat→Bool) (k:Nat):List Int:=((List.range k).filter P).map Int.ofNat
theorem upTo_succ (P:Nat→Bool) (k:Nat):upTo P (k+1)=if P k=true then upTo P k++[(k:Int)] else upTo P k:=by
 unfold upTo;rw[List.range_succ,List.filter_append,List.map_append];by_cases h:P k=true
 ·rw[if_pos h];simp[h]
 ·rw[if_neg h];simp[h]
theorem upTo_mem {P:Nat→Bool} {k:Nat} {z:Int}:z∈upTo P k↔∃ v:Nat,v<k∧P v=true∧z=v:=by
 unfold upTo;simp only[List.mem_map,List.mem_filter,List.mem_range];constructor
 ·rintro⟨v,⟨h1,h2⟩,rfl⟩;exact⟨v,h1,h2,rfl⟩
 ·rintro⟨v,h1,h2,rfl⟩;exact⟨v,⟨h1,h2⟩,rfl⟩
theorem upTo_asc (P:Nat→Bool) (k:Nat):Asc (upTo P k):=by
 induction k with
 |zero=>exact List.Pairwise.nil
 |succ k ih=>
  rw[upTo_succ];split
  ·refine List.pairwise_append.2 ⟨ih,List.pairwise_singleton _ _,fun a ha b hb=>?_⟩;obtain⟨v,hv,_,rfl⟩:=upTo_mem.1 ha;rw[List.mem_singleton.1 hb];omega
  ·exact ih
theorem upTo_len (P:Nat→Bool) (k:Nat):(upTo P k).length≤k:=by
 unfold upTo;rw[List.length_map];exact Nat.le_trans (List.length_filter_le _ _) (by rw[List.length_range];exact Nat.le_refl _)
theorem upTo_ser (P:Nat→Bool):SerP (upTo P 256):=SerP.of_asc (upTo_asc P 256) (fun z hz=>by
 obtain⟨v,hv,_,rfl⟩:=upTo_mem.1 hz;omega)
theorem SerP.eq_upTo {xs:List Int} (h:SerP xs) (P:Nat→Bool) (hP:∀ v,v<256→(P v=true↔(v:Int)∈xs)):upTo P 256=xs:=by
 refine asc_ext _ _ (upTo_asc P 256) h.asc (fun z=>?_);rw[upTo_mem];constructor
 ·rintro⟨v,hv,hp,rfl⟩;exact(hP v hv).1 hp
 ·intro hz;have hr:=h.range hz;obtain⟨v,rfl⟩:=Int.eq_ofNat_of_zero_le hr.1;exact⟨v,by omega,(hP v (by omega)).2 hz,rfl⟩
def pop8 (x:Nat):Nat:=((List.range 8).filter (fun j=>x/2^j%2 == 1)).length
def popS (bs:List Int) (k:Nat):Nat:=((List.range k).map (fun i=>pop8 (bs.getD i 0).toNat)).sum
theorem popS_succ (bs:List Int) (k:Nat):popS bs (k+1)=popS bs k+pop8 (bs.getD k 0).toNat:=by
 unfold popS;rw[List.range_succ,List.map_append,List.sum_append];simp
theorem upTo_add (P:Nat→Bool) (k n:Nat):(upTo P (k+n)).length=(upTo P k).length+((List.range n).filter (fun j=>P (k+j))).length:=by
 induction n with
 |zero=>simp
 |succ n ih=>
  rw[←Nat.add_assoc,upTo_succ,List.range_succ,List.filter_append,List.length_append,←Nat.add_assoc,←ih];by_cases h:P (k+n)=true
  ·rw[if_pos h];simp[h]
  ·rw[if_neg h];simp[h]
theorem popS_upTo {bs:List Int} {Q:Nat→Prop} (hs:SetB bs Q) (P:Nat→Bool) (hP:∀ v,v<256→(P v=true↔Q v)) (k:Nat) (hk:k≤32):popS bs k=(upTo P (k*8)).length:=by
 induction k with
 |zero=>rfl
 |succ k ih=>
  rw[popS_succ,ih (by omega),show(k+1)*8=k*8+8 by omega,upTo_add]
  congr 1
  unfold pop8
  congr 1
  refine List.filter_congr (fun j hj=>?_);have hj':=List.mem_range.1 hj;have h3:=hs.2.2 (k*8+j) (by omega);rw[show(k*8+j)/8=k by omega,show(k*8+j)%8=j by omega] at h3;have h0:=(hs.2.1.get k).1;obtain⟨x,hx⟩:=Int.eq_ofNat_of_zero_le h0;rw[hx] at h3;rw[hx,Int.toNat_natCast];have e:((x:Int)/2^j%2=1)↔(x/2^j%2=1):=by
   rw[show((2:Int)^j)=((2^j:Nat):Int) by simp,←Int.natCast_ediv];omega
  rw[e] at h3;have:=h3.trans (hP (k*8+j) (by omega)).symm;by_cases hp:P (k*8+j)=true
  ·rw[hp];simpa using this.2 hp
  ·have h4:¬ (x/2^j%2=1):=fun h=>hp (this.1 h)
   rw[Bool.not_eq_true] at hp;rw[hp];simpa using h4
theorem pop_len {bs D:List Int} (hs:SetB bs (fun v=>(v:Int)∈D)) (hD:SerP D):popS bs 32=D.length:=by
 have h:=popS_upTo hs (fun v=>decide ((v:Int)∈D)) (fun v _=>by simp) 32 (by omega);rw[h,hD.eq_upTo _ (fun v _=>by simp)]
theorem without_ser {D:List Int} (hD:SerP D) (x:Int):SerP (D.filter (fun z=>z != x)):=
 SerP.of_asc (List.Pairwise.filter _ hD.asc) (fun z hz=>hD.range (List.mem_filter.1 hz).1)
end Go.Proofs.YtjdhhgaelgemcaaGreatDoor
namespace Go.Proofs.YtjdhhgaelgemcaaGreatDoor
open Go.ChangeShapes Go.WideShapes Go.ChangeAt Go.RowKit
set_option linter.unusedVariables false
theorem wp_appI (w:World) {o:Oper} {a:Act} {K:Act→World→Prop} {Q:Exit→Act→World→Prop} {k:IntKind} {t s:TypeId} {by':Nat} (hk:KT k t s by')
  (sx x:Operand) (hop:o.op=Op.call { callee:=Callee.builtin Builtin.append,args:=#[sx,x],argTypes:=#[s,s] })
  (B:Nat) (v:Value) (xs:List Int) (hs:a.eval sx=v) (hown:OwnK k t w B v xs) (ad:Addr) (m c:Nat) (news:List Int) (hx:a.eval x=.slice (some ad) m c) (hl:news.length=m)
  (hnews:∀ j,j<m→w.cell? (ad.add j)=some (.int k (news.getD j 0))) (hb:xs.length+m≤1099511627776) (hB:B≤w.heap.size)
  (hK:∀ v' w',OwnK k t w' B v' (xs++news)→Below B w w'→K (a.put o.dst v') w') :
  o.wp Tryz.prog a w K Q:=by
 obtain⟨i0,hi,hz0,hz1,hz2⟩:=info_parts hk.info;have hbase:=hown.base;have hp:=hk.pos;have hle:=hk.le;refine wp_append_own w sx x s hop B t i0 (.int k 0) 1 by' hk.und hi hz0 hz1 hz2 rfl (by omega) v xs.length _ hs hown.1 ad m c (news.map (Value.int k)) hx (by simp[hl]) ?_ (ints_oneCell _ _) (by unfold maxLen;omega) ?_ hB ?_
 ·intro j u hu;have hj:j<news.length:=by have:=(List.getElem?_eq_some_iff.1 hu).1;simpa using this
  rw[hnews j (by omega)];simp[hj] at hu;simp[hj,hu]
 ·have:=Nat.mul_le_mul hb hle;omega
 ·intro v' w' h1 h2 h3;obtain⟨g,c0,hv,hBg,_,_⟩:=hbase;have hbel:Below B w w':=(Below.refl _ _).grown h2 hB (fun k hk=>by rw[hv] at hk;simp[Value.ownBlock] at hk;omega);refine hK v' w' ⟨?_,?_⟩ hbel
  ·rw[List.map_append,List.length_append,hl];exact h1
  ·rcases h1.2 with⟨h',_⟩|⟨g',c',cur,h',_⟩
   ·exact absurd (h3.1 h').1 (by rw[hv];simp)
   ·exact⟨g',c',by rw[h',List.length_append,hl]⟩
def GAd (B:Nat) (u va vb:Value) (pa pb:Addr) (k:Nat) (x y s:Int) (zs:List Int):Nat→(Nat→Bool)→World→Value→Prop
 |0,_,_,v=>v=u
 |1,_,_,v=>v=va
 |2,_,_,v=>v=.int .i64 k
 |3,_,_,v=>v=.pointer (some pa)
 |4,_,_,v=>v=.int .i64 x
 |5,_,_,v=>v=vb
 |6,_,_,v=>v=.int .i64 k
 |7,_,_,v=>v=.pointer (some pb)
 |8,_,_,v=>v=.int .i64 y
 |9,_,_,v=>v=.int .i64 s
 |10,L,w,v=>L 11=false→∃ g',v=.slice (some ⟨g',0,none⟩) 1 1∧g'<w.heap.size∧w.cell? ⟨g',0,none⟩=some (.int .i64 s)
 |11,_,w,v=>OwnI w B v (zs++[s])
 |_,_,_,_=>True
theorem GAd_stab (B:Nat) (u va vb:Value) (pa pb:Addr) (k:Nat) (x y s:Int) (zs:List Int) (j:Nat) (L:Nat→Bool) (w w':World) (i:Nat) (v:Value) (hm:i≠11→Below w.heap.size w w') (hij:i≠j) (hL:L i=false) (h:GAd B u va vb pa pb k x y s zs j L w v) :
  GAd B u va vb pa pb k x y s zs j (updK L i) w' v:=by
 unfold GAd at *;split at h<;>try exact h
 ·intro h14;have hi:i≠11:=fun e=>by subst e;simp[updK] at h14
  have hL14:L 11=false:=by simpa[updK,Ne.symm hi] using h14
  obtain⟨g',e,hg,c0⟩:=h hL14;have hb:=hm hi;exact⟨g',e,by have:=hb.size;omega,by rw[hb.cell (p:=⟨g',0,none⟩) hg];exact c0⟩
 ·exact h.grow (hm (fun e=>hij e))
def addF (xs ys:List Int):List Int:=(List.range 16).map fun i=>xs.getD i 0+ys.getD i 0
theorem addF_len (xs ys:List Int):(addF xs ys).length=16:=by simp[addF]
theorem addF_bd {xs ys:List Int} (hx:R xs) (hy:R ys):Bd 131400 (addF xs ys):=by
 intro i;by_cases h:i<16
 ·rw[show(addF xs ys).getD i 0=_ from rget _ i h];have:=hx.2 i;have:=hy.2 i;omega
 ·rw[getD_past (by rw[addF_len];omega)];omega
theorem addF_fv {xs ys:List Int} (hx:R xs) (hy:R ys):fv (addF xs ys)=(fv xs+fv ys)%fp:=by
 unfold fv addF;have e:=val_lin 65536 (fun i=>xs.getD i 0) (fun i=>ys.getD i 0) 16 (1);rw[show(fun i=>xs.getD i 0+ys.getD i 0)=fun i=>xs.getD i 0+1*ys.getD i 0 from by funext i;omega,e,←val_eq_range 65536 xs 16 hx.1,←val_eq_range 65536 ys 16 hy.1];rw[←Int.add_emod]
 congr 1;omega
set_option maxHeartbeats 2000000 in
theorem fadd_any (a a':Option Addr) (cap cap':Nat) (x y:Int) (w:World) (ha:FeA w a x) (ha':FeA w a' y) :
  Calls Tryz.prog 99 #[.slice a 16 cap,.slice a' 16 cap'] w (FeP w ((x+y)%fp)):=by
 obtain⟨xs,hA,hR,rfl⟩:=ha;obtain⟨ys,hA',hR',rfl⟩:=ha';obtain⟨b0,off,rfl,hb0,hc⟩:=hA.get (by have:=hR.1;omega);obtain⟨b1,off',rfl,hb1,hc'⟩:=hA'.get (by have:=hR'.1;omega);obtain⟨t1,t2⟩:=one_R (addF_len xs ys) (addF_bd hR hR');have HT:Hid (R (carryL (addF xs ys))∧fv (carryL (addF xs ys))=(fv xs+fv ys)%fp):=⟨t1,by rw[t2,addF_fv hR hR']⟩
 have HB1:Hid (Bd 131400 (addF xs ys)):=addF_bd hR hR';have HC:Hid (∀ i,i<16→w.cell? ⟨b0,off+i,none⟩=some (.int .i64 (xs.getD i 0))):=fun i hi=>hc i (by have:=hR.1;omega)
 have HC':Hid (∀ i,i<16→w.cell? ⟨b1,off'+i,none⟩=some (.int .i64 (ys.getD i 0))):=fun i hi=>hc' i (by have:=hR'.1;omega)
 have HR:Hid (R xs∧R ys):=⟨hR,hR'⟩
 clear t1 t2 hc hc' hA hA' hR hR';go_enter Tryz.func99,Tryz.ntmps99;go_wp2
 go_loopw [5,6] (fun v i wr=>∃ k:Nat,k≤16∧i=.int .i64 k∧OwnI wr w.heap.size v ((addF xs ys).take k)∧Below w.heap.size w wr) (fun _ i _=>16-(intOf i).toNat)
 case atStart=>exact⟨0,by decide,rfl,OwnK.empty _ _ (Nat.le_refl _),(Below.refl _ _).alloc (Nat.le_refl _) _⟩
 case round=>
  obtain⟨k,hk,rfl,hown,hbel⟩:=hrel;by_cases hlt:k<16
  ·have hlt':(k:Int)<16:=by omega
   have HO:Hid (OwnI wr w.heap.size u5 ((addF xs ys).take k)):=hown;have HBE:Hid (Below w.heap.size w wr):=hbel;have hx:=(HR.out.1).2 k;have hy:=(HR.out.2).2 k;obtain⟨x0,x1⟩:=hx;obtain⟨y0,y1⟩:=hy;have HTK:Hid ((addF xs ys).take (k+1)=(addF xs ys).take k++[xs.getD k 0+ys.getD k 0]):=by
    show _=_
    have e:(addF xs ys).getD k 0=xs.getD k 0+ys.getD k 0:=rget _ k hlt;rw[←e,List.take_succ_eq_append_getElem (by rw[addF_len];exact hlt),List.getD_eq_getElem?_getD,List.getElem?_eq_getElem (by rw[addF_len];exact hlt)];rfl
   have HTL:Hid (((addF xs ys).take k).length=k):=by show _=_;rw[List.length_take,addF_len];omega
   have HCX:Hid (w.cell? ⟨b0,off+k,none⟩=some (.int .i64 (xs.getD k 0))):=HC.out k hlt;have HCY:Hid (w.cell? ⟨b1,off'+k,none⟩=some (.int .i64 (ys.getD k 0))):=HC'.out k hlt;have hsz:=hbel.size;clear hown hbel;generalize (addF xs ys).take k=zs at *;generalize xs.getD k 0=x at *;generalize ys.getD k 0=y at *;have HWR:Hid (IntKind.i64.wrap (x+y)=x+y):=by show _=_;rw[IntKind.wrap_i64];omega
   go_wp2;refine wp_region_any (by kernel_rfl) ?_;refine wpAny_slotsK 12 (fun i w w'=>i≠11→Below w.heap.size w w') (frame:=(fun (a b c d e f g h i j k l m n:Value)=>fun (t:Nat→Value)=>({ tmps:=List.toArray [a,b,c,d,e,f,g,h,i,j,k,l,t 0,t 1,t 2,t 3,t 4,t 5,t 6,t 7,t 8,t 9,t 10,t 11,m,n],defers:=[] }:Act)) _ _ _ _ _ _ _ _ _ _ _ _ _ _)
    (Ext:=fun L w'=>(L 11=false→Below wr.heap.size wr w')∧Below w.heap.size w w'∧wr.heap.size≤w'.heap.size)
    (Good:=GAd w.heap.size u5 (.slice (some ⟨b0,off,none⟩) 16 cap) (.slice (some ⟨b1,off',none⟩) 16 cap') ⟨b0,off+k,none⟩ ⟨b1,off'+k,none⟩ k x y (x+y) zs) (by rfl) (by kernel_rfl) (GAd_stab _ _ _ _ _ _ _ _ _ _ _) (by kernel_rfl) (by kernel_rfl) ?hop ?hend _ _ ((fun (x0 x1 x2 x3 x4 x5 x6 x7 x8 x9 x10 x11:Value)=>fun (i:Nat)=>if i=0 then x0 else if i=1 then x1 else if i=2 then x2 else if i=3 then x3 else if i=4 then x4 else if i=5 then x5 else if i=6 then x6 else if i=7 then x7 else if i=8 then x8 else if i=9 then x9 else if i=10 then x10 else if i=11 then x11 else undef) _ _ _ _ _ _ _ _ _ _ _ _) _ (by simp) (by simp) ?ext ?start (by simp)
   case start=>intro i hi h;exact absurd h (by rw[Array.getD_eq_getD_getElem?,Array.getElem?_replicate];split<;>simp)
   case ext=>exact⟨fun _=>(Below.refl _ _).drew,⟨HBE.out.os,HBE.out.tape,HBE.out.output,HBE.out.size,HBE.out.block⟩,Nat.le_refl _⟩
   case hop=>
    intro i o L t w' hil ho hLi hx hdep K hK;obtain⟨hx14,hxB,hxS⟩:=hx;have cX:w'.cell? ⟨b0,off+k,none⟩=some (.int .i64 x):=by rw[hxB.cell (p:=⟨b0,off+k,none⟩) hb0];exact HCX.out
    have cY:w'.cell? ⟨b1,off'+k,none⟩=some (.int .i64 y):=by rw[hxB.cell (p:=⟨b1,off'+k,none⟩) hb1];exact HCY.out
    have RX:Hid (∀ j,j≠11→∀ ww,Below w'.heap.size w' ww→((updK L j 11=false→Below wr.heap.size wr ww)∧Below w.heap.size w ww∧wr.heap.size≤ww.heap.size)):=fun j hj ww hb=>
     ⟨fun hL=>(hx14 (by simpa[updK,Ne.symm hj] using hL)).trans (hb.mono hxS),hxB.trans (hb.mono hxB.size),by have:=hb.size;omega⟩
    have RR:Hid (∀ j,j≠11→((updK L j 11=false→Below wr.heap.size wr w')∧Below w.heap.size w w'∧wr.heap.size≤w'.heap.size)):=fun j hj=>RX.out j hj w' (Below.refl _ _)
    have RM:Hid (∀ j:Nat,j≠11→Below w'.heap.size w' w'):=fun _ _=>Below.refl _ _
    have H14:Hid (L 11=false→Below wr.heap.size wr w'):=hx14;have HXB:Hid (Below w.heap.size w w'):=hxB;clear hx14 hxB;obtain rfl|rfl|rfl|rfl|rfl|rfl|rfl|rfl|rfl|rfl|rfl|rfl:i=0∨i=1∨i=2∨i=3∨i=4∨i=5∨i=6∨i=7∨i=8∨i=9∨i=10∨i=11:=by omega
    all_goals(simp at ho;subst ho)
    ·clear hdep;go_simp;exact hK w' u5 rfl (RR.out 0 (by decide)) (RM.out 0)
    ·clear hdep;go_simp;exact hK w' (.slice (some ⟨b0,off,none⟩) 16 cap) rfl (RR.out 1 (by decide)) (RM.out 1)
    ·clear hdep;go_simp;exact hK w' (.int .i64 k) rfl (RR.out 2 (by decide)) (RM.out 2)
    ·have d1:t 1=_:=hdep ⟨1,.data⟩ (by simp) rfl;have d2:t 2=_:=hdep ⟨2,.data⟩ (by simp) rfl;clear hdep;go_simp;simpa[upd,d1,d2] using hK w' (.pointer (some ⟨b0,off+k,none⟩)) rfl (RR.out 3 (by decide)) (RM.out 3)
    ·have d3:t 3=_:=hdep ⟨3,.data⟩ (by simp) rfl;clear hdep;go_simp;simpa[upd,d3] using hK w' (.int .i64 x) rfl (RR.out 4 (by decide)) (RM.out 4)
    ·clear hdep;go_simp;exact hK w' (.slice (some ⟨b1,off',none⟩) 16 cap') rfl (RR.out 5 (by decide)) (RM.out 5)
    ·clear hdep;go_simp;exact hK w' (.int .i64 k) rfl (RR.out 6 (by decide)) (RM.out 6)
    ·have d5:t 5=_:=hdep ⟨5,.data⟩ (by simp) rfl;have d6:t 6=_:=hdep ⟨6,.data⟩ (by simp) rfl;clear hdep;go_simp;simpa[upd,d5,d6] using hK w' (.pointer (some ⟨b1,off'+k,none⟩)) rfl (RR.out 7 (by decide)) (RM.out 7)
    ·have d7:t 7=_:=hdep ⟨7,.data⟩ (by simp) rfl;clear hdep;go_simp;simpa[upd,d7] using hK w' (.int .i64 y) rfl (RR.out 8 (by decide)) (RM.out 8)
    ·have d4:t 4=_:=hdep ⟨4,.data⟩ (by simp) rfl;have d8:t 8=_:=hdep ⟨8,.data⟩ (by simp) rfl;clear hdep;go_simp;simpa[upd,d4,d8,HWR.out] using hK w' (.int .i64 (x+y)) rfl (RR.out 9 (by decide)) (RM.out 9)
    ·have d9:t 9=_:=hdep ⟨9,.data⟩ (by simp) rfl;clear hdep;have hK':=hK (w'.alloc (.cells #[.int .i64 (x+y)] 2)) (.slice (some ⟨w'.heap.size,0,none⟩) 1 1) (fun _=>⟨w'.heap.size,rfl,by simp,cell_of_row _ _ _ _ _ _ (heap_alloc_new _ _)⟩) (RX.out 10 (by decide) _ (below_new3 _ _)) (fun _=>below_new3 _ _);clear hK;go_simp;simpa[upd,d9] using hK'
    ·have d0:t 0=_:=hdep ⟨0,.data⟩ (by simp) rfl;have d10:=hdep ⟨10,.data⟩ (by simp) rfl;obtain⟨g',e10,hg',cc0⟩:=d10 hLi;clear hdep d10;have hO:=HO.out.grow (H14.out hLi);refine wp_appI (a:=_) _ ktI _ _ rfl w.heap.size _ zs (by first|exact d0|(simp[d0];done)) hO ⟨g',0,none⟩ 1 1 [x+y] (by first|exact e10|(simp[e10];done)) rfl ?_ ?_ ?_ ?_
     ·intro j hj;obtain rfl:j=0:=by omega
      rw[Addr.add_lit];exact cc0
     ·rw[HTL.out];omega
     ·exact HXB.out.size
     ·intro v' w9 hown' hbel';exact hK w9 v' hown' ⟨fun h=>by simp[updK] at h,HXB.out.trans hbel',by have:=hbel'.size;have:=HXB.out.size;omega⟩ (fun h=>absurd rfl h)
   case hend=>
    intro o L t w' ho hx hg K hK;simp at ho;subst ho;obtain⟨hx14,hxB,hxS⟩:=hx;have O14:OwnI w' w.heap.size (t 11) (zs++[x+y]):=hg 11 (by decide);have HXB:Hid (Below w.heap.size w w'):=hxB;have HO14:Hid (OwnI w' w.heap.size (t 11) ((addF xs ys).take (k+1))):=by rw[HTK.out];exact O14
    clear hg O14 hx14 hxB hxS;go_simp;refine hK _ _ ?_;go_wp2;go_roundw
    case rel=>exact⟨k+1,by omega,by go_num,HO14.out,HXB.out⟩
    case measure=>simp[intOf];omega
  ·have hk16:k=16:=by omega
   have ho:OwnI wr w.heap.size u5 (addF xs ys):=by rw[hk16,List.take_of_length_le (by rw[addF_len];decide)] at hown;exact hown
   obtain⟨g,c,rfl,hg,hg',hA⟩:=ho.at_;rw[addF_len];clear ho hown;have hlt':¬ (k:Int)<16:=by omega
   go_wp2_with fail;refine(carry_any _ c (addF xs ys) _ (addF_len _ _) hA 131400 3 HB1.out (by decide) (by decide) (by decide) (by decide)).mono ?_;rintro e w2 h2;have HP:Hid (FeP w ((fv xs+fv ys)%fp) e w2):=by
    obtain⟨g2,c2,rfl,p1,p2,p3,p4⟩:=h2.fe HT.out.1 HT.out.2;exact⟨g2,c2,rfl,by have:=hbel.size;omega,p2,p3,hbel.trans (p4.mono hbel.size)⟩
   obtain⟨g2,c2,rfl,_⟩:=h2;clear hA hbel hk16;go_wp2
   go_ret
   exact HP.out
def subF (xs ys:List Int):List Int:=(List.range 16).map fun i=>xs.getD i 0-ys.getD i 0
theorem subF_len (xs ys:List Int):(subF xs ys).length=16:=by simp[subF]
theorem subF_bd {xs ys:List Int} (hx:R xs) (hy:R ys):Bd 131400 (subF xs ys):=by
 intro i;by_cases h:i<16
 ·rw[show(subF xs ys).getD i 0=_ from rget _ i h];have:=hx.2 i;have:=hy.2 i;omega
 ·rw[getD_past (by rw[subF_len];omega)];omega
theorem subF_fv {xs ys:List Int} (hx:R xs) (hy:R ys):fv (subF xs ys)=(fv xs-fv ys)%fp:=by
 unfold fv subF;have e:=val_lin 65536 (fun i=>xs.getD i 0) (fun i=>ys.getD i 0) 16 (-1);rw[show(fun i=>xs.getD i 0-ys.getD i 0)=fun i=>xs.getD i 0+-1*ys.getD i 0 from by funext i;omega,e,←val_eq_range 65536 xs 16 hx.1,←val_eq_range 65536 ys 16 hy.1];rw[←Int.sub_emod]
 congr 1;omega
set_option maxHeartbeats 2000000 in
theorem fsub_any (a a':Option Addr) (cap cap':Nat) (x y:Int) (w:World) (ha:FeA w a x) (ha':FeA w a' y) :
  Calls Tryz.prog 93 #[.slice a 16 cap,.slice a' 16 cap'] w (FeP w ((x-y)%fp)):=by
 obtain⟨xs,hA,hR,rfl⟩:=ha;obtain⟨ys,hA',hR',rfl⟩:=ha';obtain⟨b0,off,rfl,hb0,hc⟩:=hA.get (by have:=hR.1;omega);obtain⟨b1,off',rfl,hb1,hc'⟩:=hA'.get (by have:=hR'.1;omega);obtain⟨t1,t2⟩:=one_R (subF_len xs ys) (subF_bd hR hR');have HT:Hid (R (carryL (subF xs ys))∧fv (carryL (subF xs ys))=(fv xs-fv ys)%fp):=⟨t1,by rw[t2,subF_fv hR hR']⟩
 have HB1:Hid (Bd 131400 (subF xs ys)):=subF_bd hR hR';have HC:Hid (∀ i,i<16→w.cell? ⟨b0,off+i,none⟩=some (.int .i64 (xs.getD i 0))):=fun i hi=>hc i (by have:=hR.1;omega)
 have HC':Hid (∀ i,i<16→w.cell? ⟨b1,off'+i,none⟩=some (.int .i64 (ys.getD i 0))):=fun i hi=>hc' i (by have:=hR'.1;omega)
 have HR:Hid (R xs∧R ys):=⟨hR,hR'⟩
 clear t1 t2 hc hc' hA hA' hR hR';go_enter Tryz.func93,Tryz.ntmps93;go_wp2
 go_loopw [5,6] (fun v i wr=>∃ k:Nat,k≤16∧i=.int .i64 k∧OwnI wr w.heap.size v ((subF xs ys).take k)∧Below w.heap.size w wr) (fun _ i _=>16-(intOf i).toNat)
 case atStart=>exact⟨0,by decide,rfl,OwnK.empty _ _ (Nat.le_refl _),(Below.refl _ _).alloc (Nat.le_refl _) _⟩
 case round=>
  obtain⟨k,hk,rfl,hown,hbel⟩:=hrel;by_cases hlt:k<16
  ·have hlt':(k:Int)<16:=by omega
   have HO:Hid (OwnI wr w.heap.size u5 ((subF xs ys).take k)):=hown;have HBE:Hid (Below w.heap.size w wr):=hbel;have hx:=(HR.out.1).2 k;have hy:=(HR.out.2).2 k;obtain⟨x0,x1⟩:=hx;obtain⟨y0,y1⟩:=hy;have HTK:Hid ((subF xs ys).take (k+1)=(subF xs ys).take k++[xs.getD k 0-ys.getD k 0]):=by
    show _=_
    have e:(subF xs ys).getD k 0=xs.getD k 0-ys.getD k 0:=rget _ k hlt;rw[←e,List.take_succ_eq_append_getElem (by rw[subF_len];exact hlt),List.getD_eq_getElem?_getD,List.getElem?_eq_getElem (by rw[subF_len];exact hlt)];rfl
   have HTL:Hid (((subF xs ys).take k).length=k):=by show _=_;rw[List.length_take,subF_len];omega
   have HCX:Hid (w.cell? ⟨b0,off+k,none⟩=some (.int .i64 (xs.getD k 0))):=HC.out k hlt;have HCY:Hid (w.cell? ⟨b1,off'+k,none⟩=some (.int .i64 (ys.getD k 0))):=HC'.out k hlt;have hsz:=hbel.size;clear hown hbel;generalize (subF xs ys).take k=zs at *;generalize xs.getD k 0=x at *;generalize ys.getD k 0=y at *;have HWR:Hid (IntKind.i64.wrap (x-y)=x-y):=by show _=_;rw[IntKind.wrap_i64];omega
   go_wp2;refine wp_region_any (by kernel_rfl) ?_;refine wpAny_slotsK 12 (fun i w w'=>i≠11→Below w.heap.size w w') (frame:=(fun (a b c d e f g h i j k l m n:Value)=>fun (t:Nat→Value)=>({ tmps:=List.toArray [a,b,c,d,e,f,g,h,i,j,k,l,t 0,t 1,t 2,t 3,t 4,t 5,t 6,t 7,t 8,t 9,t 10,t 11,m,n],defers:=[] }:Act)) _ _ _ _ _ _ _ _ _ _ _ _ _ _)
    (Ext:=fun L w'=>(L 11=false→Below wr.heap.size wr w')∧Below w.heap.size w w'∧wr.heap.size≤w'.heap.size)
    (Good:=GAd w.heap.size u5 (.slice (some ⟨b0,off,none⟩) 16 cap) (.slice (some ⟨b1,off',none⟩) 16 cap') ⟨b0,off+k,none⟩ ⟨b1,off'+k,none⟩ k x y (x-y) zs) (by rfl) (by kernel_rfl) (GAd_stab _ _ _ _ _ _ _ _ _ _ _) (by kernel_rfl) (by kernel_rfl) ?hop ?hend _ _ ((fun (x0 x1 x2 x3 x4 x5 x6 x7 x8 x9 x10 x11:Value)=>fun (i:Nat)=>if i=0 then x0 else if i=1 then x1 else if i=2 then x2 else if i=3 then x3 else if i=4 then x4 else if i=5 then x5 else if i=6 then x6 else if i=7 then x7 else if i=8 then x8 else if i=9 then x9 else if i=10 then x10 else if i=11 then x11 else undef) _ _ _ _ _ _ _ _ _ _ _ _) _ (by simp) (by simp) ?ext ?start (by simp)
   case start=>intro i hi h;exact absurd h (by rw[Array.getD_eq_getD_getElem?,Array.getElem?_replicate];split<;>simp)
   case ext=>exact⟨fun _=>(Below.refl _ _).drew,⟨HBE.out.os,HBE.out.tape,HBE.out.output,HBE.out.size,HBE.out.block⟩,Nat.le_refl _⟩
   case hop=>
    intro i o L t w' hil ho hLi hx hdep K hK;obtain⟨hx14,hxB,hxS⟩:=hx;have cX:w'.cell? ⟨b0,off+k,none⟩=some (.int .i64 x):=by rw[hxB.cell (p:=⟨b0,off+k,none⟩) hb0];exact HCX.out
    have cY:w'.cell? ⟨b1,off'+k,none⟩=some (.int .i64 y):=by rw[hxB.cell (p:=⟨b1,off'+k,none⟩) hb1];exact HCY.out
    have RX:Hid (∀ j,j≠11→∀ ww,Below w'.heap.size w' ww→((updK L j 11=false→Below wr.heap.size wr ww)∧Below w.heap.size w ww∧wr.heap.size≤ww.heap.size)):=fun j hj ww hb=>
     ⟨fun hL=>(hx14 (by simpa[updK,Ne.symm hj] using hL)).trans (hb.mono hxS),hxB.trans (hb.mono hxB.size),by have:=hb.size;omega⟩
    have RR:Hid (∀ j,j≠11→((updK L j 11=false→Below wr.heap.size wr w')∧Below w.heap.size w w'∧wr.heap.size≤w'.heap.size)):=fun j hj=>RX.out j hj w' (Below.refl _ _)
    have RM:Hid (∀ j:Nat,j≠11→Below w'.heap.size w' w'):=fun _ _=>Below.refl _ _
    have H14:Hid (L 11=false→Below wr.heap.size wr w'):=hx14;have HXB:Hid (Below w.heap.size w w'):=hxB;clear hx14 hxB;obtain rfl|rfl|rfl|rfl|rfl|rfl|rfl|rfl|rfl|rfl|rfl|rfl:i=0∨i=1∨i=2∨i=3∨i=4∨i=5∨i=6∨i=7∨i=8∨i=9∨i=10∨i=11:=by omega
    all_goals(simp at ho;subst ho)
    ·clear hdep;go_simp;exact hK w' u5 rfl (RR.out 0 (by decide)) (RM.out 0)
    ·clear hdep;go_simp;exact hK w' (.slice (some ⟨b0,off,none⟩) 16 cap) rfl (RR.out 1 (by decide)) (RM.out 1)
    ·clear hdep;go_simp;exact hK w' (.int .i64 k) rfl (RR.out 2 (by decide)) (RM.out 2)
    ·have d1:t 1=_:=hdep ⟨1,.data⟩ (by simp) rfl;have d2:t 2=_:=hdep ⟨2,.data⟩ (by simp) rfl;clear hdep;go_simp;simpa[upd,d1,d2] using hK w' (.pointer (some ⟨b0,off+k,none⟩)) rfl (RR.out 3 (by decide)) (RM.out 3)
    ·have d3:t 3=_:=hdep ⟨3,.data⟩ (by simp) rfl;clear hdep;go_simp;simpa[upd,d3] using hK w' (.int .i64 x) rfl (RR.out 4 (by decide)) (RM.out 4)
    ·clear hdep;go_simp;exact hK w' (.slice (some ⟨b1,off',none⟩) 16 cap') rfl (RR.out 5 (by decide)) (RM.out 5)
    ·clear hdep;go_simp;exact hK w' (.int .i64 k) rfl (RR.out 6 (by decide)) (RM.out 6)
    ·have d5:t 5=_:=hdep ⟨5,.data⟩ (by simp) rfl;have d6:t 6=_:=hdep ⟨6,.data⟩ (by simp) rfl;clear hdep;go_simp;simpa[upd,d5,d6] using hK w' (.pointer (some ⟨b1,off'+k,none⟩)) rfl (RR.out 7 (by decide)) (RM.out 7)
    ·have d7:t 7=_:=hdep ⟨7,.data⟩ (by simp) rfl;clear hdep;go_simp;simpa[upd,d7] using hK w' (.int .i64 y) rfl (RR.out 8 (by decide)) (RM.out 8)
    ·have d4:t 4=_:=hdep ⟨4,.data⟩ (by simp) rfl;have d8:t 8=_:=hdep ⟨8,.data⟩ (by simp) rfl;clear hdep;go_simp;simpa[upd,d4,d8,HWR.out] using hK w' (.int .i64 (x-y)) rfl (RR.out 9 (by decide)) (RM.out 9)
    ·have d9:t 9=_:=hdep ⟨9,.data⟩ (by simp) rfl;clear hdep;have hK':=hK (w'.alloc (.cells #[.int .i64 (x-y)] 2)) (.slice (some ⟨w'.heap.size,0,none⟩) 1 1) (fun _=>⟨w'.heap.size,rfl,by simp,cell_of_row _ _ _ _ _ _ (heap_alloc_new _ _)⟩) (RX.out 10 (by decide) _ (below_new3 _ _)) (fun _=>below_new3 _ _);clear hK;go_simp;simpa[upd,d9] using hK'
    ·have d0:t 0=_:=hdep ⟨0,.data⟩ (by simp) rfl;have d10:=hdep ⟨10,.data⟩ (by simp) rfl;obtain⟨g',e10,hg',cc0⟩:=d10 hLi;clear hdep d10;have hO:=HO.out.grow (H14.out hLi);refine wp_appI (a:=_) _ ktI _ _ rfl w.heap.size _ zs (by first|exact d0|(simp[d0];done)) hO ⟨g',0,none⟩ 1 1 [x-y] (by first|exact e10|(simp[e10];done)) rfl ?_ ?_ ?_ ?_
     ·intro j hj;obtain rfl:j=0:=by omega
      rw[Addr.add_lit];exact cc0
     ·rw[HTL.out];omega
     ·exact HXB.out.size
     ·intro v' w9 hown' hbel';exact hK w9 v' hown' ⟨fun h=>by simp[updK] at h,HXB.out.trans hbel',by have:=hbel'.size;have:=HXB.out.size;omega⟩ (fun h=>absurd rfl h)
   case hend=>
    intro o L t w' ho hx hg K hK;simp at ho;subst ho;obtain⟨hx14,hxB,hxS⟩:=hx;have O14:OwnI w' w.heap.size (t 11) (zs++[x-y]):=hg 11 (by decide);have HXB:Hid (Below w.heap.size w w'):=hxB;have HO14:Hid (OwnI w' w.heap.size (t 11) ((subF xs ys).take (k+1))):=by rw[HTK.out];exact O14
    clear hg O14 hx14 hxB hxS;go_simp;refine hK _ _ ?_;go_wp2;go_roundw
    case rel=>exact⟨k+1,by omega,by go_num,HO14.out,HXB.out⟩
    case measure=>simp[intOf];omega
  ·have hk16:k=16:=by omega
   have ho:OwnI wr w.heap.size u5 (subF xs ys):=by rw[hk16,List.take_of_length_le (by rw[subF_len];decide)] at hown;exact hown
   obtain⟨g,c,rfl,hg,hg',hA⟩:=ho.at_;rw[subF_len];clear ho hown;have hlt':¬ (k:Int)<16:=by omega
   go_wp2_with fail;refine(carry_any _ c (subF xs ys) _ (subF_len _ _) hA 131400 3 HB1.out (by decide) (by decide) (by decide) (by decide)).mono ?_;rintro e w2 h2;have HP:Hid (FeP w ((fv xs-fv ys)%fp) e w2):=by
    obtain⟨g2,c2,rfl,p1,p2,p3,p4⟩:=h2.fe HT.out.1 HT.out.2;exact⟨g2,c2,rfl,by have:=hbel.size;omega,p2,p3,hbel.trans (p4.mono hbel.size)⟩
   obtain⟨g2,c2,rfl,_⟩:=h2;clear hA hbel hk16;go_wp2
   go_ret
   exact HP.out
def rts:List Nat:=[23241441160490167842,26604808713878332877,31543488660544240431,35287351959220771772,41025191555757552952,43374469216020582425,47431773444313272219,49223322299838333208,52460086356995146306,56674242196778545086,57948244932766773900,61468643694135456994,63608380943893236079,64626287408284341937,66571091106846937653,69291241975837173396,71813108563482594002,72615556083564357091,74922338351982630325,76384605279477341285,77095200552867529333,79152035218479047811,80466001307761769428,82360010132597855157,84757271453788200875,85906662539289440784,86470001012957192511,87575168524888248036,88117443448470540226,89182409882623190821,92723033081372705391,93686458245878541936,95095488024300105724,95556006044611561766,97794660939065469677,98230277650290947039,99514478923103560670,100766364611844223656,101583977345534766822,102786266195516601659,103961068102722061156,104346826991781163009,106234157551817627537,106603670640207904304,107335108066752287256,107697117917222381840,109819772810290077738,111863398698143437240,112528278492720320712,112857792170093030227,113511107980111571865,114477206417490790568,114795642568024087139,116361942610802215627,117281838038729876339,118187525164200278179,119079540232616391420,119373928427484032864,120248493880617511794,120824543361758411244,121110519679094562344,122520547622920568297,124441674862916172053,124979807718728684331,125247145020423037340,125778422408467759623,127603441353585912606,128369846764518166904,129627222056361226170,129875788766833580198,130370087684295691694,131104582549941012251,132071287192121802116,132787134709014930579,133495346155087314620,133963344184962190668,134659270149180113590,135576127461610847786,136029942151059536620,136928597060811708439,26087635650665564424,31950697969885030203,41248173712355948587,48805497317890012913,61180928696206656209,66510681623121259551,76057874264641092971,80407493254657745273]
def tab:List Nat:=rts.map (·%18446744073709551616)
theorem rts3:∀ t<80,rts.getD t 0^3≤prs0.getD (t+1) 0*2^(64*3)∧prs0.getD (t+1) 0*2^(64*3)<(rts.getD t 0+1)^3:=by decide +kernel
theorem rts2:∀ t<8,rts.getD (80+t) 0^2≤prs0.getD (t+1) 0*2^(64*2)∧prs0.getD (t+1) 0*2^(64*2)<(rts.getD (80+t) 0+1)^2:=by decide +kernel
theorem prs_le:∀ t<80,prs0.getD (t+1) 0≤409:=by decide +kernel
theorem prs_le8:∀ t<8,prs0.getD (t+1) 0<64:=by decide +kernel
theorem tab_get (t:Nat):tab.getD t 0=rts.getD t 0%18446744073709551616:=by
 simp only[tab,List.getD_eq_getElem?_getD,List.getElem?_map];cases rts[t]?<;>simp
theorem rootC_same {X R T e:Nat} (h1:X^e≤T) (h2:T<(X+1)^e) (h3:R^e≤T) (h4:T<(R+1)^e):X=R:=by
 rcases Nat.lt_trichotomy X R with h|h|h
 ·have:=Nat.pow_le_pow_left (show X+1≤R from h) e;omega
 ·exact h
 ·have:=Nat.pow_le_pow_left (show R+1≤X from h) e;omega
def rcT (t:Int):Int:=if 0≤t∧t<88 then(tab.getD t.toNat 0:Nat) else 0
theorem get3 (n:Nat) (hn:n<80):∃ p R:Nat,(∀ w,Calls Tryz.prog 119 #[.int .i64 n] w fun e w'=>e=.returned (.int .u64 p)∧w'=w)∧p≤409∧R^3≤p*2^(64*3)∧p*2^(64*3)<(R+1)^3∧rcT (n:Int)=(R:Int)%18446744073709551616:=by
 refine⟨prs0.getD (n+1) 0,rts.getD n 0,fun w=>prime_any n w hn,prs_le n hn,(rts3 n hn).1,(rts3 n hn).2,?_⟩;unfold rcT;rw[if_pos (by omega),Int.toNat_natCast,tab_get];exact Int.natCast_emod _ _
theorem get2 (n:Nat) (hn:n<8):∃ p R:Nat,(∀ w,Calls Tryz.prog 119 #[.int .i64 n] w fun e w'=>e=.returned (.int .u64 p)∧w'=w)∧p≤409∧p<64∧R^2≤p*2^(64*2)∧p*2^(64*2)<(R+1)^2∧rcT (80+(n:Int))=(R:Int)%18446744073709551616:=by
 refine⟨prs0.getD (n+1) 0,rts.getD (80+n) 0,fun w=>prime_any n w (by omega),prs_le n (by omega),prs_le8 n hn,(rts2 n hn).1,(rts2 n hn).2,?_⟩;unfold rcT;rw[if_pos (by omega),show(80+(n:Int)).toNat=80+n by omega,tab_get];exact Int.natCast_emod _ _
set_option maxHeartbeats 400000 in
theorem rcS_any (t:Int) (w:World) (h0:-9223372036854775808≤t) (h1:t≤9223372036854775807) :
  Calls Tryz.prog 95 #[.int .i64 t] w fun e w'=>e=.returned (.int .u64 (rcT t))∧Below w.heap.size w w':=by
 by_cases ha:0≤t
 ·by_cases hb:t<80
  ·obtain⟨n,rfl⟩:=Int.eq_ofNat_of_zero_le ha;obtain⟨p,R,hp,hp1,hp2,hp3,e⟩:=get3 n (by omega);generalize rcT (n:Int)=r at *;have HE:Hid (r=(R:Int)%18446744073709551616):=e;clear e;go_enter Tryz.func95,Tryz.ntmps95;go_wp2_with fail;refine(hp _).mono ?_;rintro e w1 ⟨rfl,rfl⟩;go_wp2_with fail;have A:=rootC_any p 3 w1 hp1 (.inr rfl);refine A.mono ?_;rintro e w2 ⟨X,rfl,x1,x2,B⟩;rw[rootC_same x1 x2 hp2 hp3,←HE.out];have HB:Hid (Below w1.heap.size w1 w2):=B;clear B x1 x2 A hp hp2 hp3 HE;go_wp2
   go_ret
   exact⟨rfl,HB.out⟩
  ·by_cases hc:t<88
   ·obtain⟨n,hn⟩:∃ n:Nat,t=80+(n:Int):=⟨(t-80).toNat,by omega⟩
    obtain⟨p,R,hp,hp1,hp4,hp2,hp3,e⟩:=get2 n (by omega);rw[←hn] at e;generalize rcT t=r at *;have HE:Hid (r=(R:Int)%18446744073709551616):=e;have HSUB:Hid (t-80=(n:Int)):=by show _=_;omega
    have hb':decide (t<80)=false:=by simpa using hb
    have ha':decide (0≤t)=true:=by simpa using ha
    have hg:80≤t:=by omega
    clear e hn;go_enter Tryz.func95,Tryz.ntmps95;go_wp2_with fail;rw[HSUB.out];refine(hp _).mono ?_;rintro e w1 ⟨rfl,rfl⟩;go_wp2_with fail;have A:=rootC_any p 2 w1 hp1 (.inl ⟨rfl,hp4⟩);refine A.mono ?_;rintro e w2 ⟨X,rfl,x1,x2,B⟩;rw[rootC_same x1 x2 hp2 hp3,←HE.out];have HB:Hid (Below w1.heap.size w1 w2):=B;clear B x1 x2 A hp hp2 hp3 HE;go_wp2
    go_ret
    exact⟨rfl,HB.out⟩
   ·have e:rcT t=0:=by unfold rcT;rw[if_neg (by omega)]
    rw[e];go_enter Tryz.func95,Tryz.ntmps95;go_wp2
    go_ret
    exact⟨rfl,Below.refl _ _⟩
 ·have e:rcT t=0:=by unfold rcT;rw[if_neg (by omega)]
  rw[e];have ha':decide (0≤t)=false:=by simpa using ha
  go_enter Tryz.func95,Tryz.ntmps95;go_wp2
  go_ret
  exact⟨rfl,Below.refl _ _⟩
def TabIn (w:World):Prop:=∀ i,i<88→w.cell? ⟨1,i,none⟩=some (.int .u64 (tab.getD i 0:Nat))
end Go.Proofs.YtjdhhgaelgemcaaGreatDoor
