import Derived.Test.YtncomnkdlpoelaaGreatDoorMCatF
import Derived.Test.YtncomnkdlpoelaaGreatDoorMDraw
import Derived.Test.YtncomnkdlpoelaaGreatDoorMSLess
import Derived.Test.YtncomnkdlpoelaaGreatDoorMBase
import Derived.Test.YtncomnkdlpoelaaGreatDoorMIDd
import Derived.Deep.Cut
namespace Go.Proofs.YtncomnkdlpoelaaGreatDoor
open Go.ChangeShapes Go.WideShapes Go.ChangeAt Go.RowKit
set_option linter.unusedVariables false
set_option maxHeartbeats 400000 in
theorem cat_any (p m cap:Nat) (vs:List Value) (zss:List (List Int)) (w:World) (hm:zss.length=m) (hp:p<w.heap.size) (hc:∀ i,i<m→w.cell? ⟨p,i,none⟩=some (vs.getD i undef))
  (hz:∀ i,i<m→Part w (vs.getD i undef) (zss.getD i [])) (ht:zss.flatten.length≤2097152) (hm':m≤1048576) :
  Calls Tryz.prog 63 #[.slice (some ⟨p,0,none⟩) m cap] w fun e w'=>∃ v,e=.returned v∧Own w' w.heap.size v zss.flatten∧Below w.heap.size w w':=by
 go_enter Tryz.func63,Tryz.ntmps63;go_wp2
 go_loopw [3,4] (fun v i wr=>∃ k:Nat,k≤m∧i=.int .i64 k∧Own wr w.heap.size v (zss.take k).flatten∧Below w.heap.size w wr) (fun _ i _=>m-(intOf i).toNat)
 case atStart=>exact⟨0,Nat.zero_le _,rfl,Own.empty _ _ (Nat.le_refl _),(Below.refl _ _).alloc (Nat.le_refl _) _⟩
 case round=>
  obtain⟨k,hk,rfl,hown,hbel⟩:=hrel;by_cases hlt:k<m
  ·have hsz:=hbel.size;obtain⟨b,o,c,hv,hb,hcell⟩:=hz k hlt;have hck:wr.cell? ⟨p,k,none⟩=some (.slice (some ⟨b,o,none⟩) (zss.getD k []).length c):=by rw[hbel.cell (p:=⟨p,k,none⟩) hp,hc k hlt,hv]
   have hnews:∀ j,j<(zss.getD k []).length→wr.cell? ((⟨b,o,none⟩:Addr).add j)=some (.int .u8 ((zss.getD k []).getD j 0)):=by
    intro j hj;rw[Addr.add_lit,hbel.cell (p:=⟨b,o+j,none⟩) hb];exact hcell j hj
   have hfl:=flat_snoc zss k (by omega);have hle:=flat_le zss (k+1);have hle2:(zss.take k).flatten.length+(zss.getD k []).length≤2097152:=by rw[hfl,List.length_append] at hle;omega
   have HF:Hid _:=hfl;clear hfl hle hv hcell hc hz;generalize zss.getD k []=z at *;generalize (zss.take k).flatten=y at *;generalize hzl:z.length=zl at *;have HL:Hid _:=hzl;clear hzl;have HN:Hid _:=hnews;clear hnews;go_wp2_with (at_builtin;refine wpList_app _ rfl _ _ rfl w.heap.size _ _ rfl hown ⟨b,o,none⟩ _ _ z rfl HL.out HN.out ?c2 ?c3 ?_)
   case c2=>omega
   case c3=>omega
   intro v' w1 hown' hbel' _;have HO:Hid (Own w1 w.heap.size v' (zss.take (k+1)).flatten):=by rw[HF.out];exact hown'
   have HB:=hdI <| hbel.trans hbel'
   clear hown hown' hbel hbel';go_wp2;go_roundw
   case rel=>exact⟨k+1,by omega,by go_num,HO.out,HB.out⟩
   case measure=>simp[intOf];omega
  ·have hkn:zss.take k=zss:=List.take_of_length_le (by omega);rw[hkn] at hown;have HO:Hid _:=hown;clear hown hkn;go_wp2
   go_ret
   exact⟨_,rfl,HO.out,hbel⟩
theorem WrG.bel {g:Nat} {w wr w':World} (h:WrG g w wr) (hb:Below w.heap.size wr w'):WrG g w w':=
 ⟨hb.os.trans h.os,hb.tape.trans h.tape,hb.output.trans h.output,Nat.le_trans h.size hb.size,fun k hk hg=>(hb.block k hk).trans (h.block k hk hg)⟩
theorem CurB.keepE {w w':World} {g:Nat} {x:Option Addr} {n cap:Nat} (h:CurB w g x n cap) (hb:w'.heap[g]?=w.heap[g]?):CurB w' g x n cap:=by
 obtain⟨i0,h0,p1,p2,p3,p4,p5⟩:=h;exact⟨i0,h0,p1,p2,p3,p4,by rw[hb];exact p5⟩
theorem Own.keepE {w w':World} {B:Nat} {v:Value} {zs:List Int} (h:Own w B v zs) (hk:∀ k,B≤k→k<w.heap.size→w'.heap[k]?=w.heap[k]?):Own w' B v zs:=by
 refine⟨⟨h.1.1,?_⟩,h.2⟩;rcases h.1.2 with h'|⟨g',c',cur,h',hBg,hh,r⟩
 ·exact .inl h'
 ·exact .inr ⟨g',c',cur,h',hBg,by rw[hk g' hBg (Array.getElem?_eq_some_iff.1 hh).1];exact hh,r⟩
theorem Own.monoE {w:World} {B B':Nat} {v:Value} {zs:List Int} (h:Own w B v zs) (hB:B'≤B):Own w B' v zs:=by
 refine⟨⟨h.1.1,?_⟩,h.2⟩;rcases h.1.2 with h'|⟨g',c',cur,h',hBg,hh,r⟩
 ·exact .inl h'
 ·exact .inr ⟨g',c',cur,h',Nat.le_trans hB hBg,hh,r⟩
theorem byte_app1 {zs:List Int} (hz:Byte zs) {x:Int} (hx:0≤x∧x<256):Byte (zs++[x]):=fun v hv=>by
 rcases List.mem_append.1 hv with h|h
 ·exact hz v h
 ·rw[List.mem_singleton] at h;rw[h];exact hx
theorem hid_ofE {p:Prop} (h:p):Hid p:=h
theorem Own.setE {w:World} {B g c n:Nat} {zs:List Int} (hn:zs.length=n) (h:Own w B (.slice (some ⟨g,0,none⟩) n c) zs) (i:Nat) (x:Int) (hi:i<n) :
  w.cell? ⟨g,i,none⟩=some (.int .u8 (zs.getD i 0))∧w.frozen? ⟨g,i,none⟩=false∧Own (w.setCell ⟨g,i,none⟩ (.int .u8 x)) B (.slice (some ⟨g,0,none⟩) n c) (zs.set i x):=by
 subst hn;refine⟨?_,h.1.frozenAt i,?_,?_⟩
 ·rw[h.1.cellAt i (by omega)];simp[hi]
 ·have:=(h.1.stored i (.int .u8 x)).1;rw[←List.map_set] at this;rw[List.length_set];exact this
 ·rw[List.length_set];exact⟨_,_,rfl⟩
theorem byte_setE {zs:List Int} (hz:Byte zs) (i:Nat) {y:Int} (hy:0≤y∧y<256):Byte (zs.set i y):=fun v hv=>by
 rcases List.mem_or_eq_of_mem_set hv with h|h
 ·exact hz v h
 ·rw[h];exact hy
theorem below_setE {w:World} {B q i:Nat} {v:Value} (h:B≤q):Below B w (w.setCell ⟨q,i,none⟩ v):=
 ⟨rfl,rfl,rfl,by simp only[World.setCell,Array.size_modify];exact Nat.le_refl _,fun k hk=>heap_setCell_other _ _ _ _ (by show k≠q;omega)⟩
theorem getD_byteE {zs:List Int} (hz:Byte zs) (i:Nat):0≤zs.getD i 0∧zs.getD i 0<256:=by
 by_cases h:i<zs.length
 ·rw[show zs.getD i 0=zs[i] from by simp[h]];exact hz _ (List.getElem_mem h)
 ·rw[show zs.getD i 0=0 from by simp[h]];decide
set_option maxHeartbeats 1000000 in
theorem scOf_any (x:Int) (w:World) (hx0:0≤x) (hx1:x≤1000) :
  Calls Tryz.prog 37 #[.int .i64 x] w (fun e w'=>∃ v zs,e=.returned v∧Own w' w.heap.size v zs∧Byte zs∧zs.length=32∧val 256 zs=x∧Below w.heap.size w w'):=by
 go_enter Tryz.func37,Tryz.ntmps37;go_wp2
 go_loopw [3] (fun v wr=>∃ k:Nat,k≤30∧Own wr w.heap.size v ([x%256,x/256%256]++List.replicate k 0)∧Below w.heap.size w wr) (fun v _=>match v with|.slice _ n _=>32-n|_=>0)
 case atStart=>exact⟨0,by omega,Own.lit w _ [x%256,x/256%256] (Nat.le_refl _) (by simp),(Below.refl _ _).alloc (Nat.le_refl _) _⟩
 case round=>
  obtain⟨k,hk,hown,hbel⟩:=hrel;obtain⟨gq,c,rfl,hq1,hq2,hq3⟩:=hown.base;have hlen:([x%256,x/256%256]++List.replicate k 0).length=k+2:=by simp
  rw[hlen] at hown ⊢;have hsz:=hbel.size;by_cases hlt:k<30
  ·have hlt':((k+2:Nat):Int)<32:=by omega
   go_wp2_with (at_builtin;refine wpList_app _ rfl _ _ rfl w.heap.size _ _ rfl (hown.alloc _) ⟨wr.heap.size,0,none⟩ 1 1 [0] rfl rfl ?c1 ?c2 ?c3 ?_);all_goals first|(intro j hj;obtain rfl:j=0:=by omega
                                                                                                                                                                     simp[Addr.add];done)|skip
   case c2=>simp;omega
   case c3=>first|omega|(rw[World.size_alloc];omega)
   intro v' w1 hown' hbel' _;have HO:Hid (Own w1 w.heap.size v' ([x%256,x/256%256]++List.replicate (k+1) 0)):=by rw[List.replicate_succ',←List.append_assoc];exact hown'
   have HB:Hid (Below w.heap.size w w1):=(hbel.alloc (by omega) _).trans hbel';clear hown hown' hbel hbel';go_wp2;go_roundw
   case rel=>exact⟨k+1,by omega,HO.out,HB.out⟩
   case measure=>
    obtain⟨gq',c',rfl,_⟩:=HO.out.base;simp;omega
  ·have hkn:k=30:=by omega
   subst hkn;go_wp2
   go_ret
   refine⟨_,_,rfl,hown,?_,rfl,?_,hbel⟩
   ·intro v hv;rcases List.mem_append.1 hv with h|h
    ·simp at h;omega
    ·rw[List.mem_replicate] at h;omega
   ·rw[show(30:Nat)=30 from rfl];simp[val,List.replicate];omega
section
variable {P:Program} {ops:Array Oper} {Q:Exit→Act→World→Prop} {md:Region.Mode}
theorem wpAny_slots9 (M:Nat→World→World→Prop) (frame:(Nat→Value)→Act) (Ext:(Nat→Bool)→(Nat→Value)→World→Prop) (Good:Nat→(Nat→Bool)→World→Value→Prop)
  (hstab:∀ j L w w' i v,M i w w'→i≠j→L i=false→Good j L w v→Good j (updK L i) w' v)
  (hback:(List.range ops.size).all (fun i=>((ops[i]?).map (fun o=>o.after.all (fun e=>decide (e.on<i)))).getD false)=true)
  (hop:∀(i:Nat) (o:Oper) (L:Nat→Bool) (u:Nat→Value) (w:World),ops[i]?=some o→L i=false→Ext L u w→(∀ e∈o.after,Region.binds md e=true→Good e.on L w (u e.on))→
   ∀ K:Act→World→Prop,(∀ w' v,Good i (updK L i) w' v→Ext (updK L i) (upd u i v) w'→M i w w'→K (frame (upd u i v)) w')→(if Region.wanted o (yielded ops (frame u).tmps)=true then Oper.wp P o (frame u) w K Q else K ((frame u).put o.dst undef) w))
  (hdone:∀ L u w,Ext L u w→(∀ i,i<ops.size→Good i L w (u i))→Q .normal (frame u) w) :
  ∀(fuel:Nat) (listed:Array Bool) (u:Nat→Value) (w:World),listed.size=ops.size→Ext (fun n=>listed.getD n false) u w→(∀ i,i<ops.size→listed.getD i false=true→Good i (fun n=>listed.getD n false) w (u i))→
   (listed.toList.filter (!·)).length≤fuel→wpAny P md ops Q fuel listed (frame u) w:=by
 have hb:∀(i:Nat) (o:Oper),ops[i]?=some o→∀ e∈o.after,e.on<i:=fun i o ho e he=>by
  have hi:=(Array.getElem?_eq_some_iff.1 ho).1;have:=List.all_eq_true.1 hback i (List.mem_range.2 hi);rw[ho] at this;simp at this;obtain⟨k,hk,rfl⟩:=Array.mem_iff_getElem.1 he;exact this k hk
 have hfin:∀(listed:Array Bool) (u:Nat→Value) (w:World),listed.size=ops.size→Ext (fun n=>listed.getD n false) u w→(∀ i,i<ops.size→listed.getD i false=true→Good i (fun n=>listed.getD n false) w (u i))→Region.ready md ops listed=[]→Q .normal (frame u) w:=by
  intro listed u w hs he hgd hr;refine hdone _ u w he fun i hi=>hgd i hi ?_
  have hall:∀ n i,i<n→i<ops.size→listed.getD i false=true:=by
   intro n
   induction n with
   |zero=>intro i h;omega
   |succ n ih=>
    intro i hin hi;by_cases hlt:i<n
    ·exact ih i hlt hi
    ·cases hl:listed.getD i false with
     |true=>rfl
     |false=>
      exfalso
      have hl':listed.getD i true=false:=by
       have hil:i<listed.size:=by omega
       simp[hil] at hl ⊢;exact hl
      have:i∈Region.ready md ops listed:=mem_ready.2 ⟨hi,hl',ops[i],by simp[hi],fun e hee _=>ih e.on (by have:=hb i ops[i] (by simp[hi]) e hee;omega) (by have:=hb i ops[i] (by simp[hi]) e hee;omega)⟩;rw[hr] at this;cases this
  exact hall (i+1) i (by omega) hi
 intro fuel
 induction fuel with
 |zero=>
  intro listed u w hs he hgd hc;have hr:Region.ready md ops listed=[]:=by
   apply List.eq_nil_iff_forall_not_mem.2;intro i hi;obtain⟨h1,h2,_⟩:=mem_ready.1 hi;have hil:i<listed.size:=by omega
   have h3:listed[i]=false:=by simpa[hil] using h2
   have:listed[i]∈listed.toList.filter (!·):=by
    rw[List.mem_filter];exact⟨by simp,by rw[h3];rfl⟩
   have:=List.length_pos_of_mem this;omega
  exact⟨hr,hfin listed u w hs he hgd hr⟩
 |succ fuel ih=>
  intro listed u w hs he hgd hc;refine⟨fun hr=>hfin listed u w hs he hgd hr,fun i hi=>?_⟩;obtain⟨h1,h2,o,ho,h3⟩:=mem_ready.1 hi;refine wpOp_step ho fun K hK=>?_
  have hil:i<listed.size:=by omega
  have hnl:listed.getD i false=false:=by simp[hil] at h2 ⊢;exact h2
  have hupd:(fun n=>(listed.setIfInBounds i true).getD n false)=updK (fun n=>listed.getD n false) i:=by
   funext n;rw[getD_set listed i n hil];rfl
  refine hop i o (fun n=>listed.getD n false) u w ho hnl he (fun e hee hbd=>hgd e.on (by have:=hb i o ho e hee;omega) (h3 e hee hbd)) K fun w' v hgv hext hm=>hK _ _ ?_
  refine ih _ _ w' (by simpa using hs) (by rw[hupd];exact hext) (fun j hj hlj=>?_) ?_
  ·rw[getD_set listed i j hil] at hlj;unfold upd;by_cases hji:j=i
   ·subst hji;rw[hupd];simpa using hgv
   ·rw[if_neg hji] at hlj;rw[if_neg hji,hupd];exact hstab j _ w w' i _ hm (Ne.symm hji) hnl (hgd j hj hlj)
  ·have:listed.toList[i]?=some false:=by simp[hil] at h2;simp[hil,h2]
   have:=count_set listed.toList i this;rw[Array.toList_setIfInBounds];omega
end
structure RunD (w wr:World) (R:List (Nat×List Int)) (E:List (Nat×Nat×List Int)):Prop where
 below:Below w.heap.size w wr
 rows:∀ r∈R,w.heap.size≤r.1∧RowW wr r.1 141 r.2∧EOk r.2
 order:R.Pairwise fun a b=>a.1≠b.1
 els:∀ e∈E,e.1<w.heap.size∧EAt wr e.1 e.2.1 e.2.2
section
variable {w wr w':World} {R:List (Nat×List Int)} {E:List (Nat×Nat×List Int)}
theorem RunD.start (w:World) (E:List (Nat×Nat×List Int)) (h:∀ e∈E,EAt w e.1 e.2.1 e.2.2):RunD w w [] E:=
 ⟨Below.refl _ _,by simp,List.Pairwise.nil,fun e he=>⟨(h e he).1,h e he⟩⟩
theorem RunD.call (h:RunD w wr R E) (b:Below wr.heap.size wr w'):RunD w w' R E:=
 ⟨h.below.trans (b.mono h.below.size),fun r hr=>⟨(h.rows r hr).1,(h.rows r hr).2.1.below b (h.rows r hr).2.1.lt,(h.rows r hr).2.2⟩,h.order,fun e he=>⟨(h.els e he).1,(h.els e he).2.below b⟩⟩
theorem RunD.one (h:RunD w wr R E) (b:Below wr.heap.size wr w') {g:Nat} {es:List Int} (hg:wr.heap.size≤g) (hr:RowW w' g 141 es) (hk:EOk es) :
  RunD w w' ((g,es)::R) E:=by
 have c:=h.call b;refine⟨c.below,?_,?_,c.els⟩
 ·intro r hm;rcases List.mem_cons.1 hm with rfl|hm
  ·exact⟨Nat.le_trans h.below.size hg,hr,hk⟩
  ·exact c.rows r hm
 ·exact List.Pairwise.cons (fun r hm e=>by have:=(h.rows r hm).2.1.lt;simp only at e;omega) h.order
theorem RunD.two (h:RunD w wr R E) (b:Below wr.heap.size wr w') {g g':Nat} {es es':List Int} (hg:wr.heap.size≤g) (hr:RowW w' g 141 es) (hk:EOk es)
  (hg':wr.heap.size≤g') (hr':RowW w' g' 141 es') (hk':EOk es') (hne:g≠g'):RunD w w' ((g',es')::(g,es)::R) E:=by
 have c:=h.one b hg hr hk;refine⟨c.below,?_,?_,c.els⟩
 ·intro r hm;rcases List.mem_cons.1 hm with rfl|hm
  ·exact⟨Nat.le_trans h.below.size hg',hr',hk'⟩
  ·exact c.rows r hm
 ·refine List.Pairwise.cons (fun r hm e=>?_) c.order;rcases List.mem_cons.1 hm with rfl|hm
  ·exact hne e.symm
  ·have:=(h.rows r hm).2.1.lt;simp only at e;omega
theorem RunD.room (h:RunD w wr R E) :
  RunD w (wr.alloc (.cells #[.int .u64 0,.int .u64 0,.int .u64 0,.int .u64 0,.int .u64 0] 141)) ((wr.heap.size,[0,0,0,0,0])::R) E:=
 h.one (below_new2 _ _) (Nat.le_refl _) (row0 wr) zero_ok
theorem RunD.room2 (h:RunD w wr R E) :
  RunD w ((wr.alloc (.cells #[.int .u64 0,.int .u64 0,.int .u64 0,.int .u64 0,.int .u64 0] 141)).alloc (.cells #[.int .u64 0,.int .u64 0,.int .u64 0,.int .u64 0,.int .u64 0] 141)) ((wr.heap.size+1,[0,0,0,0,0])::(wr.heap.size,[0,0,0,0,0])::R) E:=by
 have:=h.room.room
 rwa [show(wr.alloc (.cells #[.int .u64 0,.int .u64 0,.int .u64 0,.int .u64 0,.int .u64 0] 141)).heap.size=wr.heap.size+1 by simp] at this
theorem RunD.el (h:RunD w wr R E) (i:Nat) (g o:Nat) (es:List Int) (hi:E[i]?=some (g,o,es)):EAt wr g o es:=
 (h.els _ (List.mem_of_getElem? hi)).2
theorem RunD.row (h:RunD w wr R E) (i:Nat) (g:Nat) (es:List Int) (hi:R[i]?=some (g,es)):RowW wr g 141 es:=
 (h.rows _ (List.mem_of_getElem? hi)).2.1
theorem RunD.ok (h:RunD w wr R E) (i:Nat) (g:Nat) (es:List Int) (hi:R[i]?=some (g,es)):EOk es:=
 (h.rows _ (List.mem_of_getElem? hi)).2.2
theorem RunD.re (h:RunD w wr R E) (i:Nat) (g:Nat) (es:List Int) (hi:R[i]?=some (g,es)):EAt wr g 0 es:=
 EAt.of_row (h.row i g es hi) (h.ok i g es hi)
theorem RunD.put (h:RunD w wr R E) (i:Nat) (g:Nat) (zs es:List Int) (hi:R[i]?=some (g,zs)) (hw:Wr g wr w') (hr:RowW w' g 141 es) (hk:EOk es) :
  RunD w w' (R.set i (g,es)) E:=by
 have hg:=(h.rows _ (List.mem_of_getElem? hi)).1;have hil:=(List.getElem?_eq_some_iff.1 hi).1;have hie:=(List.getElem?_eq_some_iff.1 hi).2;have ho:=List.pairwise_iff_getElem.1 h.order;refine⟨h.below.trans (hw.below hg),?_,?_,fun e he=>⟨(h.els e he).1,(h.els e he).2.wr hw (by have:=(h.els e he).1;omega)⟩⟩
 ·intro r hm;obtain⟨j,hj,rfl⟩:=List.getElem_of_mem hm;rw[List.length_set] at hj;rw[List.getElem_set];split
  ·exact⟨hg,hr,hk⟩
  ·rename_i hne
   have q:=h.rows _ (List.getElem_mem hj);refine⟨q.1,hw.rowW q.2.1 ?_,q.2.2⟩;rcases Nat.lt_or_gt_of_ne hne with hlt|hgt
   ·have:=ho i j hil hj hlt;rw[hie] at this;exact fun e=>this e.symm
   ·have:=ho j i hj hil hgt;rw[hie] at this;exact this
 ·rw[List.pairwise_iff_getElem];intro a b ha hb hab;rw[List.length_set] at ha hb;have:=ho a b ha hb hab;rw[List.getElem_set,List.getElem_set];split<;>split<;>simp_all
end
theorem wpList_storeD {w wr:World} {R:List (Nat×List Int)} {E:List (Nat×Nat×List Int)} (S:RunD w wr R E)
  {ops:Array Oper} {rest:List Oper} {o:Oper} {a:Act} {Q:Exit→Act→World→Prop} (hgd:o.guard=none) (x y:Operand) (ho:o.op=.store 141 x y)
  (i g:Nat) (zs es:List Int) (hi:R[i]?=some (g,zs)) (hx:a.eval x=.pointer (some ⟨g,0,none⟩)) (hy:a.eval y=.agg (es.map (Value.int .u64)).toArray) (hk:EOk es)
  {wa:World} (hwa:wa=wr)
  (hK:∀ w',RunD w w' (R.set i (g,es)) E→wpList Tryz.prog ops Q rest (a.put o.dst undef) w') :
  wpList Tryz.prog ops Q (o::rest) a wa:=by
 subst hwa;exact wpList_storeE hgd x y ho g es zs hx hy hk.1 (S.ok i g zs hi).1 (S.row i g zs hi) fun w' hr hw=>hK w' (S.put i g zs es hi hw hr hk)
def EV (x:Int) (v:Value):Prop:=∃ es,EOk es∧ev es=x∧v=.agg (es.map (Value.int .u64)).toArray
theorem EV.elim_ {x:Int} {v:Value} {C:Prop} (h:EV x v) (k:∀ es,EOk es→ev es=x→v=.agg (es.map (Value.int .u64)).toArray→C):C:=by
 obtain⟨es,a,b,c⟩:=h;exact k es a b c
theorem upd_neD {u:Nat→Value} {i j:Nat} {v:Value} (h:i≠j):upd u i v j=u j:=by unfold upd;rw[if_neg (Ne.symm h)]
theorem updK_ne' {L:Nat→Bool} {i j:Nat} (h:j≠i):updK L i j=L j:=by unfold updK;simp[h]
theorem updK_same' {L:Nat→Bool} {i:Nat}:updK L i i=true:=by unfold updK;simp
def NwV (W:World) (A S:Nat) (X:Int) (L:Nat→Bool) (u:Nat→Value) (w':World):Prop:=
 (L S=true→L A=true)∧(L A=true→∃ g es,u A=.pointer (some ⟨g,0,none⟩)∧W.heap.size≤g∧RowW w' g 141 es∧EOk es∧(L S=true→ev es=X))
structure ExA (W:World) (A1 A2 S1 S2:Nat) (X1 X2:Int) (L:Nat→Bool) (u:Nat→Value) (w':World):Prop where
 below:Below W.heap.size W w'
 v1:NwV W A1 S1 X1 L u w'
 v2:NwV W A2 S2 X2 L u w'
 ne:L A1=true→L A2=true→∀ g g',u A1=.pointer (some ⟨g,0,none⟩)→u A2=.pointer (some ⟨g',0,none⟩)→g≠g'
section
variable {W w' ww:World} {A1 A2 S1 S2 A S:Nat} {X1 X2 X:Int} {L:Nat→Bool} {u:Nat→Value}
theorem NwV.low (h:NwV W A S X L u w') (i:Nat) (hA:A≠i) (hS:S≠i) (v:Value) (hb:∀ g,(Obj.cells #[] 0=Obj.cells #[] 0)→L A=true→∀ es,u A=.pointer (some ⟨g,0,none⟩)→RowW w' g 141 es→RowW ww g 141 es):NwV W A S X (updK L i) (upd u i v) ww:=by
 refine⟨by rw[updK_ne' hA,updK_ne' hS];exact h.1,?_⟩;rw[updK_ne' hA,updK_ne' hS];intro hL;obtain⟨g,es,h1,h2,h3,h4,h5⟩:=h.2 hL;exact⟨g,es,by rw[upd_neD (Ne.symm hA)];exact h1,h2,hb g rfl hL es h1 h3,h4,h5⟩
theorem ExA.low (h:ExA W A1 A2 S1 S2 X1 X2 L u w') (i:Nat) (h1:A1≠i) (h2:A2≠i) (h3:S1≠i) (h4:S2≠i) (v:Value) (b:Below w'.heap.size w' ww):ExA W A1 A2 S1 S2 X1 X2 (updK L i) (upd u i v) ww:=
 ⟨h.below.trans (b.mono h.below.size),h.v1.low i h1 h3 v (fun g _ _ es _ r=>r.below b r.lt),h.v2.low i h2 h4 v (fun g _ _ es _ r=>r.below b r.lt),by
  rw[updK_ne' h1,updK_ne' h2,upd_neD (Ne.symm h1),upd_neD (Ne.symm h2)];exact h.ne⟩
theorem ExA.start (W:World) (L:Nat→Bool) (u:Nat→Value) (h1:L A1=false) (h2:L A2=false) (h3:L S1=false) (h4:L S2=false) (b:Below W.heap.size W w'):ExA W A1 A2 S1 S2 X1 X2 L u w':=
 ⟨b,⟨fun h=>(by rw[h3] at h;cases h),fun h=>(by rw[h1] at h;cases h)⟩,⟨fun h=>(by rw[h4] at h;cases h),fun h=>(by rw[h2] at h;cases h)⟩,fun h=>(by rw[h1] at h;cases h)⟩
theorem ExA.swap (h:ExA W A1 A2 S1 S2 X1 X2 L u w'):ExA W A2 A1 S2 S1 X2 X1 L u w':=⟨h.below,h.v2,h.v1,fun a b g g' e e' q=>h.ne b a g' g e' e q.symm⟩
theorem ExA.alloc1 (h:ExA W A1 A2 S1 S2 X1 X2 L u w') (hL:L A1=false) (h2:A2≠A1) (h3:S1≠A1) (h4:S2≠A1) :
  ExA W A1 A2 S1 S2 X1 X2 (updK L A1) (upd u A1 (.pointer (some ⟨w'.heap.size,0,none⟩))) (w'.alloc (.cells #[.int .u64 0,.int .u64 0,.int .u64 0,.int .u64 0,.int .u64 0] 141)):=by
 have b:=below_new2 w' (.cells #[.int .u64 0,.int .u64 0,.int .u64 0,.int .u64 0,.int .u64 0] 141);have hS:L S1=false:=by
  cases q:L S1 with
  |false=>rfl
  |true=>have:=h.v1.1 q;rw[hL] at this;cases this
 refine⟨h.below.trans (b.mono h.below.size),⟨fun _=>updK_same',fun _=>⟨w'.heap.size,[0,0,0,0,0],by unfold upd;simp,h.below.size,row0 w',zero_ok,by rw[updK_ne' h3,hS];intro q;cases q⟩⟩,h.v2.low A1 h2 h4 _ (fun g _ _ es _ r=>r.below b r.lt),?_⟩;rw[updK_ne' h2,upd_neD (Ne.symm h2)];intro _ q g g' e e' hg;obtain⟨g2,es,k1,k2,k3,_⟩:=h.v2.2 q;have e1:g=w'.heap.size:=by unfold upd at e;simp at e;exact e.symm
 rw[k1] at e';have e2:g2=g':=by simpa using e'
 have:=k3.lt;omega
theorem ExA.alloc2 (h:ExA W A1 A2 S1 S2 X1 X2 L u w') (hL:L A2=false) (h2:A1≠A2) (h3:S2≠A2) (h4:S1≠A2) :
  ExA W A1 A2 S1 S2 X1 X2 (updK L A2) (upd u A2 (.pointer (some ⟨w'.heap.size,0,none⟩))) (w'.alloc (.cells #[.int .u64 0,.int .u64 0,.int .u64 0,.int .u64 0,.int .u64 0] 141)):=
 (h.swap.alloc1 hL h2 h3 h4).swap
theorem ExA.store1 (h:ExA W A1 A2 S1 S2 X1 X2 L u w') {g:Nat} {es:List Int} (hL:L A1=true) (hg:u A1=.pointer (some ⟨g,0,none⟩)) (h1:A1≠S1) (h2:A2≠S1) (h4:S2≠S1) (hk:EOk es) (hv:ev es=X1) (hw:Wr g w' ww) (hr:RowW ww g 141 es) (v:Value) :
  ExA W A1 A2 S1 S2 X1 X2 (updK L S1) (upd u S1 v) ww:=by
 obtain⟨g0,es0,k1,k2,k3,k4,k5⟩:=h.v1.2 hL;have e0:g0=g:=by rw[k1] at hg;simpa using hg
 subst e0;refine⟨h.below.trans (hw.below k2),⟨fun _=>by rw[updK_ne' h1];exact hL,fun _=>⟨g0,es,by rw[upd_neD (Ne.symm h1)];exact hg,k2,hr,hk,fun _=>hv⟩⟩,h.v2.low S1 h2 h4 v (fun g' _ q es' e' r=>hw.rowW r (fun e=>h.ne hL q g0 g' k1 e' e.symm)),?_⟩;rw[updK_ne' h1,updK_ne' h2,upd_neD (Ne.symm h1),upd_neD (Ne.symm h2)];exact h.ne
theorem ExA.store2 (h:ExA W A1 A2 S1 S2 X1 X2 L u w') {g:Nat} {es:List Int} (hL:L A2=true) (hg:u A2=.pointer (some ⟨g,0,none⟩)) (h1:A2≠S2) (h2:A1≠S2) (h4:S1≠S2) (hk:EOk es) (hv:ev es=X2) (hw:Wr g w' ww) (hr:RowW ww g 141 es) (v:Value) :
  ExA W A1 A2 S1 S2 X1 X2 (updK L S2) (upd u S2 v) ww:=(h.swap.store1 hL hg h1 h2 h4 hk hv hw hr v).swap
theorem ExA.fin1 (h:ExA W A1 A2 S1 S2 X1 X2 L u w') (hS:L S1=true):∃ g es,u A1=.pointer (some ⟨g,0,none⟩)∧W.heap.size≤g∧RowW w' g 141 es∧EOk es∧ev es=X1:=by
 obtain⟨g,es,k1,k2,k3,k4,k5⟩:=h.v1.2 (h.v1.1 hS);exact⟨g,es,k1,k2,k3,k4,k5 hS⟩
theorem ExA.get1 (h:ExA W A1 A2 S1 S2 X1 X2 L u w') (hA:L A1=true):∃ g es,u A1=.pointer (some ⟨g,0,none⟩)∧RowW w' g 141 es∧EOk es:=by
 obtain⟨g,es,k1,k2,k3,k4,k5⟩:=h.v1.2 hA;exact⟨g,es,k1,k3,k4⟩
end
theorem wp_storeX {w:World} {o:Oper} {a:Act} {K:Act→World→Prop} {Q:Exit→Act→World→Prop} (x y:Operand) (ho:o.op=.store 141 x y)
  (g:Nat) (zs es:List Int) (hx:a.eval x=.pointer (some ⟨g,0,none⟩)) (hy:a.eval y=.agg (es.map (Value.int .u64)).toArray) (hk:EOk es) (hz:EOk zs) (hr:RowW w g 141 zs)
  (hK:∀ w',RowW w' g 141 es→Wr g w w'→K (a.put o.dst undef) w'):o.wp Tryz.prog a w K Q:=
 wp_store_row 141 x y ho g ((es.map (Value.int .u64)).toArray) hx hy 141 _ hr (sizeEl hk.1) (by simp[hk.1,hz.1]) (all_oneCell_toArray (ints_oneCell _ _)) (hK _ (setRow_heap _ _ _ _ _ _ hr) (Wr.setRow _ _ _))
def baseY:Int:=46316835694926478169428394003475163141307993866256225615783033603165251855960
theorem base_evalN:4*pwN 5 11 5 254 255%fpN=46316835694926478169428394003475163141307993866256225615783033603165251855960:=by decide +kernel
theorem base_eval:(4%fp)*pwF (5%fp) 11 5 254 255%fp=baseY:=by
 have e:(5%fp:Int)=((5:Nat):Int):=by decide
 have e4:(4%fp:Int)=((4:Nat):Int):=by decide
 rw[e,e4,pwF_N,fp_fpN,←Int.natCast_mul,←Int.natCast_emod,base_evalN];rfl
theorem pair_valb (bs:List Int) (d:Int) (k:Nat) (h:bs.length=2*k):val 256 (bs++[d%256,d/256])=val 256 bs+d*65536^k:=by
 rw[val_append,h];have e:(256:Int)^(2*k)=65536^k:=by rw[Int.pow_mul,show(256:Int)^2=65536 from by decide]
 rw[e];simp only[val];have:d%256+256*(d/256)=d:=Int.emod_add_mul_ediv _ _;have e2:d%256+256*(d/256+256*0)=d:=by omega
 rw[e2,Int.mul_comm]
structure BYSb (w w5:World) (zs:List Int) (k:Nat) (v:Value) (wr:World):Prop where
 st:∃ bs:List Int,Own wr w5.heap.size v bs∧bs.length=2*k∧Byte bs∧val 256 bs=val 65536 (zs.take k)
 below:Below w5.heap.size w5 wr
def CodePb (w:World) (x:Int) (e:Ending) (w':World):Prop:=
 ∃ v bs,e=.returned v∧Own w' w.heap.size v bs∧Byte bs∧bs.length=32∧val 256 bs=x∧Below w.heap.size w w'
theorem Own.lower3b {w:World} {B B':Nat} {v:Value} {zs:List Int} (h:Own w B' v zs) (hB:B≤B'):Own w B v zs:=by
 obtain⟨⟨h1,h2⟩,h3⟩:=h;refine⟨⟨h1,?_⟩,h3⟩;rcases h2 with h|⟨g,c,cur,h4,h5,h6⟩
 ·exact .inl h
 ·exact .inr ⟨g,c,cur,h4,by omega,h6⟩
set_option maxHeartbeats 1000000 in
theorem sbas_any (w:World):Calls Tryz.prog 62 #[] w (CodePb w baseY):=by
 go_enter Tryz.func62,Tryz.ntmps62;go_wp2_with fail;refine(small_any 4 _ (by decide) (by decide)).mono ?_;rintro e w1 ⟨g1,c1,rfl,hg1,hg1',hf1,hb1⟩;have HF1:=hdI <| hf1
 clear hf1;go_wp2_with fail;refine(small_any 5 _ (by decide) (by decide)).mono ?_;rintro e w2 ⟨g2,c2,rfl,hg2,hg2',hf2,hb2⟩;have HF2:=hdI <| hf2
 clear hf2;go_wp2_with fail;refine(pow0_any _ c2 (5%fp) _ HF2.out).mono ?_;rintro e w3 ⟨g3,c3,rfl,hg3,hg3',hf3,hb3⟩;have HF3:=hdI <| hf3
 have HF13:=hdI <| (HF1.out.below hb2).below hb3
 clear hf3 HF1 HF2;go_wp2_with fail;refine(fmul_any _ _ c1 c3 (4%fp) (pwF (5%fp) 11 5 254 255) _ HF13.out HF3.out).mono ?_;rintro e w4 ⟨g4,c4,rfl,hg4,hg4',hf4,hb4⟩;rw[base_eval] at hf4;have HF4:=hdI <| hf4
 clear hf4 HF3 HF13;go_wp2_with fail;refine(least_any _ c4 baseY _ HF4.out).mono ?_;rintro e w5 ⟨gy,cyy,rfl,hgy,hgy',⟨zs,hzA,hzl,hzd,hzv⟩,hb5⟩;have HB5:=hdI <| hb1.trans ((hb2.trans ((hb3.trans ((hb4.trans (hb5.mono hb4.size)).mono hb3.size)).mono hb2.size)).mono hb1.size)
 have HYC:Hid (∀ i,i<16→w5.cell? ⟨gy,i,none⟩=some (.int .i64 (zs.getD i 0))):=fun i hi=>by
  obtain⟨_,_,e,_,hc⟩:=hzA.get (by omega);cases e;have:=hc i (by omega)
  rwa [Nat.zero_add] at this
 have HZL:=hdI <| hzl
 have HZD:=hdI <| hzd
 have HZV:=hdI <| hzv
 have HS:Hid (BYSb w w5 zs 0 (.slice (some ⟨w5.heap.size,0,none⟩) 0 0) (w5.alloc (.cells #[] 5))):=⟨⟨[],Own.empty _ _ (Nat.le_refl _),rfl,by simp[Byte],by simp[val]⟩,below_new3 _ _⟩
 clear HF4 hb1 hb2 hb3 hb4 hb5 hzA hzl hzd hzv;go_wp2
 go_loopw [2,3] (fun v i wr=>∃ k:Nat,k≤16∧i=.int .i64 k∧BYSb w w5 zs k v wr) (fun _ i _=>16-(intOf i).toNat)
 case atStart=>exact⟨0,by decide,rfl,HS.out⟩
 case round=>
  clear HS;obtain⟨k,hk,rfl,⟨bs,hO,hbl,hbb,hbv⟩,hbel⟩:=hrel;by_cases hlt:k<16
  ·have hlt':(k:Int)<16:=by omega
   have hd:=HZD.out k;have vt:=val_take 65536 zs k (by have:=HZL.out;omega);have c0:wr.cell? ⟨gy,k,none⟩=some (.int .i64 (zs.getD k 0)):=by
    rw[hbel.cell (p:=⟨gy,k,none⟩) hgy'];exact HYC.out k hlt
   generalize hdd:zs.getD k 0=d at *;clear hdd;have HGN:Hid (¬ some gy=u2.ownBlock):=by
    obtain⟨g,c,rfl,hg,_,_⟩:=hO.base;intro h;simp[Value.ownBlock] at h;omega
   have HBL:Hid (bs.length≤32):=by show _≤_;omega
   have HN:Hid (val 256 (bs++[d%256,d/256])=val 65536 (zs.take (k+1))∧(bs++[d%256,d/256]).length=2*(k+1)∧Byte (bs++[d%256,d/256])):=by
    refine⟨by rw[pair_valb bs d k hbl,hbv,vt],by simp[hbl];omega,?_⟩;intro z hz;simp at hz;rcases hz with h|h|h
    ·exact hbb z h
    ·omega
    ·omega
   have HO:=hdI <| hO
   have HBE:=hdI <| hbel
   have hwr:=hbel.size;obtain⟨hd0,hd1⟩:=hd;clear hO hbel vt hbv hbb hbl HYC HZV HZD;go_wp2_with fail;have hm1:d.tmod 256=d%256:=Int.tmod_eq_emod_of_nonneg hd0;have hm2:d.tdiv 256=d/256:=Int.tdiv_eq_ediv_of_nonneg hd0;have hm3:IntKind.u8.wrap (d/256)=d/256:=by rw[IntKind.wrap_u8];omega
   have hm4:IntKind.u8.wrap (d%256)=d%256:=by rw[IntKind.wrap_u8];omega
   have hm5:IntKind.i64.wrap (d/256)=d/256:=by rw[IntKind.wrap_i64];omega
   refine wp_region_any (by kernel_rfl) ?_;refine wpAny_slotsK 15 (fun i w w'=>i≠14→Below w.heap.size w w') (frame:=(fun (a b c d e f g h i j k l m n o:Value)=>fun (t:Nat→Value)=>({ tmps:=List.toArray [a,b,c,d,e,f,g,h,i,j,k,l,m,n,t 0,t 1,t 2,t 3,t 4,t 5,t 6,t 7,t 8,t 9,t 10,t 11,t 12,t 13,t 14,o],defers:=[] }:Act)) _ _ _ _ _ _ _ _ _ _ _ _ _ _ _)
    (Ext:=fun L w'=>(L 14=false→Below wr.heap.size wr w')∧Below w5.heap.size w5 w'∧(∀ i,i<16→w'.cell? ⟨gy,i,none⟩=wr.cell? ⟨gy,i,none⟩)∧wr.heap.size≤w'.heap.size)
    (Good:=GBy w5.heap.size u2 gy cyy k d bs) (by rfl) (by kernel_rfl) (GBy_stab _ _ _ _ _ _ _) (by kernel_rfl) (by kernel_rfl) ?hop ?hend _ _ ((fun (x0 x1 x2 x3 x4 x5 x6 x7 x8 x9 x10 x11 x12 x13 x14:Value)=>fun (i:Nat)=>if i=0 then x0 else if i=1 then x1 else if i=2 then x2 else if i=3 then x3 else if i=4 then x4 else if i=5 then x5 else if i=6 then x6 else if i=7 then x7 else if i=8 then x8 else if i=9 then x9 else if i=10 then x10 else if i=11 then x11 else if i=12 then x12 else if i=13 then x13 else if i=14 then x14 else undef) _ _ _ _ _ _ _ _ _ _ _ _ _ _ _) _ (by simp) (by simp) ?ext ?start (by simp)
   case start=>intro i hi h;exact absurd h (by rw[Array.getD_eq_getD_getElem?,Array.getElem?_replicate];split<;>simp)
   case ext=>exact⟨fun _=>(Below.refl _ _).drew,⟨HBE.out.os,HBE.out.tape,HBE.out.output,HBE.out.size,HBE.out.block⟩,fun _ _=>rfl,Nat.le_refl _⟩
   case hop=>
    intro i o L t w' hil ho hLi hx hdep K hK;obtain⟨hx14,hxB,hxY,hxS⟩:=hx;have cY:w'.cell? ⟨gy,k,none⟩=some (.int .i64 d):=by rw[hxY k (by omega)];exact c0
    have RX:Hid (∀ j,j≠14→∀ ww,Below w'.heap.size w' ww→((updK L j 14=false→Below wr.heap.size wr ww)∧Below w5.heap.size w5 ww∧(∀ i,i<16→ww.cell? ⟨gy,i,none⟩=wr.cell? ⟨gy,i,none⟩)∧wr.heap.size≤ww.heap.size)):=fun j hj ww hb=>
     ⟨fun hL=>(hx14 (by simpa[updK,Ne.symm hj] using hL)).trans (hb.mono hxS),hxB.trans (hb.mono hxB.size),fun i hi=>by rw[hb.cell (p:=⟨gy,i,none⟩) (by show gy<w'.heap.size;omega)];exact hxY i hi,by have:=hb.size;omega⟩
    have RR:Hid (∀ j,j≠14→((updK L j 14=false→Below wr.heap.size wr w')∧Below w5.heap.size w5 w'∧(∀ i,i<16→w'.cell? ⟨gy,i,none⟩=wr.cell? ⟨gy,i,none⟩)∧wr.heap.size≤w'.heap.size)):=fun j hj=>RX.out j hj w' (Below.refl _ _)
    have RM:Hid (∀ j:Nat,j≠14→Below w'.heap.size w' w'):=fun _ _=>Below.refl _ _
    have H14:=hdI <| hx14
    have HXB:=hdI <| hxB
    have HXY:=hdI <| hxY
    clear hx14 hxB hxY;obtain rfl|rfl|rfl|rfl|rfl|rfl|rfl|rfl|rfl|rfl|rfl|rfl|rfl|rfl|rfl:i=0∨i=1∨i=2∨i=3∨i=4∨i=5∨i=6∨i=7∨i=8∨i=9∨i=10∨i=11∨i=12∨i=13∨i=14:=by omega
    all_goals(simp at ho;subst ho)
    ·clear hdep;go_simp;exact hK w' u2 rfl (RR.out 0 (by decide)) (RM.out 0)
    ·clear hdep;go_simp;exact hK w' (.slice (some ⟨gy,0,none⟩) 16 cyy) rfl (RR.out 1 (by decide)) (RM.out 1)
    ·clear hdep;go_simp;exact hK w' (.int .i64 k) rfl (RR.out 2 (by decide)) (RM.out 2)
    ·have d1:t 1=_:=hdep ⟨1,.data⟩ (by simp) rfl;have d2:t 2=_:=hdep ⟨2,.data⟩ (by simp) rfl;clear hdep;go_simp;simpa[upd,d1,d2] using hK w' (.pointer (some ⟨gy,k,none⟩)) rfl (RR.out 3 (by decide)) (RM.out 3)
    ·have d3:t 3=_:=hdep ⟨3,.data⟩ (by simp) rfl;clear hdep;go_simp;simpa[upd,d3] using hK w' (.int .i64 d) rfl (RR.out 4 (by decide)) (RM.out 4)
    ·have d4:t 4=_:=hdep ⟨4,.data⟩ (by simp) rfl;clear hdep;go_simp;simpa[upd,d4,hm1,hm2,hm3,hm4,hm5] using hK w' (.int .i64 (d%256)) rfl (RR.out 5 (by decide)) (RM.out 5)
    ·have d5:t 5=_:=hdep ⟨5,.data⟩ (by simp) rfl;clear hdep;go_simp;simpa[upd,d5,hm1,hm2,hm3,hm4,hm5] using hK w' (.int .u8 (d%256)) rfl (RR.out 6 (by decide)) (RM.out 6)
    ·clear hdep;go_simp;exact hK w' (.slice (some ⟨gy,0,none⟩) 16 cyy) rfl (RR.out 7 (by decide)) (RM.out 7)
    ·clear hdep;go_simp;exact hK w' (.int .i64 k) rfl (RR.out 8 (by decide)) (RM.out 8)
    ·have d7:t 7=_:=hdep ⟨7,.data⟩ (by simp) rfl;have d8:t 8=_:=hdep ⟨8,.data⟩ (by simp) rfl;clear hdep;go_simp;simpa[upd,d7,d8] using hK w' (.pointer (some ⟨gy,k,none⟩)) rfl (RR.out 9 (by decide)) (RM.out 9)
    ·have d9:t 9=_:=hdep ⟨9,.data⟩ (by simp) rfl;clear hdep;go_simp;simpa[upd,d9] using hK w' (.int .i64 d) rfl (RR.out 10 (by decide)) (RM.out 10)
    ·have d10:t 10=_:=hdep ⟨10,.data⟩ (by simp) rfl;clear hdep;go_simp;simpa[upd,d10,hm1,hm2,hm3,hm4,hm5] using hK w' (.int .i64 (d/256)) rfl (RR.out 11 (by decide)) (RM.out 11)
    ·have d11:t 11=_:=hdep ⟨11,.data⟩ (by simp) rfl;clear hdep;go_simp;simpa[upd,d11,hm1,hm2,hm3,hm4,hm5] using hK w' (.int .u8 (d/256)) rfl (RR.out 12 (by decide)) (RM.out 12)
    ·have d6:t 6=_:=hdep ⟨6,.data⟩ (by simp) rfl;have d12:t 12=_:=hdep ⟨12,.data⟩ (by simp) rfl;clear hdep;have hK':=hK (w'.alloc (.cells #[.int .u8 (d%256),.int .u8 (d/256)] 5)) (.slice (some ⟨w'.heap.size,0,none⟩) 2 2) (fun _=>⟨w'.heap.size,rfl,by simp,cell_of_row _ _ _ _ _ _ (heap_alloc_new _ _),cell_of_row _ _ _ _ _ _ (heap_alloc_new _ _)⟩) (RX.out 13 (by decide) _ (below_new3 _ _)) (fun _=>below_new3 _ _);clear hK;go_simp;simpa[upd,d6,d12] using hK'
    ·have d0:=hdep ⟨0,.data⟩ (by simp) rfl;have d13:=hdep ⟨13,.data⟩ (by simp) rfl;obtain⟨g',e13,hg',cc0,cc1⟩:=d13 hLi;clear hdep d13;have hO:=HO.out.grow2 (H14.out hLi);refine wp_app (a:=_) _ _ _ rfl w5.heap.size _ bs (by first|exact d0|(simp[d0];done)) hO ⟨g',0,none⟩ 2 2 [d%256,d/256] (by first|exact e13|(simp[e13];done)) rfl ?_ ?_ ?_ ?_
     ·intro j hj;rcases (show j=0∨j=1 by omega) with rfl|rfl
      ·rw[Addr.add_lit];exact cc0
      ·rw[Addr.add_lit];exact cc1
     ·have:=HBL.out;omega
     ·exact HXB.out.size
     ·intro v' w9 hown' hbel' hgr;have hs9:=hgr.size;have hyY:∀ i,i<16→w9.cell? ⟨gy,i,none⟩=wr.cell? ⟨gy,i,none⟩:=fun i hi=>by
       rw[World.cell?_of_block (a:=⟨gy,i,none⟩) (w:=w') (hgr.block gy (by omega) HGN.out)];exact HXY.out i hi
      exact hK w9 v' hown' ⟨fun h=>by simp[updK] at h,HXB.out.trans hbel',hyY,by omega⟩ (fun h=>absurd rfl h)
   case hend=>
    intro o L t w' ho hx hg K hK;simp at ho;subst ho;obtain⟨hx14,hxB,hxY,hxS⟩:=hx;have O14:=hg 14 (by decide);have HXB:=hdI <| hxB
    have HXY:=hdI <| hxY
    have HSZ:=hdI <| hxS
    have HO14:=hdI <| O14
    clear hg O14 hx14 hxB hxY hxS;go_simp;refine hK _ _ ?_;have hHB:=HXB.out;have HP:Hid (BYSb w w5 zs (k+1) (t 14) w'):=⟨⟨_,HO14.out,HN.out.2.1,HN.out.2.2,HN.out.1⟩,hHB⟩
    clear hHB HXB HXY HO14 HSZ HN HO HBE HGN hK c0;generalize t 14=v14 at *;go_wp2;go_roundw
    case rel=>exact⟨k+1,by omega,by go_num,HP.out⟩
    case measure=>simp[intOf];omega
  ·have hk16:k=16:=by omega
   rw[hk16,List.take_of_length_le (by have:=HZL.out;omega),HZV.out] at hbv;have HP:Hid (CodePb w baseY (.returned u2) wr):=⟨u2,bs,rfl,hO.lower3b HB5.out.size,hbb,by omega,hbv,HB5.out.trans (hbel.mono HB5.out.size)⟩
   clear hbv hO hbb hbl hbel hk16 HZV HZD HYC;go_wp2
   go_ret
   exact HP.out
theorem fold_size (off:Nat) (vs:List Value) (n:Nat) (cs:Array Value):((vs.zipIdx n).foldl (fun cs (x:Value×Nat)=>cs.setIfInBounds (off+x.2) x.1) cs).size=cs.size:=by
 induction vs generalizing n cs with
 |nil=>rfl
 |cons v vs ih=>rw[List.zipIdx_cons,List.foldl_cons,ih];simp
theorem fold_get (off:Nat) (vs:List Value) (n:Nat) (cs:Array Value) (h:off+n+vs.length≤cs.size) (i:Nat) :
  ((vs.zipIdx n).foldl (fun cs (x:Value×Nat)=>cs.setIfInBounds (off+x.2) x.1) cs)[i]?=if off+n≤i∧i<off+n+vs.length then vs[i-(off+n)]? else cs[i]?:=by
 induction vs generalizing n cs with
 |nil=>rw[if_neg (by simp)];rfl
 |cons v vs ih=>
  simp only[List.length_cons] at h;rw[List.zipIdx_cons,List.foldl_cons,ih (n+1) _ (by simp;omega)];by_cases h1:off+(n+1)≤i∧i<off+(n+1)+vs.length
  ·rw[if_pos h1,if_pos (by simp only[List.length_cons];omega),show i-(off+n)=(i-(off+(n+1)))+1 by omega,List.getElem?_cons_succ]
  ·rw[if_neg h1];by_cases h2:i=off+n
   ·subst h2;rw[if_pos (by simp only[List.length_cons];omega),Nat.sub_self,List.getElem?_cons_zero,Array.getElem?_setIfInBounds_self_of_lt (by omega)]
   ·rw[if_neg (by simp only[List.length_cons];omega),Array.getElem?_setIfInBounds_ne (by omega)]
def bkC (d u:List Int) (k:Int) (v:Value):Array Value:=(d.map (Value.int .u8)++u.map (Value.int .u8)++[.int .i64 k,v]).toArray
theorem bkC_size {d u:List Int} (hd:d.length=32) (hu:u.length=32) (k:Int) (v:Value):(bkC d u k v).size=66:=by unfold bkC;simp[hd,hu]
theorem bkC_one (d u:List Int) (k:Int) {v:Value} (hv:v.oneCell'=true):(bkC d u k v).all (fun x=>x.oneCell')=true:=by
 unfold bkC;rw[List.all_toArray];simp only[List.all_append,List.all_map,List.all_cons,List.all_nil,hv];simp[Function.comp_def,Value.oneCell']
def ovl (off:Nat) (vs cs:Array Value):Array Value:=vs.zipIdx.foldl (fun cs (x:Value×Nat)=>cs.setIfInBounds (off+x.2) x.1) cs
theorem ovl_eq (off:Nat) (vs cs:Array Value):ovl off vs cs=((vs.toList.zipIdx 0).foldl (fun cs (x:Value×Nat)=>cs.setIfInBounds (off+x.2) x.1) cs):=by
 unfold ovl;rw[←Array.foldl_toList];simp
theorem ovl_size (off:Nat) (vs cs:Array Value):(ovl off vs cs).size=cs.size:=by rw[ovl_eq];exact fold_size _ _ _ _
theorem ovl_get (off:Nat) (vs cs:Array Value) (h:off+vs.size≤cs.size) (i:Nat):(ovl off vs cs)[i]?=if off≤i∧i<off+vs.size then vs[i-off]? else cs[i]?:=by
 rw[ovl_eq,fold_get off vs.toList 0 cs (by simpa using h) i];simp
theorem fill_cons (places:Nat→Option (Nat×Nat)) (cs:Array Value) (i off size:Nat) (v:Value) (rest:List (Nat×Value)) (hp:places i=some (off,size)) (hs:v.cells.size=size) (hc:off+size≤cs.size) :
  Instr.fill places cs ((i,v)::rest)=Instr.fill places (ovl off v.cells cs) rest:=by
 rw[Instr.fill,hp];simp only[];rw[if_neg (by simp[hs];omega)];rfl
theorem fillB (places:Nat→Option (Nat×Nat)) (p0:places 0=some (0,32)) (p1:places 1=some (32,32)) (p2:places 2=some (64,1)) (p3:places 3=some (65,1)) (z:Array Value) (hz:z.size=66) (d u:List Int) (hd:d.length=32) (hu:u.length=32) (k:Int) (v:Value) (hv:v.cells=#[v]) :
  Instr.fill places z [(0,.agg (d.map (Value.int .u8)).toArray),(1,.agg (u.map (Value.int .u8)).toArray),(2,.int .i64 k),(3,v)]=some (bkC d u k v):=by
 have sd:((d.map (Value.int .u8)).toArray).size=32:=by simp[hd]
 have su:((u.map (Value.int .u8)).toArray).size=32:=by simp[hu]
 have s1:(ovl 0 (d.map (Value.int .u8)).toArray z).size=66:=by rw[ovl_size];exact hz
 have s2:(ovl 32 (u.map (Value.int .u8)).toArray (ovl 0 (d.map (Value.int .u8)).toArray z)).size=66:=by rw[ovl_size];exact s1
 have s3:(ovl 64 #[.int .i64 k] (ovl 32 (u.map (Value.int .u8)).toArray (ovl 0 (d.map (Value.int .u8)).toArray z))).size=66:=by rw[ovl_size];exact s2
 have key:ovl 65 #[v] (ovl 64 #[.int .i64 k] (ovl 32 (u.map (Value.int .u8)).toArray (ovl 0 (d.map (Value.int .u8)).toArray z)))=bkC d u k v:=by
  apply Array.ext_getElem?;intro i;rw[ovl_get _ _ _ (by rw[s3];simp),ovl_get _ _ _ (by rw[s2];simp),ovl_get _ _ _ (by rw[s1,su];omega),ovl_get _ _ _ (by rw[hz,sd];omega),sd,su];have e:(bkC d u k v)[i]?=(d.map (Value.int .u8)++u.map (Value.int .u8)++[.int .i64 k,v])[i]?:=by unfold bkC;simp
  rw[e];simp only[List.size_toArray,List.length_cons,List.length_nil];by_cases h0:i<32
  ·rw[if_neg (by omega),if_neg (by omega),if_neg (by omega),if_pos (by omega)];rw[List.getElem?_append_left (by simp[hd,hu];omega),List.getElem?_append_left (by simp[hd];omega)];simp
  ·by_cases h1:i<64
   ·rw[if_neg (by omega),if_neg (by omega),if_pos (by omega)];rw[List.getElem?_append_left (by simp[hd,hu];omega),List.getElem?_append_right (by simp[hd];omega)];simp[hd]
   ·by_cases h2:i=64
    ·subst h2;rw[if_neg (by omega),if_pos (by omega),List.getElem?_append_right (by simp[hd,hu])];simp[hd,hu]
    ·by_cases h3:i=65
     ·subst h3;rw[if_pos (by omega),List.getElem?_append_right (by simp[hd,hu])];simp[hd,hu]
     ·rw[if_neg (by omega),if_neg (by omega),if_neg (by omega),if_neg (by omega),Array.getElem?_eq_none (by omega),List.getElem?_eq_none (by simp[hd,hu];omega)]
 rw[fill_cons places z 0 0 32 (.agg (d.map (Value.int .u8)).toArray) _ p0 sd (by omega)];rw[fill_cons places _ 1 32 32 (.agg (u.map (Value.int .u8)).toArray) _ p1 su (by show _≤(ovl 0 (d.map (Value.int .u8)).toArray z).size;omega)];rw[fill_cons places _ 2 64 1 (.int .i64 k) _ p2 rfl (by show _≤(ovl 32 (u.map (Value.int .u8)).toArray (ovl 0 (d.map (Value.int .u8)).toArray z)).size;omega)];rw[fill_cons places _ 3 65 1 v _ p3 (by rw[hv];rfl) (by show _≤(ovl 64 #[.int .i64 k] (ovl 32 (u.map (Value.int .u8)).toArray (ovl 0 (d.map (Value.int .u8)).toArray z))).size;omega)];rw[hv,Instr.fill];exact congrArg some key
def bkZ:Array Value:=#[.int .u8 0,.int .u8 0,.int .u8 0,.int .u8 0,.int .u8 0,.int .u8 0,.int .u8 0,.int .u8 0,.int .u8 0,.int .u8 0,.int .u8 0,.int .u8 0,.int .u8 0,.int .u8 0,.int .u8 0,.int .u8 0,.int .u8 0,.int .u8 0,.int .u8 0,.int .u8 0,.int .u8 0,.int .u8 0,.int .u8 0,.int .u8 0,.int .u8 0,.int .u8 0,.int .u8 0,.int .u8 0,.int .u8 0,.int .u8 0,.int .u8 0,.int .u8 0,.int .u8 0,.int .u8 0,.int .u8 0,.int .u8 0,.int .u8 0,.int .u8 0,.int .u8 0,.int .u8 0,.int .u8 0,.int .u8 0,.int .u8 0,.int .u8 0,.int .u8 0,.int .u8 0,.int .u8 0,.int .u8 0,.int .u8 0,.int .u8 0,.int .u8 0,.int .u8 0,.int .u8 0,.int .u8 0,.int .u8 0,.int .u8 0,.int .u8 0,.int .u8 0,.int .u8 0,.int .u8 0,.int .u8 0,.int .u8 0,.int .u8 0,.int .u8 0,.int .i64 0,.slice none 0 0]
theorem Tryz.infoBook:(Tryz.prog.info? 61).map (fun i=>i.zero)=some (some (.agg bkZ)):=by kernel_rfl
theorem Tryz.sizeBook:(Tryz.prog.info? 61).map (·.size)=some 66:=by kernel_rfl
theorem Tryz.placesBook:((Tryz.prog.underlying 61).bind fun d=>match d with|.struct fs=>fs.toList.mapM (fun f=>(Tryz.prog.info? f.type).map fun i=>(f.offset,i.size))|_=>none)=some [(0,32),(32,32),(64,1),(65,1)]:=by kernel_rfl
theorem builtB (d u:List Int) (hd:d.length=32) (hu:u.length=32) (k:Int) (v:Value) (hv:v.cells=#[v]) :
  Tryz.prog.built 61 [(0,.agg (d.map (Value.int .u8)).toArray),(1,.agg (u.map (Value.int .u8)).toArray),(2,.int .i64 k),(3,v)]=some (bkC d u k v):=by
 have hb:∃ places z,(places 0=some (0,32)∧places 1=some (32,32)∧places 2=some (64,1)∧places 3=some (65,1))∧z.size=66∧∀ parts,Tryz.prog.built 61 parts=Instr.fill places z parts:=by
  have h1:=Tryz.infoBook;have h2:=Tryz.placesBook;obtain⟨F,hF⟩:∃ F,Tryz.prog.underlying 61=some (.struct F):=⟨_,Tryz.underlying61⟩
  rw[hF] at h2;have h2':F.toList.mapM (fun f=>(Tryz.prog.info? f.type).map fun i=>(f.offset,i.size))=some [(0,32),(32,32),(64,1),(65,1)]:=h2;cases hi:Tryz.prog.info? 61 with
  |none=>rw[hi] at h1;cases h1
  |some it=>
   rw[hi] at h1;have hz:it.zero=some (.agg bkZ):=by simpa using h1
   refine⟨fun i=>[(0,32),(32,32),(64,1),(65,1)].toArray[i]?,bkZ,⟨rfl,rfl,rfl,rfl⟩,rfl,fun parts=>?_⟩;simp only[Program.built,hi,hF,hz,h2'];rfl
 obtain⟨places,z,⟨p0,p1,p2,p3⟩,hz,h⟩:=hb;rw[h];exact fillB places p0 p1 p2 p3 z hz d u hd hu k v hv
end Go.Proofs.YtncomnkdlpoelaaGreatDoor
