import Derived.Test.YthmeoilbmfdhfaaGreatMBase
import Derived.RegionTactic
import Derived.Test.YthmeoilbmfdhfaaGreatMRowB
import Derived.Deep.AppendLies
namespace Go.Proofs.YthmeoilbmfdhfaaGreat
open Go.ChangeShapes Go.WideShapes Go.ChangeAt Go.RowKit
set_option linter.unusedVariables false
structure Mono (w w':World):Prop where
 size:w.heap.size≤w'.heap.size
 cell:∀ a:Addr,a.block<w.heap.size→w'.cell? a=w.cell? a
 block:∀(b:Nat) (cs:Array Value) (t:TypeId) (fr:Nat×Nat),w.heap[b]?=some (Obj.cells cs t fr)→∃ fr':Nat×Nat,w'.heap[b]?=some (Obj.cells cs t fr')
theorem Mono.refl (w:World):Mono w w:=⟨Nat.le_refl _,fun _ _=>rfl,fun b cs t fr h=>⟨fr,h⟩⟩
theorem Mono.of_below {w w':World} (h:Below w.heap.size w w'):Mono w w':=
 ⟨h.size,fun a ha=>h.cell ha,fun b cs t fr hb=>⟨fr,by rw[h.block b (Array.getElem?_eq_some_iff.1 hb).1];exact hb⟩⟩
def upd (u:Nat→Value) (i:Nat) (v:Value):Nat→Value:=fun j=>if j=i then v else u j
theorem count_set (l:List Bool):∀ i,l[i]?=some false→((l.set i true).filter (!·)).length+1=(l.filter (!·)).length:=by
 induction l with
 |nil=>intro i h;simp at h
 |cons b l ih=>
  intro i h;cases i with
  |zero=>simp at h;subst h;simp
  |succ i=>
   have:=ih i (by simpa using h);cases b<;>simp at this ⊢<;>omega
theorem getD_set (l:Array Bool) (i j:Nat) (hi:i<l.size):(l.setIfInBounds i true).getD j false=if j=i then true else l.getD j false:=by
 by_cases h:j=i
 ·subst h;simp[hi]
 ·simp[h,Ne.symm h]
section
variable {P:Program} {ops:Array Oper} {Q:Exit→Act→World→Prop} {md:Region.Mode}
theorem mem_ready {listed:Array Bool} {i:Nat}:i∈Region.ready md ops listed↔i<ops.size∧listed.getD i true=false∧∃ o,ops[i]?=some o∧∀ e∈o.after,Region.binds md e=true→listed.getD e.on false=true:=by
 unfold Region.ready
 simp only[List.mem_filter,List.mem_range,Bool.and_eq_true,Bool.not_eq_true']
 constructor
 ·rintro⟨h1,h2,h3⟩;refine⟨h1,h2,?_⟩;cases ho:ops[i]? with
  |none=>simp[ho] at h3
  |some o=>
   refine⟨o,rfl,fun e he hb=>?_⟩;simp[ho] at h3;rcases Array.mem_iff_getElem.1 he with⟨k,hk,rfl⟩
   have:=h3 k hk;simp[hb] at this;simpa using this
 ·rintro⟨h1,h2,o,ho,h3⟩;refine⟨h1,h2,?_⟩;simp[ho];intro k hk;by_cases hb:Region.binds md o.after[k]=true
  ·right;simpa using h3 _ (Array.getElem_mem hk) hb
  ·left;simpa using hb
theorem wpAny_slotsM (M:World→World→Prop) (frame:(Nat→Value)→Act) (Ext:World→Prop) (Good:Nat→World→Value→Prop)
  (hmono:∀ i w w' v,M w w'→Good i w v→Good i w' v)
  (hguard:ops.all (fun o=>o.guard.isNone)=true)
  (hback:(List.range ops.size).all (fun i=>((ops[i]?).map (fun o=>o.after.all (fun e=>decide (e.on<i)))).getD false)=true)
  (hop:∀(i:Nat) (o:Oper) (u:Nat→Value) (w:World),ops[i]?=some o→Ext w→(∀ e∈o.after,Region.binds md e=true→Good e.on w (u e.on))→
   ∀ K:Act→World→Prop,(∀ w' v,Good i w' v→Ext w'→M w w'→K (frame (upd u i v)) w')→Oper.wp P o (frame u) w K Q)
  (hdone:∀ u w,Ext w→(∀ i,i<ops.size→Good i w (u i))→Q .normal (frame u) w) :
  ∀(fuel:Nat) (listed:Array Bool) (u:Nat→Value) (w:World),listed.size=ops.size→Ext w→(∀ i,i<ops.size→listed.getD i false=true→Good i w (u i))→
   (listed.toList.filter (!·)).length≤fuel→wpAny P md ops Q fuel listed (frame u) w:=by
 have hb:∀(i:Nat) (o:Oper),ops[i]?=some o→∀ e∈o.after,e.on<i:=fun i o ho e he=>by
  have hi:i<ops.size:=(Array.getElem?_eq_some_iff.1 ho).1;have:=List.all_eq_true.1 hback i (List.mem_range.2 hi);rw[ho] at this;simp at this;obtain⟨k,hk,rfl⟩:=Array.mem_iff_getElem.1 he;exact this k hk
 have hg:∀(i:Nat) (o:Oper),ops[i]?=some o→o.guard=none:=fun i o ho=>by
  have:=Array.all_eq_true_iff_forall_mem.1 hguard o (Array.mem_of_getElem? ho);simpa using this
 have hfin:∀(listed:Array Bool) (u:Nat→Value) (w:World),listed.size=ops.size→Ext w→(∀ i,i<ops.size→listed.getD i false=true→Good i w (u i))→Region.ready md ops listed=[]→Q .normal (frame u) w:=by
  intro listed u w hs he hgd hr;refine hdone u w he fun i hi=>hgd i hi ?_
  have hall:∀ n i,i<n→i<ops.size→listed.getD i false=true:=by
   intro n
   induction n with
   |zero=>intro i h;omega
   |succ n ih=>
    intro i hin hi;by_cases hlt:i<n
    ·exact ih i hlt hi
    ·cases hl:listed.getD i false with
     |true=>rfl
     |false=>
      exfalso
      have hl':listed.getD i true=false:=by
       have hil:i<listed.size:=by omega
       simp[hil] at hl ⊢;exact hl
      have:i∈Region.ready md ops listed:=mem_ready.2 ⟨hi,hl',ops[i],by simp[hi],fun e hee _=>ih e.on (by have:=hb i ops[i] (by simp[hi]) e hee;omega) (by have:=hb i ops[i] (by simp[hi]) e hee;omega)⟩;rw[hr] at this;cases this
  exact hall (i+1) i (by omega) hi
 intro fuel
 induction fuel with
 |zero=>
  intro listed u w hs he hgd hc;have hr:Region.ready md ops listed=[]:=by
   apply List.eq_nil_iff_forall_not_mem.2;intro i hi;obtain⟨h1,h2,_⟩:=mem_ready.1 hi;have hil:i<listed.size:=by omega
   have h3:listed[i]=false:=by simpa[hil] using h2
   have:listed[i]∈listed.toList.filter (!·):=by
    rw[List.mem_filter];exact⟨by simp,by rw[h3];rfl⟩
   have:=List.length_pos_of_mem this;omega
  exact⟨hr,hfin listed u w hs he hgd hr⟩
 |succ fuel ih=>
  intro listed u w hs he hgd hc;refine⟨fun hr=>hfin listed u w hs he hgd hr,fun i hi=>?_⟩;obtain⟨h1,h2,o,ho,h3⟩:=mem_ready.1 hi;refine wpOp_step ho fun K hK=>?_
  have hw:Region.wanted o (yielded ops (frame u).tmps)=true:=by simp[Region.wanted,hg i o ho]
  rw[if_pos hw];refine hop i o u w ho he (fun e hee hbd=>hgd e.on (by have:=hb i o ho e hee;omega) (h3 e hee hbd)) K fun w' v hgv hext hm=>hK _ _ ?_
  have hil:i<listed.size:=by omega
  refine ih _ _ w' (by simpa using hs) hext (fun j hj hlj=>?_) ?_
  ·rw[getD_set listed i j hil] at hlj;unfold upd;by_cases hji:j=i
   ·subst hji;simpa using hgv
   ·rw[if_neg hji] at hlj;rw[if_neg hji];exact hmono j w w' _ hm (hgd j hj hlj)
  ·have:listed.toList[i]?=some false:=by simp[hil] at h2;simp[hil,h2]
   have:=count_set listed.toList i this;rw[Array.toList_setIfInBounds];omega
theorem wpAny_slots (frame:(Nat→Value)→Act) (Ext:World→Prop) (Good:Nat→World→Value→Prop)
  (hmono:∀ i w w' v,Mono w w'→Good i w v→Good i w' v)
  (hguard:ops.all (fun o=>o.guard.isNone)=true)
  (hback:(List.range ops.size).all (fun i=>((ops[i]?).map (fun o=>o.after.all (fun e=>decide (e.on<i)))).getD false)=true)
  (hop:∀(i:Nat) (o:Oper) (u:Nat→Value) (w:World),ops[i]?=some o→Ext w→(∀ e∈o.after,Region.binds md e=true→Good e.on w (u e.on))→
   ∀ K:Act→World→Prop,(∀ w' v,Good i w' v→Ext w'→Mono w w'→K (frame (upd u i v)) w')→Oper.wp P o (frame u) w K Q)
  (hdone:∀ u w,Ext w→(∀ i,i<ops.size→Good i w (u i))→Q .normal (frame u) w) :
  ∀(fuel:Nat) (listed:Array Bool) (u:Nat→Value) (w:World),listed.size=ops.size→Ext w→(∀ i,i<ops.size→listed.getD i false=true→Good i w (u i))→
   (listed.toList.filter (!·)).length≤fuel→wpAny P md ops Q fuel listed (frame u) w:=
 wpAny_slotsM Mono frame Ext Good hmono hguard hback hop hdone
end
theorem below_drawn {B:Nat} {a w:World} (h:Below B a w) (n:Nat):Below B a (w.drewN n):=⟨h.os,h.tape,h.output,h.size,h.block⟩
set_option maxHeartbeats 400000 in
theorem eqP_any (s:Int) (x x':Option Addr) (n c c':Nat) (zs:List Int) (w:World) (hn:zs.length=n) (hm:n≤1048576) (ha:At .u8 w x zs) (ha':At .u8 w x' zs) :
  Calls Tryz.prog 91 #[.agg #[.int .i64 s,.slice x n c],.agg #[.int .i64 s,.slice x' n c']] w fun e w'=>e=.returned (.bool true)∧Below w.heap.size w w':=by
 have e2:(s != s)=false:=by simp
 have hB:=((Below.refl w.heap.size w).alloc (Nat.le_refl _) (.cells #[.int .i64 s,.slice x n c] 106)).alloc (by simp) (.cells #[.int .i64 s,.slice x' n c'] 106)
 have A2:=ha.below hB
 have A2':=ha'.below hB
 have HB:Hid _:=hB
 clear hB
 go_enter Tryz.func91,Tryz.ntmps91
 go_wp2_with fail
 refine(eqB_any _ _ n _ _ zs _ hn hm A2 A2').mono ?_
 rintro e w1 ⟨rfl,q,rfl⟩
 clear A2 A2'
 go_wp2
 go_ret
 exact⟨rfl,below_drawn HB.out _⟩
def GEq (b off b' off' k n cap cap':Nat) (s:Int) (x x':Option Addr) (m c c':Nat):Nat→World→Value→Prop
 |0,_,v=>v=.slice (some ⟨b,off,none⟩) n cap
 |1,_,v=>v=.int .i64 k
 |2,_,v=>v=.pointer (some ⟨b,off+k*2,none⟩)
 |3,_,v=>v=.agg #[.int .i64 s,.slice x m c]
 |4,_,v=>v=.slice (some ⟨b',off',none⟩) n cap'
 |5,_,v=>v=.int .i64 k
 |6,_,v=>v=.pointer (some ⟨b',off'+k*2,none⟩)
 |7,_,v=>v=.agg #[.int .i64 s,.slice x' m c']
 |8,_,v=>v=.bool true
 |_,_,v=>v=.bool false
theorem GEq_mono (b off b' off' k n cap cap':Nat) (s:Int) (x x':Option Addr) (m c c':Nat) (i:Nat) (w w':World) (v:Value) (hm:Mono w w') (h:GEq b off b' off' k n cap cap' s x x' m c c' i w v):GEq b off b' off' k n cap cap' s x x' m c c' i w' v:=by
 unfold GEq at *
 split at h<;>exact h
set_option maxHeartbeats 400000 in
theorem eqPS_any (a a':Option Addr) (n cap cap':Nat) (ps:List PD) (w:World) (hl:ps.length=n) (hm:n≤1048576) (ha:PAt w a ps) (ha':PAt w a' ps) (hps:∀ i,(ps.getD i (0,[])).2.length≤1048576) :
  Calls Tryz.prog 44 #[.slice a n cap,.slice a' n cap'] w fun e w'=>e=.returned (.bool true)∧Below w.heap.size w w':=by
 have h0:((n:Int) != (n:Int))=false:=by simp
 go_enter Tryz.func44,Tryz.ntmps44
 go_wp2
 go_loopw [5] (fun i wr=>∃ k:Nat,k≤n∧i=.int .i64 k∧Below w.heap.size w wr) (fun i _=>n-(intOf i).toNat)
 case atStart=>exact⟨0,Nat.zero_le _,rfl,Below.refl _ _⟩
 case round=>
  obtain⟨k,hk,rfl,hbel⟩:=hrel;by_cases hlt:k<n
  ·obtain⟨b,off,rfl,hb,hc⟩:=(ha.below hbel).get (by omega);obtain⟨b',off',rfl,hb',hc'⟩:=(ha'.below hbel).get (by omega);obtain⟨x,c,g1,g2,g3⟩:=hc k (by omega);obtain⟨x',c',k1,k2,k3⟩:=hc' k (by omega);have hp:=hps k;generalize (ps.getD k (0,[])).1=s at *;generalize (ps.getD k (0,[])).2=zs at *;have hlt':(k:Int)<(n:Int):=by omega
   clear hc hc' ha ha';have HG1:Hid _:=And.intro g1 (And.intro g2 (And.intro k1 k2));clear g1 g2 k1 k2;go_wp2;refine wp_region_any (by kernel_rfl) ?_;refine wpAny_slots (frame:=fun t=>{ tmps:=#[Value.slice (some { block:=b,off:=off }) n cap,Value.slice (some { block:=b',off:=off' }) n cap',undef,undef,u4,Value.int IntKind.i64 ↑k,Value.slice (some { block:=b,off:=off }) n cap,Value.int IntKind.i64 ↑n,Value.slice (some { block:=b',off:=off' }) n cap',Value.int IntKind.i64 ↑n,Value.bool false,Value.int IntKind.i64 ↑k,Value.slice (some { block:=b,off:=off }) n cap,Value.int IntKind.i64 ↑n,Value.bool true,u15,u16,t 0,t 1,t 2,t 3,t 4,t 5,t 6,t 7,t 8,t 9],defers:=[] })
    (Ext:=fun w'=>Below wr.heap.size wr w') (Good:=GEq b off b' off' k n cap cap' s x x' zs.length c c') (GEq_mono _ _ _ _ _ _ _ _ _ _ _ _ _ _) (by kernel_rfl) (by kernel_rfl) ?hop ?hdone _ _ (fun i=>if i=0 then u17 else if i=1 then u18 else if i=2 then u19 else if i=3 then u20 else if i=4 then u21 else if i=5 then u22 else if i=6 then u23 else if i=7 then u24 else if i=8 then u25 else u26) _ (by simp) ?ext ?start (by simp)
   case start=>intro i hi h;exact absurd h (by rw[Array.getD_eq_getD_getElem?,Array.getElem?_replicate];split<;>simp)
   case ext=>exact(Below.refl _ _).drew
   case hdone=>
    intro t w' hx hg;have h9:t 9=_:=hg 9 (by decide);clear hg;rw[h9];have HX:Hid _:=hx;clear hx;go_wp2;go_roundw
    case rel=>exact⟨k+1,by omega,by go_num,hbel.trans (HX.out.mono hbel.size)⟩
    case measure=>simp[intOf];omega
   case hop=>
    intro i o t w' ho hx hdep K hK;have hi:i<10:=(Array.getElem?_eq_some_iff.1 ho).1;obtain rfl|rfl|rfl|rfl|rfl|rfl|rfl|rfl|rfl|rfl:i=0∨i=1∨i=2∨i=3∨i=4∨i=5∨i=6∨i=7∨i=8∨i=9:=by omega
    all_goals(simp at ho;subst ho)
    ·clear hdep;go_simp;exact hK w' _ rfl hx (Mono.refl _)
    ·clear hdep;go_simp;exact hK w' _ rfl hx (Mono.refl _)
    ·have d0:t 0=_:=hdep ⟨0,.data⟩ (by simp) rfl;have d1:t 1=_:=hdep ⟨1,.data⟩ (by simp) rfl;clear hdep;go_simp;simpa[upd,d0,d1] using hK w' (.pointer (some ⟨b,off+k*2,none⟩)) rfl hx (Mono.refl _)
    ·have d2:t 2=_:=hdep ⟨2,.data⟩ (by simp) rfl;clear hdep;have q1:w'.cell? ⟨b,off+k*2,none⟩=some (.int .i64 s):=by rw[hx.cell (p:=⟨b,off+k*2,none⟩) hb];exact HG1.out.1
     have q2:w'.cell? ⟨b,off+k*2+1,none⟩=some (.slice x zs.length c):=by rw[hx.cell (p:=⟨b,off+k*2+1,none⟩) hb];exact HG1.out.2.1
     go_simp;simpa[upd,d2] using hK w' (.agg #[.int .i64 s,.slice x zs.length c]) rfl hx (Mono.refl _)
    ·clear hdep;go_simp;exact hK w' _ rfl hx (Mono.refl _)
    ·clear hdep;go_simp;exact hK w' _ rfl hx (Mono.refl _)
    ·have d0:t 4=_:=hdep ⟨4,.data⟩ (by simp) rfl;have d1:t 5=_:=hdep ⟨5,.data⟩ (by simp) rfl;clear hdep;go_simp;simpa[upd,d0,d1] using hK w' (.pointer (some ⟨b',off'+k*2,none⟩)) rfl hx (Mono.refl _)
    ·have d2:t 6=_:=hdep ⟨6,.data⟩ (by simp) rfl;clear hdep;have q1:w'.cell? ⟨b',off'+k*2,none⟩=some (.int .i64 s):=by rw[hx.cell (p:=⟨b',off'+k*2,none⟩) hb'];exact HG1.out.2.2.1
     have q2:w'.cell? ⟨b',off'+k*2+1,none⟩=some (.slice x' zs.length c'):=by rw[hx.cell (p:=⟨b',off'+k*2+1,none⟩) hb'];exact HG1.out.2.2.2
     go_simp;simpa[upd,d2] using hK w' (.agg #[.int .i64 s,.slice x' zs.length c']) rfl hx (Mono.refl _)
    ·have d3:t 3=_:=hdep ⟨3,.data⟩ (by simp) rfl;have d7:t 7=_:=hdep ⟨7,.data⟩ (by simp) rfl;clear hdep;go_simp;refine(eqP_any s x x' zs.length c c' zs w' rfl hp (g3.below hx) (k3.below hx)).mono ?_;rintro e w1 ⟨rfl,hb1⟩;go_simp;simpa[upd,d3,d7] using hK w1 (.bool true) rfl (hx.trans (hb1.mono hx.size)) (Mono.of_below hb1)
    ·have d8:t 8=_:=hdep ⟨8,.data⟩ (by simp) rfl;clear hdep;go_simp;simpa[upd,d8] using hK w' (.bool false) rfl hx (Mono.refl _)
  ·go_wp2
   go_ret
   exact⟨rfl,hbel⟩
set_option maxHeartbeats 400000 in
theorem eqD_any (v v':Value) (zs:List Int) (ps:List PD) (f:Int) (d:Bool) (w:World) (h:DAt w v zs ps f d) (h':DAt w v' zs ps f d) (hz:zs.length≤1048576) (hn:ps.length≤1048576) (hps:∀ i,(ps.getD i (0,[])).2.length≤1048576) :
  Calls Tryz.prog 11 #[v,v'] w fun e w'=>e=.returned (.bool true)∧Below w.heap.size w w':=by
 obtain⟨a,c,x,cx,rfl,hA,hP,_⟩:=h
 obtain⟨a',c',x',cx',rfl,hA',hP',_⟩:=h'
 generalize hl:zs.length=L at *
 generalize hm:ps.length=m at *
 have e2:(f != f)=false:=by simp
 have e3:(d != d)=false:=by simp
 have e4:(d == d)=true:=by simp
 have hB:=((Below.refl w.heap.size w).alloc (Nat.le_refl _) (.cells #[.slice a L c,.slice x m cx,.int .i64 f,.bool d] 40)).alloc (by simp) (.cells #[.slice a' L c',.slice x' m cx',.int .i64 f,.bool d] 40)
 have A2:=hA.below hB
 have A2':=hA'.below hB
 have P2:=hP.below hB
 have P2':=hP'.below hB
 have HB:Hid _:=hB
 have HP:Hid _:=And.intro P2 P2'
 clear hB P2 P2' hA hA' hP hP'
 go_enter Tryz.func11,Tryz.ntmps11
 go_wp2_with fail
 refine(eqB_any _ _ L _ _ zs _ hl hz A2 A2').mono ?_
 rintro e w1 ⟨rfl,q,rfl⟩
 clear A2 A2'
 go_wp2_with fail
 have hD:∀ ww:World,Below ww.heap.size ww (ww.drewN q):=fun ww=>below_drawn (Below.refl _ _) q
 refine(eqPS_any x x' m cx cx' ps _ hm hn (PAt.below HP.out.1 (hD _)) (PAt.below HP.out.2 (hD _)) hps).mono ?_
 rintro e w2 ⟨rfl,hb2⟩
 have n2:w2.heap[w.heap.size]?=some (.cells #[.slice a L c,.slice x m cx,.int .i64 f,.bool d] 40 (0,0)):=by
  rw[hb2.block _ (by simp[World.drewN];omega)];show((w.alloc _).alloc _).heap[w.heap.size]?=_
  rw[((Below.refl _ (w.alloc (.cells #[.slice a L c,.slice x m cx,.int .i64 f,.bool d] 40))).alloc (Nat.le_refl _) _).block _ (by simp)];exact heap_alloc_new w _
 have n3:w2.heap[w.heap.size+1]?=some (.cells #[.slice a' L c',.slice x' m cx',.int .i64 f,.bool d] 40 (0,0)):=by
  rw[hb2.block _ (by simp[World.drewN])];have:=heap_alloc_new (w.alloc (.cells #[.slice a L c,.slice x m cx,.int .i64 f,.bool d] 40)) (.cells #[.slice a' L c',.slice x' m cx',.int .i64 f,.bool d] 40);simpa using this
 have hB2:Below w.heap.size w w2:=(below_drawn HB.out q).trans (hb2.mono (by simp[World.drewN];omega))
 have c2:=cell_of_row w2 w.heap.size 2 _ _ _ n2
 have c3:=cell_of_row w2 w.heap.size 3 _ _ _ n2
 have d2:=cell_of_row w2 (w.heap.size+1) 2 _ _ _ n3
 have d3:=cell_of_row w2 (w.heap.size+1) 3 _ _ _ n3
 simp at c2 c3 d2 d3
 have HB2:Hid _:=hB2
 clear n2 n3 hb2 hB2 hD HB HP
 go_wp2
 go_ret
 exact⟨rfl,HB2.out⟩
def pOk (S:Nat) (p:PD):Prop:=0≤p.1∧p.1<(S:Int)∧p.2.length=64
def vBase (L m:Nat) (f:Int):Prop:=L%64=0∧8≤L/64∧L/64≤256∧m≤1000∧-1≤f∧f≤1000000
def validB (L:Nat) (ps:List PD) (f:Int):Bool:=@decide (vBase L ps.length f) (by unfold vBase;infer_instance) && ps.all (fun p=>@decide (pOk (L/64) p) (by unfold pOk;infer_instance))
theorem validB_no {L:Nat} {ps:List PD} {f:Int} (h:¬ vBase L ps.length f):validB L ps f=false:=by unfold validB;simp[h]
theorem validB_bad {L:Nat} {ps:List PD} {f:Int} {k:Nat} (hk:k<ps.length) (h:¬ pOk (L/64) (ps.getD k (0,[]))):validB L ps f=false:=by
 unfold validB
 rw[Bool.and_eq_false_iff];right
 rw[List.all_eq_false]
 refine⟨ps[k],List.getElem_mem hk,?_⟩
 simpa[hk] using h
theorem validB_yes {L:Nat} {ps:List PD} {f:Int} (h:vBase L ps.length f) (h':∀ i,i<ps.length→pOk (L/64) (ps.getD i (0,[]))):validB L ps f=true:=by
 unfold validB
 rw[Bool.and_eq_true]
 refine⟨by simpa using h,?_⟩
 rw[List.all_eq_true]
 intro p hp
 obtain⟨k,hk,rfl⟩:=List.mem_iff_getElem.1 hp
 simpa[hk] using h' k hk
theorem ret_bool {a b:Bool} (h:a=b):Ending.returned (.bool a)=.returned (.bool b):=by rw[h]
set_option maxHeartbeats 400000 in
theorem sval_any (v:Value) (zs:List Int) (ps:List PD) (f:Int) (d:Bool) (w:World) (h:DAt w v zs ps f d) (hz:zs.length≤1048576) (hn:ps.length≤1048576) (hps:∀ i,(ps.getD i (0,[])).2.length≤1048576) :
  Calls Tryz.prog 27 #[v] w fun e w'=>e=.returned (.bool (validB zs.length ps f))∧Below w.heap.size w w':=by
 obtain⟨a,c,x,cx,rfl,hA,hP,_⟩:=h
 generalize zs.length=L at *
 by_cases hb:vBase L ps.length f
 ·obtain⟨b1,b2,b3,b4,b5,b6⟩:=hb;have HP:=hP;generalize hm:ps.length=m at *;have hB:=((Below.refl w.heap.size w).alloc (Nat.le_refl _) (.cells #[.slice a L c,.slice x m cx,.int .i64 f,.bool d] 40)).alloc (by simp) (.cells #[.slice a L c,.slice x m cx,.int .i64 f,.bool d] 40);have P2:=hP.below hB;have HB:Hid _:=hB;have HP2:Hid _:=P2;clear hB P2 hP HP hA;have t1:((L:Int)%64 != 0)=false:=by simp;omega
  have t2:¬ ((L:Int)/64<8):=by omega
  have t3:¬ (256<(L:Int)/64):=by omega
  have t4:¬ (1000<(m:Int)):=by omega
  have t5:¬ (f < -1):=by omega
  have t6:¬ (1000000<f):=by omega
  go_enter Tryz.func27,Tryz.ntmps27;go_wp2
  go_loop [4] (fun i=>∃ k:Nat,k≤m∧i=.int .i64 k∧∀ i,i<k→pOk (L/64) (ps.getD i (0,[]))) (fun i=>m-(intOf i).toNat)
  case atStart=>exact⟨0,Nat.zero_le _,rfl,fun i hi=>by omega⟩
  case round=>
   obtain⟨k,hk,rfl,hall⟩:=hrel;by_cases hlt:k<m
   ·obtain⟨b,off,rfl,hbl,hc⟩:=PAt.get HP2.out (by omega);obtain⟨y,cy,g1,g2,g3⟩:=hc k (by omega);have HG:Hid _:=hall;clear hall hc;have hp:=hps k;have HQ:Hid (∀ s z,(ps.getD k (0,[])).1=s→(ps.getD k (0,[])).2.length=z→(pOk (L/64) (ps.getD k (0,[]))↔(0≤s∧s<((L/64:Nat):Int)∧z=64))):=by
     rintro _ _ rfl rfl;exact Iff.rfl
    have HQ':Hid _:=HQ.out _ _ rfl rfl;clear HQ;generalize (ps.getD k (0,[])).1=s at *;generalize (ps.getD k (0,[])).2.length=z at *;go_wp2;all_goals first
     |(go_ret
       refine⟨ret_bool (validB_bad (k:=k) (by omega) ?_).symm,HB.out⟩
       rw[HQ'.out]
       rintro⟨u1,u2,u3⟩
       subst u3
       first|omega|(simp at *;omega))
     |(rename_i hgood
       refine⟨⟨k+1,by omega,by go_num,fun i hi=>?_⟩,by simp[intOf];omega⟩
       by_cases e:i=k
       · subst e
         rw[HQ'.out]
         have h64:((z:Int) != 64)=false:=hgood.2
         simp at h64
         omega
       · exact HG.out i (by omega))
   ·have hkm:k=m:=by omega
    subst hkm;go_wp2
    go_ret
    exact⟨ret_bool (validB_yes (by rw[hm];exact⟨b1,b2,b3,b4,b5,b6⟩) (by rw[hm];exact hall)).symm,HB.out⟩
 ·have hv:=validB_no hb;generalize hm:ps.length=m at *;have HV:Hid _:=hv;have HB:Hid _:=hb;clear hv hb hP hA;go_enter Tryz.func27,Tryz.ntmps27;go_wp2;all_goals first
   |(go_ret;exact⟨ret_bool HV.out.symm,((Below.refl w.heap.size w).alloc (Nat.le_refl _) _).alloc (by simp) _⟩)
   |(exfalso;apply HB.out;unfold vBase;omega)
def hasS (L:Nat) (s:Int):Bool:=decide (0≤s∧s<((L/64:Nat):Int))
set_option maxHeartbeats 400000 in
theorem has_any (g:Nat) (a x:Option Addr) (L c m cx:Nat) (f s:Int) (d:Bool) (w:World) (h:w.heap[g]?=some (.cells #[.slice a L c,.slice x m cx,.int .i64 f,.bool d] 40 (0,0))) (hL:L≤1048576) :
  Calls Tryz.prog 76 #[.pointer (some ⟨g,0,none⟩),.int .i64 s] w fun e w'=>e=.returned (.bool (hasS L s))∧w'=w:=by
 have HD:Hid (hasS L s=decide (0≤s∧s<((L/64:Nat):Int))):=rfl
 have c0:=cell_of_row w g 0 _ _ _ h
 simp at c0
 clear h
 go_enter Tryz.func76,Tryz.ntmps76
 go_wp2
 all_goals(go_ret;refine⟨ret_bool ?_,rfl⟩;rw[HD.out];simp;try omega)
set_option maxHeartbeats 400000 in
theorem ival_any (v:Value) (zs:List Int) (ps:List PD) (f:Int) (d:Bool) (w:World) (h:DAt w v zs ps f d) (hz:zs.length≤1048576) (hn:ps.length≤1048576) (hps:∀ i,(ps.getD i (0,[])).2.length≤1048576) :
  Calls Tryz.prog 34 #[v] w fun e w'=>e=.returned (.bool (validB zs.length ps f))∧Below w.heap.size w w':=by
 obtain⟨a,c,x,cx,rfl,hA,hP,_⟩:=h
 generalize zs.length=L at *
 by_cases hb:vBase L ps.length f
 ·obtain⟨b1,b2,b3,b4,b5,b6⟩:=hb;have HP:=hP;generalize hm:ps.length=m at *;have hB:=(Below.refl w.heap.size w).alloc (Nat.le_refl _) (.cells #[.slice a L c,.slice x m cx,.int .i64 f,.bool d] 40);have P2:=hP.below hB;have HB:Hid _:=hB;have HP2:Hid _:=P2;clear hB P2 hP HP hA;have t1:((L:Int)%64 != 0)=false:=by simp;omega
  have t2:¬ ((L:Int)<512):=by omega
  have t3:¬ (16384<(L:Int)):=by omega
  have t4:¬ (1000<(m:Int)):=by omega
  have t5:¬ (f < -1):=by omega
  have t6:¬ (1000000<f):=by omega
  go_enter Tryz.func34,Tryz.ntmps34;go_wp2;have n0:(w.alloc (.cells #[.slice a L c,.slice x m cx,.int .i64 f,.bool d] 40)).heap[w.heap.size]?=some (.cells #[.slice a L c,.slice x m cx,.int .i64 f,.bool d] 40 (0,0)):=heap_alloc_new w _;have hW:=HB.out;have hP2:=HP2.out;have hz0:w.heap.size<(w.alloc (.cells #[.slice a L c,.slice x m cx,.int .i64 f,.bool d] 40)).heap.size:=by simp
  clear HB HP2;generalize (w.alloc (.cells #[.slice a L c,.slice x m cx,.int .i64 f,.bool d] 40))=W at *
  go_loopw [39] (fun i wr=>∃ k:Nat,k≤m∧i=.int .i64 k∧(∀ i,i<k→pOk (L/64) (ps.getD i (0,[])))∧Below W.heap.size W wr) (fun i _=>m-(intOf i).toNat)
  case atStart=>exact⟨0,Nat.zero_le _,rfl,fun i hi=>by omega,Below.refl _ _⟩
  case round=>
   obtain⟨k,hk,rfl,hall,hbel⟩:=hrel;by_cases hlt:k<m
   ·obtain⟨b,off,rfl,hbl,hc⟩:=PAt.get (PAt.below hP2 hbel) (by omega);obtain⟨y,cy,g1,g2,g3⟩:=hc k (by omega);have HG:Hid _:=hall;clear hall hc;have hp:=hps k;have HQ:Hid (∀ s z,(ps.getD k (0,[])).1=s→(ps.getD k (0,[])).2.length=z→(pOk (L/64) (ps.getD k (0,[]))↔(0≤s∧s<((L/64:Nat):Int)∧z=64))):=by
     rintro _ _ rfl rfl;exact Iff.rfl
    have HQ':Hid _:=HQ.out _ _ rfl rfl;clear HQ;generalize (ps.getD k (0,[])).1=s at *;generalize (ps.getD k (0,[])).2.length=z at *;have hb1:=(Below.refl wr.heap.size wr).alloc (Nat.le_refl _) (.cells #[.int .i64 s,.slice y z cy] 106);have n1:(wr.alloc (.cells #[.int .i64 s,.slice y z cy] 106)).heap[w.heap.size]?=some (.cells #[.slice a L c,.slice (some ⟨b,off,none⟩) m cx,.int .i64 f,.bool d] 40 (0,0)):=by
     rw[hb1.block _ (by have:=hbel.size;omega),hbel.block _ hz0];exact n0
    have HN1:Hid _:=n1;have HBL:Hid (Below W.heap.size W (wr.alloc (.cells #[.int .i64 s,.slice y z cy] 106))):=hbel.trans (hb1.mono hbel.size);clear n1 hbel hb1;by_cases hs:hasS L s=true
    ·by_cases h64:z=64
     ·subst h64;go_wp2_with (go_at_call 76;refine(has_any w.heap.size _ _ _ _ _ _ _ _ _ _ HN1.out hz).mono ?_;rintro e w1 ⟨rfl,rfl⟩;rw[hs]);go_roundw
      case rel=>
       refine⟨k+1,by omega,by go_num,fun i hi=>?_,HBL.out⟩;by_cases e:i=k
       ·subst e;rw[HQ'.out];unfold hasS at hs;simp at hs;simp;omega
       ·exact HG.out i (by omega)
      case measure=>simp[intOf];omega
     ·have h64':((z:Int) != 64)=true:=by rw[bne_iff_ne];omega
      go_wp2_with (go_at_call 76;refine(has_any w.heap.size _ _ _ _ _ _ _ _ _ _ HN1.out hz).mono ?_;rintro e w1 ⟨rfl,rfl⟩;rw[hs])
      go_ret
      refine⟨ret_bool (validB_bad (k:=k) (by omega) ?_).symm,hW.trans (HBL.out.mono (by omega))⟩;rw[HQ'.out];omega
    ·have hs':hasS L s=false:=by simpa using hs
     clear hs;go_wp2_with (go_at_call 76;refine(has_any w.heap.size _ _ _ _ _ _ _ _ _ _ HN1.out hz).mono ?_;rintro e w1 ⟨rfl,rfl⟩;rw[hs'])
     go_ret
     refine⟨ret_bool (validB_bad (k:=k) (by omega) ?_).symm,hW.trans (HBL.out.mono (by omega))⟩;rw[HQ'.out];unfold hasS at hs';simp at hs';omega
   ·have hkm:k=m:=by omega
    subst hkm;go_wp2
    go_ret
    exact⟨ret_bool (validB_yes (by rw[hm];exact⟨b1,b2,b3,b4,b5,b6⟩) (by rw[hm];exact hall)).symm,hW.trans (hbel.mono (by omega))⟩
 ·have hv:=validB_no hb;generalize hm:ps.length=m at *;have HV:Hid _:=hv;have HB:Hid _:=hb;clear hv hb hP hA;go_enter Tryz.func34,Tryz.ntmps34;go_wp2;all_goals first
   |(go_ret;exact⟨ret_bool HV.out.symm,((Below.refl w.heap.size w).alloc (Nat.le_refl _) _)⟩)
   |(exfalso;apply HB.out;unfold vBase;omega)
theorem Tryz.infoU8':(Tryz.prog.info? 5).map (fun i=>(i.zero,i.size,i.bytes))=some (some (.int .u8 0),1,1):=by kernel_rfl
def Part (w:World) (v:Value) (zs:List Int):Prop:=
 ∃ b o c,v=.slice (some ⟨b,o,none⟩) zs.length c∧b<w.heap.size∧∀ i,i<zs.length→w.cell? ⟨b,o+i,none⟩=some (.int .u8 (zs.getD i 0))
def Own (w:World) (B:Nat) (v:Value) (zs:List Int):Prop:=
 w.ownsRow B 5 1 v zs.length (zs.map (Value.int .u8))∧∃ g c,v=.slice (some ⟨g,0,none⟩) zs.length c
theorem Own.base {w:World} {B:Nat} {v:Value} {zs:List Int} (h:Own w B v zs):∃ g c,v=.slice (some ⟨g,0,none⟩) zs.length c∧B≤g∧g<w.heap.size∧zs.length≤c:=by
 obtain⟨h,g,c,rfl⟩:=h
 rcases h.2 with⟨h',_⟩|⟨g',c',cur,h',hb,hh,hc,_⟩
 ·cases h'
 ·cases h';exact⟨g,c,rfl,hb,(Array.getElem?_eq_some_iff.1 hh).1,hc⟩
theorem Own.part {w:World} {B:Nat} {v:Value} {zs:List Int} (h:Own w B v zs):Part w v zs:=by
 obtain⟨g,c,rfl,hb,hg,hc⟩:=h.base
 refine⟨g,0,c,rfl,hg,fun i hi=>?_⟩
 rw[Nat.zero_add,h.1.cellAt i (by omega)];simp[hi]
theorem Part.below {w w':World} {v:Value} {zs:List Int} (h:Part w v zs) (hb:Below w.heap.size w w'):Part w' v zs:=by
 obtain⟨b,o,c,rfl,hl,hc⟩:=h
 exact⟨b,o,c,rfl,by have:=hb.size;omega,fun i hi=>by rw[hb.cell (p:=⟨b,o+i,none⟩) hl];exact hc i hi⟩
theorem Own.empty (w:World) (B:Nat) (hB:B≤w.heap.size):Own (w.alloc (.cells #[] 5)) B (.slice (some ⟨w.heap.size,0,none⟩) 0 0) []:=
 ⟨World.ownsRow_lit w #[] 0 hB (by simp) (by simp),_,_,rfl⟩
theorem Own.alloc {w:World} {B:Nat} {v:Value} {zs:List Int} (h:Own w B v zs) (o:Obj):Own (w.alloc o) B v zs:=⟨h.1.alloc _,h.2⟩
theorem wpList_app (w:World) {ops:Array Oper} {rest:List Oper} {o:Oper} {a:Act} {Q:Exit→Act→World→Prop}
  (hg:o.guard=none) (s x:Operand) (hop:o.op=Op.call { callee:=Callee.builtin Builtin.append,args:=#[s,x],argTypes:=#[22,22] })
  (B:Nat) (v:Value) (xs:List Int) (hs:a.eval s=v) (hown:Own w B v xs) (ad:Addr) (m c:Nat) (news:List Int) (hx:a.eval x=.slice (some ad) m c) (hl:news.length=m)
  (hnews:∀ j,j<m→w.cell? (ad.add j)=some (.int .u8 (news.getD j 0))) (hb:xs.length+m≤1099511627776) (hB:B≤w.heap.size)
  (hK:∀ v' w',Own w' B v' (xs++news)→Below B w w'→w.grownBy w' v.ownBlock→wpList Tryz.prog ops Q rest (a.put o.dst v') w') :
  wpList Tryz.prog ops Q (o::rest) a w:=by
 obtain⟨i0,hi,hz0,hz1,hz2⟩:=info_parts Tryz.infoU8'
 have hbase:=hown.base
 refine wpList_append_own w hg s x 22 hop B 5 i0 (.int .u8 0) 1 1 Tryz.underlying22 hi hz0 hz1 hz2 rfl (by decide) v xs.length _ hs hown.1 ad m c (news.map (Value.int .u8)) hx (by simp[hl]) ?_ (ints_oneCell _ _) (by unfold maxLen;omega) (by omega) hB ?_
 ·intro j u hu;have hj:j<news.length:=by have:=(List.getElem?_eq_some_iff.1 hu).1;simpa using this
  rw[hnews j (by omega)];simp[hj] at hu;simp[hj,hu]
 ·intro v' w' h1 h2 h3;obtain⟨g,c0,hv,hBg,_,_⟩:=hbase;have hbel:Below B w w':=(Below.refl _ _).grown h2 hB (fun k hk=>by rw[hv] at hk;simp[Value.ownBlock] at hk;omega);refine hK v' w' ⟨?_,?_⟩ hbel h2
  ·rw[List.map_append,List.length_append,hl];exact h1
  ·rcases h1.2 with⟨h',_⟩|⟨g',c',cur,h',_⟩
   ·exact absurd (h3.1 h').1 (by rw[hv];simp)
   ·exact⟨g',c',by rw[h',List.length_append,hl]⟩
set_option maxHeartbeats 400000 in
theorem zeros_any (n:Int) (w:World) (h0:0≤n) (h1:n≤1048576) :
  Calls Tryz.prog 100 #[.int .i64 n] w fun e w'=>∃ v,e=.returned v∧Own w' w.heap.size v (List.replicate n.toNat 0)∧Below w.heap.size w w':=by
 obtain⟨n,rfl⟩:=Int.eq_ofNat_of_zero_le h0
 go_enter Tryz.func100,Tryz.ntmps100
 go_wp2
 go_loopw [3,4] (fun v i wr=>∃ k:Nat,k≤n∧i=.int .i64 k∧Own wr w.heap.size v (List.replicate k 0)∧Below w.heap.size w wr) (fun _ i _=>n-(intOf i).toNat)
 case atStart=>exact⟨0,Nat.zero_le _,rfl,Own.empty _ _ (Nat.le_refl _),(Below.refl _ _).alloc (Nat.le_refl _) _⟩
 case round=>
  obtain⟨k,hk,rfl,hown,hbel⟩:=hrel;by_cases hlt:k<n
  ·have hsz:=hbel.size;go_wp2_with (at_builtin;refine wpList_app _ rfl _ _ rfl w.heap.size _ _ rfl (hown.alloc _) ⟨wr.heap.size,0,none⟩ 1 1 [0] rfl rfl ?c1 ?c2 ?c3 ?_)
   case c1=>intro j hj;obtain rfl:j=0:=by omega
            simp[Addr.add]
   case c2=>simp;omega
   case c3=>simp;omega
   intro v' w1 hown' hbel' _;have HO:Hid (Own w1 w.heap.size v' (List.replicate (k+1) 0)):=by rw[List.replicate_succ'];exact hown'
   have HB:Hid (Below w.heap.size w w1):=(hbel.alloc (by omega) _).trans hbel';clear hown hown' hbel hbel';go_wp2;go_roundw
   case rel=>exact⟨k+1,by omega,by go_num,HO.out,HB.out⟩
   case measure=>simp[intOf];omega
  ·have hkn:k=n:=by omega
   subst hkn;have HO:Hid _:=hown;clear hown;go_wp2
   go_ret
   exact⟨_,rfl,HO.out,hbel⟩
end Go.Proofs.YthmeoilbmfdhfaaGreat
