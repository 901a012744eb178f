import Derived.Test.YtganeokokjodoaaGreatMReg5
import Derived.Test.YtganeokokjodoaaGreatMBase
import Derived.Deep.AppendLies
namespace Go.Proofs.YtganeokokjodoaaGreat
open Go.ChangeShapes Go.WideShapes Go.ChangeAt Go.RowKit
set_option linter.unusedVariables false
section
variable {P:Program} {ops:Array Oper} {Q:Exit→Act→World→Prop} {md:Region.Mode}
theorem wpAny_slotsU (M:Nat→World→World→Prop) (frame:(Nat→Value)→Act) (Ext:(Nat→Bool)→(Nat→Value)→World→Prop) (Good:Nat→(Nat→Bool)→World→Value→Prop)
  (hstab:∀ j L w w' i v,M i w w'→i≠j→L i=false→Good j L w v→Good j (updK L i) w' v)
  (hback:(List.range ops.size).all (fun i=>((ops[i]?).map (fun o=>o.after.all (fun e=>decide (e.on<i)))).getD false)=true)
  (hop:∀(i:Nat) (o:Oper) (L:Nat→Bool) (u:Nat→Value) (w:World),ops[i]?=some o→L i=false→Ext L u w→(∀ e∈o.after,Region.binds md e=true→L e.on=true∧Good e.on L w (u e.on))→
   ∀ K:Act→World→Prop,(∀ w' v,Good i (updK L i) w' v→Ext (updK L i) (upd u i v) w'→M i w w'→K (frame (upd u i v)) w')→(if Region.wanted o (yielded ops (frame u).tmps)=true then Oper.wp P o (frame u) w K Q else K ((frame u).put o.dst undef) w))
  (hdone:∀ L u w,Ext L u w→(∀ i,i<ops.size→Good i L w (u i))→Q .normal (frame u) w) :
  ∀(fuel:Nat) (listed:Array Bool) (u:Nat→Value) (w:World),listed.size=ops.size→Ext (fun n=>listed.getD n false) u w→(∀ i,i<ops.size→listed.getD i false=true→Good i (fun n=>listed.getD n false) w (u i))→
   (listed.toList.filter (!·)).length≤fuel→wpAny P md ops Q fuel listed (frame u) w:=by
 have hb:∀(i:Nat) (o:Oper),ops[i]?=some o→∀ e∈o.after,e.on<i:=fun i o ho e he=>by
  have hi:i<ops.size:=(Array.getElem?_eq_some_iff.1 ho).1;have:=List.all_eq_true.1 hback i (List.mem_range.2 hi);rw[ho] at this;simp at this;obtain⟨k,hk,rfl⟩:=Array.mem_iff_getElem.1 he;exact this k hk
 have hfin:∀(listed:Array Bool) (u:Nat→Value) (w:World),listed.size=ops.size→Ext (fun n=>listed.getD n false) u w→(∀ i,i<ops.size→listed.getD i false=true→Good i (fun n=>listed.getD n false) w (u i))→Region.ready md ops listed=[]→Q .normal (frame u) w:=by
  intro listed u w hs he hgd hr;refine hdone _ u w he fun i hi=>hgd i hi ?_
  have hall:∀ n i,i<n→i<ops.size→listed.getD i false=true:=by
   intro n
   induction n with
   |zero=>intro i h;omega
   |succ n ih=>
    intro i hin hi;by_cases hlt:i<n
    ·exact ih i hlt hi
    ·cases hl:listed.getD i false with
     |true=>rfl
     |false=>
      exfalso
      have hl':listed.getD i true=false:=by
       have hil:i<listed.size:=by omega
       simp[hil] at hl ⊢;exact hl
      have:i∈Region.ready md ops listed:=mem_ready.2 ⟨hi,hl',ops[i],by simp[hi],fun e hee _=>ih e.on (by have:=hb i ops[i] (by simp[hi]) e hee;omega) (by have:=hb i ops[i] (by simp[hi]) e hee;omega)⟩;rw[hr] at this;cases this
  exact hall (i+1) i (by omega) hi
 intro fuel
 induction fuel with
 |zero=>
  intro listed u w hs he hgd hc;have hr:Region.ready md ops listed=[]:=by
   apply List.eq_nil_iff_forall_not_mem.2;intro i hi;obtain⟨h1,h2,_⟩:=mem_ready.1 hi;have hil:i<listed.size:=by omega
   have h3:listed[i]=false:=by simpa[hil] using h2
   have:listed[i]∈listed.toList.filter (!·):=by
    rw[List.mem_filter];exact⟨by simp,by rw[h3];rfl⟩
   have:=List.length_pos_of_mem this;omega
  exact⟨hr,hfin listed u w hs he hgd hr⟩
 |succ fuel ih=>
  intro listed u w hs he hgd hc;refine⟨fun hr=>hfin listed u w hs he hgd hr,fun i hi=>?_⟩;obtain⟨h1,h2,o,ho,h3⟩:=mem_ready.1 hi;refine wpOp_step ho fun K hK=>?_
  have hil:i<listed.size:=by omega
  have hnl:listed.getD i false=false:=by simp[hil] at h2 ⊢;exact h2
  have hupd:(fun n=>(listed.setIfInBounds i true).getD n false)=updK (fun n=>listed.getD n false) i:=by
   funext n;rw[getD_set listed i n hil];rfl
  refine hop i o (fun n=>listed.getD n false) u w ho hnl he (fun e hee hbd=>⟨h3 e hee hbd,hgd e.on (by have:=hb i o ho e hee;omega) (h3 e hee hbd)⟩) K fun w' v hgv hext hm=>hK _ _ ?_
  refine ih _ _ w' (by simpa using hs) (by rw[hupd];exact hext) (fun j hj hlj=>?_) ?_
  ·rw[getD_set listed i j hil] at hlj;unfold upd;by_cases hji:j=i
   ·subst hji;rw[hupd];simpa using hgv
   ·rw[if_neg hji] at hlj;rw[if_neg hji,hupd];exact hstab j _ w w' i _ hm (Ne.symm hji) hnl (hgd j hj hlj)
  ·have:listed.toList[i]?=some false:=by simp[hil] at h2;simp[hil,h2]
   have:=count_set listed.toList i this;rw[Array.toList_setIfInBounds];omega
end
end Go.Proofs.YtganeokokjodoaaGreat
namespace Go.Proofs.YtganeokokjodoaaGreat
open Go.ChangeShapes Go.WideShapes Go.ChangeAt Go.RowKit
set_option linter.unusedVariables false
theorem Tryz.infoU8':(Tryz.prog.info? 5).map (fun i=>(i.zero,i.size,i.bytes))=some (some (.int .u8 0),1,1):=by kernel_rfl
def Part (w:World) (v:Value) (zs:List Int):Prop:=
 ∃ b o c,v=.slice (some ⟨b,o,none⟩) zs.length c∧b<w.heap.size∧∀ i,i<zs.length→w.cell? ⟨b,o+i,none⟩=some (.int .u8 (zs.getD i 0))
def Own (w:World) (B:Nat) (v:Value) (zs:List Int):Prop:=
 w.ownsRow B 5 1 v zs.length (zs.map (Value.int .u8))∧∃ g c,v=.slice (some ⟨g,0,none⟩) zs.length c
theorem Own.base {w:World} {B:Nat} {v:Value} {zs:List Int} (h:Own w B v zs):∃ g c,v=.slice (some ⟨g,0,none⟩) zs.length c∧B≤g∧g<w.heap.size∧zs.length≤c:=by
 obtain⟨h,g,c,rfl⟩:=h
 rcases h.2 with⟨h',_⟩|⟨g',c',cur,h',hb,hh,hc,_⟩
 ·cases h'
 ·cases h';exact⟨g,c,rfl,hb,(Array.getElem?_eq_some_iff.1 hh).1,hc⟩
theorem Own.part {w:World} {B:Nat} {v:Value} {zs:List Int} (h:Own w B v zs):Part w v zs:=by
 obtain⟨g,c,rfl,hb,hg,hc⟩:=h.base
 refine⟨g,0,c,rfl,hg,fun i hi=>?_⟩
 rw[Nat.zero_add,h.1.cellAt i (by omega)];simp[hi]
theorem Part.below {w w':World} {v:Value} {zs:List Int} (h:Part w v zs) (hb:Below w.heap.size w w'):Part w' v zs:=by
 obtain⟨b,o,c,rfl,hl,hc⟩:=h
 exact⟨b,o,c,rfl,by have:=hb.size;omega,fun i hi=>by rw[hb.cell (p:=⟨b,o+i,none⟩) hl];exact hc i hi⟩
theorem Own.empty (w:World) (B:Nat) (hB:B≤w.heap.size):Own (w.alloc (.cells #[] 5)) B (.slice (some ⟨w.heap.size,0,none⟩) 0 0) []:=
 ⟨World.ownsRow_lit w #[] 0 hB (by simp) (by simp),_,_,rfl⟩
theorem Own.alloc {w:World} {B:Nat} {v:Value} {zs:List Int} (h:Own w B v zs) (o:Obj):Own (w.alloc o) B v zs:=⟨h.1.alloc _,h.2⟩
theorem wpList_app (w:World) {ops:Array Oper} {rest:List Oper} {o:Oper} {a:Act} {Q:Exit→Act→World→Prop}
  (hg:o.guard=none) (s x:Operand) (hop:o.op=Op.call { callee:=Callee.builtin Builtin.append,args:=#[s,x],argTypes:=#[22,22] })
  (B:Nat) (v:Value) (xs:List Int) (hs:a.eval s=v) (hown:Own w B v xs) (ad:Addr) (m c:Nat) (news:List Int) (hx:a.eval x=.slice (some ad) m c) (hl:news.length=m)
  (hnews:∀ j,j<m→w.cell? (ad.add j)=some (.int .u8 (news.getD j 0))) (hb:xs.length+m≤1099511627776) (hB:B≤w.heap.size)
  (hK:∀ v' w',Own w' B v' (xs++news)→Below B w w'→w.grownBy w' v.ownBlock→wpList Tryz.prog ops Q rest (a.put o.dst v') w') :
  wpList Tryz.prog ops Q (o::rest) a w:=by
 obtain⟨i0,hi,hz0,hz1,hz2⟩:=info_parts Tryz.infoU8'
 have hbase:=hown.base
 refine wpList_append_own w hg s x 22 hop B 5 i0 (.int .u8 0) 1 1 Tryz.underlying22 hi hz0 hz1 hz2 rfl (by decide) v xs.length _ hs hown.1 ad m c (news.map (Value.int .u8)) hx (by simp[hl]) ?_ (ints_oneCell _ _) (by unfold maxLen;omega) (by omega) hB ?_
 ·intro j u hu;have hj:j<news.length:=by have:=(List.getElem?_eq_some_iff.1 hu).1;simpa using this
  rw[hnews j (by omega)];simp[hj] at hu;simp[hj,hu]
 ·intro v' w' h1 h2 h3;obtain⟨g,c0,hv,hBg,_,_⟩:=hbase;have hbel:Below B w w':=(Below.refl _ _).grown h2 hB (fun k hk=>by rw[hv] at hk;simp[Value.ownBlock] at hk;omega);refine hK v' w' ⟨?_,?_⟩ hbel h2
  ·rw[List.map_append,List.length_append,hl];exact h1
  ·rcases h1.2 with⟨h',_⟩|⟨g',c',cur,h',_⟩
   ·exact absurd (h3.1 h').1 (by rw[hv];simp)
   ·exact⟨g',c',by rw[h',List.length_append,hl]⟩
end Go.Proofs.YtganeokokjodoaaGreat
namespace Go.Proofs.YtganeokokjodoaaGreat
open Go.ChangeShapes Go.WideShapes Go.ChangeAt Go.RowKit
set_option linter.unusedVariables false
def Fresh (w w':World) (v:Value):Prop:=∀ k,v.ownBlock=some k→w.heap.size≤k∧k<w'.heap.size
def BlkLt (w:World) (v:Value):Prop:=∀ k,v.ownBlock=some k→k<w.heap.size
def ApV (x y:Value):Prop:=∀ k,x.ownBlock=some k→y.ownBlock≠some k
structure ApX (W:World) (ps:List Nat) (L:Nat→Bool) (u:Nat→Value) (w:World):Prop where
 below:Below W.heap.size W w
 blt:∀ p,p∈ps→L p=true→BlkLt w (u p)
 ap:∀ p,p∈ps→∀ q,q∈ps→p≠q→L p=true→L q=true→ApV (u p) (u q)
theorem ApX.start (W:World) (ps:List Nat) (L:Nat→Bool) (u:Nat→Value) (h:∀ i,L i=false):ApX W ps L u W:=
 ⟨Below.refl _ _,fun p _ hp=>(by rw[h] at hp;cases hp),fun p _ q _ _ hp=>(by rw[h] at hp;cases hp)⟩
theorem ApX.step {W:World} {ps:List Nat} {L:Nat→Bool} {u:Nat→Value} {w w':World} (h:ApX W ps L u w) (i:Nat) (v:Value) (b:Below w.heap.size w w') (hv:i∈ps→Fresh w w' v):ApX W ps (updK L i) (upd u i v) w':=by
 refine⟨h.below.trans (b.mono h.below.size),fun p hp hl=>?_,fun p hp q hq hne hlp hlq=>?_⟩
 ·by_cases e:p=i
  ·subst e;simp only[upd,if_true];exact fun k hk=>(hv hp k hk).2
  ·simp only[updK,if_neg e] at hl;simp only[upd,if_neg e];exact fun k hk=>Nat.lt_of_lt_of_le (h.blt p hp hl k hk) b.size
 ·by_cases e:p=i
  ·subst e;have e2:¬ q=p:=fun h=>hne h.symm
   simp only[updK,if_neg e2] at hlq;simp only[upd,if_true,if_neg e2];intro k hk hk';have h1:=(hv hp k hk).1;have h2:=h.blt q hq hlq k hk';omega
  ·by_cases e2:q=i
   ·subst e2;simp only[updK,if_neg e] at hlp;simp only[upd,if_true,if_neg e];intro k hk hk';have h1:=(hv hq k hk').1;have h2:=h.blt p hp hlp k hk;omega
   ·simp only[updK,if_neg e,if_neg e2] at hlp hlq;simp only[upd,if_neg e,if_neg e2];exact h.ap p hp q hq hne hlp hlq
theorem ApX.drew {W:World} {ps:List Nat} {L:Nat→Bool} {u:Nat→Value} {w:World} (h:ApX W ps L u w):ApX W ps L u w.drew:=⟨⟨h.below.os,h.below.tape,h.below.output,h.below.size,h.below.block⟩,h.blt,h.ap⟩
structure ApS (w:World) (R last:Nat) (T:TypeId) (ZS:Array Value) (Fin:World→Array Value→Prop) (ps:List Nat) (L:Nat→Bool) (u:Nat→Value) (w':World):Prop where
 ax:ApX w ps L u w'
 pre:L last=false→w'.heap[R]?=some (.cells ZS T (0,0))
 fin:L last=true→∃ cs,w'.heap[R]?=some (.cells cs T (0,0))∧Fin w' cs
section
variable {w:World} {R last:Nat} {T:TypeId} {ZS:Array Value} {Fin:World→Array Value→Prop} {ps:List Nat} {L:Nat→Bool} {u:Nat→Value} {w' w'':World}
theorem ApS.lt (h:ApS w R last T ZS Fin ps L u w'):R<w'.heap.size:=by
 cases hl:L last with
 |false=>exact(Array.getElem?_eq_some_iff.1 (h.pre hl)).1
 |true=>obtain⟨cs,h1,_⟩:=h.fin hl;exact(Array.getElem?_eq_some_iff.1 h1).1
theorem ApS.step (h:ApS w R last T ZS Fin ps L u w') (stab:∀ a b cs,Below a.heap.size a b→Fin a cs→Fin b cs) (i:Nat) (hi:i≠last) (v:Value) (b:Below w'.heap.size w' w'') (hv:i∈ps→Fresh w' w'' v):ApS w R last T ZS Fin ps (updK L i) (upd u i v) w'':=by
 have hlt:=h.lt
 have e:updK L i last=L last:=by unfold updK;rw[if_neg (fun h=>hi h.symm)]
 refine⟨h.ax.step i v b hv,fun hl=>?_,fun hl=>?_⟩
 ·rw[b.block R hlt];exact h.pre (e ▸ hl)
 ·obtain⟨cs,h1,h2⟩:=h.fin (e ▸ hl);exact⟨cs,by rw[b.block R hlt];exact h1,stab _ _ _ b h2⟩
theorem ApS.put (h:ApS w R last T ZS Fin ps L u w') (hR:w.heap.size≤R) (hl:last∉ps) (v:Value) {cs:Array Value} (hw:Wr R w' w'') (hr:w''.heap[R]?=some (.cells cs T (0,0))) (hf:Fin w'' cs):ApS w R last T ZS Fin ps (updK L last) (upd u last v) w'':=by
 have hk:∀ p,p∈ps→p≠last:=fun p hp e=>hl (e ▸ hp)
 refine⟨⟨h.ax.below.trans (hw.below hR),fun p hp hlp=>?_,fun p hp q hq hne hlp hlq=>?_⟩,fun hx=>?_,fun _=>⟨cs,hr,hf⟩⟩
 ·simp only[updK,if_neg (hk p hp)] at hlp;simp only[upd,if_neg (hk p hp)];exact fun k hk'=>by rw[hw.size];exact h.ax.blt p hp hlp k hk'
 ·simp only[updK,if_neg (hk p hp)] at hlp;simp only[updK,if_neg (hk q hq)] at hlq;simp only[upd,if_neg (hk p hp),if_neg (hk q hq)];exact h.ax.ap p hp q hq hne hlp hlq
 ·unfold updK at hx;simp at hx
theorem ApS.start {wb:World} (ax:ApX w ps L u wb) (h:∀ i,L i=false) (hr:wb.heap[R]?=some (.cells ZS T (0,0))):ApS w R last T ZS Fin ps L u wb:=⟨ax,fun _=>hr,fun hl=>(by rw[h] at hl;cases hl)⟩
end
end Go.Proofs.YtganeokokjodoaaGreat
namespace Go.Proofs.YtganeokokjodoaaGreat
open Go.ChangeShapes Go.WideShapes Go.ChangeAt Go.RowKit
set_option linter.unusedVariables false
def RowV (w:World) (g:Nat) (t:TypeId) (cs:Array Value):Prop:=w.heap[g]?=some (.cells cs t (0,0))
theorem RowV.lt {w:World} {g:Nat} {t:TypeId} {cs:Array Value} (h:RowV w g t cs):g<w.heap.size:=(Array.getElem?_eq_some_iff.1 h).1
theorem RowV.below {w w':World} {g:Nat} {t:TypeId} {cs:Array Value} (h:RowV w g t cs) (b:Below w.heap.size w w'):RowV w' g t cs:=by unfold RowV;rw[b.block g h.lt];exact h
theorem RowV.wr {w w':World} {g V:Nat} {t:TypeId} {cs:Array Value} (h:RowV w g t cs) (hw:Wr V w w') (hne:V<g):RowV w' g t cs:=by unfold RowV;rw[hw.block g (by omega)];exact h
def iC (xs:List Int):Array Value:=(xs.map (Value.int .i64)).toArray
theorem RowV.i64 {w:World} {g:Nat} {t:TypeId} {xs:List Int} (h:RowV w g t (iC xs)):At .i64 w (some ⟨g,0,none⟩) xs:=
 .inr ⟨g,0,rfl,h.lt,fun i hi=>by rw[Nat.zero_add,cell_of_row w g i _ _ _ h];simp[iC,hi]⟩
theorem RowV.fz {w:World} {g:Nat} {t:TypeId} {cs:Array Value} (h:RowV w g t cs) (i:Nat):w.frozen? ⟨g,i,none⟩=false:=frozen_of_row w g i _ _ h
theorem RowV.of_owns {w:World} {B g n:Nat} {xs:List Int} (h:w.ownsRow B 2 1 (.slice (some ⟨g,0,none⟩) n n) n (xs.map (Value.int .i64))):RowV w g 2 (iC xs):=by
 rcases h.2 with⟨h',_⟩|⟨g',cap,cur,h',hb,hh,hc,hm,hs,ht⟩
 ·cases h'
 ·cases h';unfold RowV;rw[hh];have:cur=iC xs:=by
   apply Array.toList_inj.1;rw[List.take_of_length_le (by rw[Array.length_toList,hs];exact Nat.le_refl _)] at ht;rw[ht];simp[iC]
  rw[this]
theorem row_full {cur:Array Value} {xs:List Int} {m:Nat} (hs:cur.size=m) (hl:xs.length=m) (h:∀ i,i<m→cur[i]?=some (.int .i64 (xs.getD i 0))):cur=iC xs:=by
 apply Array.ext_getElem?
 intro i
 by_cases hi:i<m
 ·rw[h i hi];simp[iC,show i<xs.length by omega]
 ·rw[Array.getElem?_eq_none (by omega),Array.getElem?_eq_none (by simp[iC];omega)]
end Go.Proofs.YtganeokokjodoaaGreat
namespace Go.Proofs.YtganeokokjodoaaGreat
open Go.ChangeShapes Go.WideShapes Go.ChangeAt Go.RowKit
set_option linter.unusedVariables false
def kF (i:Nat):IntKind:=if i%4=1 then .i64 else .u32
theorem kF0 (k:Nat):kF (k*4)=.u32:=by unfold kF;rw[if_neg (by omega)]
theorem kF1 (k:Nat):kF (k*4+1)=.i64:=by unfold kF;rw[if_pos (by omega)]
theorem kF2 (k:Nat):kF (k*4+2)=.u32:=by unfold kF;rw[if_neg (by omega)]
theorem kF3 (k:Nat):kF (k*4+3)=.u32:=by unfold kF;rw[if_neg (by omega)]
def FAt (w:World) (a:Option Addr) (F:List Int):Prop:=
 F=[]∨∃ b off,a=some ⟨b,off,none⟩∧b<w.heap.size∧∀ i,i<F.length→w.cell? ⟨b,off+i,none⟩=some (.int (kF i) (F.getD i 0))
theorem FAt.get {w:World} {a:Option Addr} {F:List Int} (h:FAt w a F) (hz:0<F.length) :
  ∃ b off,a=some ⟨b,off,none⟩∧b<w.heap.size∧∀ i,i<F.length→w.cell? ⟨b,off+i,none⟩=some (.int (kF i) (F.getD i 0)):=by
 rcases h with h|h
 ·simp[h] at hz
 ·exact h
theorem FAt.below {w w':World} {a:Option Addr} {F:List Int} (h:FAt w a F) (hb:Below w.heap.size w w'):FAt w' a F:=by
 rcases h with h|⟨b,off,rfl,hl,hc⟩
 ·exact .inl h
 ·exact .inr ⟨b,off,rfl,by have:=hb.size;omega,fun i hi=>by rw[hb.cell (p:=⟨b,off+i,none⟩) hl];exact hc i hi⟩
theorem FAt.four {w:World} {b o:Nat} {F:List Int} (hc:∀ i,i<F.length→w.cell? ⟨b,o+i,none⟩=some (.int (kF i) (F.getD i 0))) (k:Nat) (hk:k*4+3<F.length) :
  w.cell? ⟨b,o+k*4,none⟩=some (.int .u32 (F.getD (k*4) 0))∧w.cell? ⟨b,o+k*4+1,none⟩=some (.int .i64 (F.getD (k*4+1) 0))∧w.cell? ⟨b,o+k*4+2,none⟩=some (.int .u32 (F.getD (k*4+2) 0))∧w.cell? ⟨b,o+k*4+3,none⟩=some (.int .u32 (F.getD (k*4+3) 0)):=by
 have h0:=hc (k*4) (by omega);have h1:=hc (k*4+1) (by omega);have h2:=hc (k*4+2) (by omega);have h3:=hc (k*4+3) (by omega)
 rw[kF0] at h0;rw[kF1,←Nat.add_assoc] at h1;rw[kF2,←Nat.add_assoc] at h2;rw[kF3,←Nat.add_assoc] at h3
 exact⟨h0,h1,h2,h3⟩
def fC (F:List Int):Array Value:=((List.range F.length).map (fun i=>Value.int (kF i) (F.getD i 0))).toArray
theorem RowV.fat {w:World} {g:Nat} {t:TypeId} {F:List Int} (h:RowV w g t (fC F)):FAt w (some ⟨g,0,none⟩) F:=
 .inr ⟨g,0,rfl,h.lt,fun i hi=>by rw[Nat.zero_add,cell_of_row w g i _ _ _ h];simp[fC,hi]⟩
theorem row_fullF {cur:Array Value} {F:List Int} {m:Nat} (hs:cur.size=m) (hl:F.length=m) (h:∀ i,i<m→cur[i]?=some (.int (kF i) (F.getD i 0))):cur=fC F:=by
 apply Array.ext_getElem?
 intro i
 by_cases hi:i<m
 ·rw[h i hi];simp[fC,show i<F.length by omega]
 ·rw[Array.getElem?_eq_none (by omega),Array.getElem?_eq_none (by simp[fC];omega)]
theorem Tryz.infoFr:(Tryz.prog.info? 110).map (fun i=>(i.zero,i.size,i.bytes))=some (some (.agg #[.int .u32 0,.int .i64 0,.int .u32 0,.int .u32 0]),4,24):=by kernel_rfl
set_option maxHeartbeats 400000 in
theorem eqF1_any (s m x y:Int) (w:World):Calls Tryz.prog 77 #[.agg #[.int .u32 s,.int .i64 m,.int .u32 x,.int .u32 y],.agg #[.int .u32 s,.int .i64 m,.int .u32 x,.int .u32 y]] w fun e w'=>e=.returned (.bool true)∧Below w.heap.size w w':=by
 have HB:Hid (Below w.heap.size w ((w.alloc (.cells #[.int .u32 s,.int .i64 m,.int .u32 x,.int .u32 y] 110)).alloc (.cells #[.int .u32 s,.int .i64 m,.int .u32 x,.int .u32 y] 110))):=((Below.refl _ _).alloc (Nat.le_refl _) _).alloc (by simp) _
 go_enter Tryz.func77,Tryz.ntmps77
 go_wp2
 go_ret
 exact⟨rfl,HB.out⟩
set_option maxRecDepth 100000 in
set_option maxHeartbeats 2000000 in
theorem eqFS_any (a a':Option Addr) (n c c':Nat) (F:List Int) (w:World) (hl:F.length=n*4) (hn:n≤1048576) (ha:FAt w a F) (ha':FAt w a' F) :
  Calls Tryz.prog 37 #[.slice a n c,.slice a' n c'] w fun e w'=>e=.returned (.bool true)∧Below w.heap.size w w':=by
 have h0:((n:Int) != (n:Int))=false:=by simp
 have HLT:Hid (F.length=n*4):=hl
 have HA:Hid (FAt w a F):=ha
 have HA':Hid (FAt w a' F):=ha'
 clear hl ha ha'
 go_enter Tryz.func37,Tryz.ntmps37
 go_wp2
 go_loopw [5] (fun i wr=>∃ k:Nat,k≤n∧i=.int .i64 k∧Below w.heap.size w wr) (fun i _=>n-(intOf i).toNat)
 case atStart=>exact⟨0,Nat.zero_le _,rfl,Below.refl _ _⟩
 case round=>
  obtain⟨k,hk,rfl,hbel⟩:=hrel;have HB:Hid (Below w.heap.size w wr):=hbel;by_cases hlt:k<n
  ·have hlt':(k:Int)<n:=by omega
   obtain⟨b,o,ea,hb,hc⟩:=(HA.out.below hbel).get (by have:=HLT.out;omega);obtain⟨b',o',ea',hb',hc'⟩:=(HA'.out.below hbel).get (by have:=HLT.out;omega);obtain⟨t0,t1,t2,t3⟩:=FAt.four hc k (by have:=HLT.out;omega);obtain⟨u0,u1,u2,u3⟩:=FAt.four hc' k (by have:=HLT.out;omega);subst ea ea';clear hc hc' hbel;generalize F.getD (k*4) 0=s at *;generalize F.getD (k*4+1) 0=m at *;generalize F.getD (k*4+2) 0=x at *;generalize F.getD (k*4+3) 0=y at *;have HC1:Hid (b<wr.heap.size∧wr.cell? ⟨b,o+k*4,none⟩=some (.int .u32 s)∧wr.cell? ⟨b,o+k*4+1,none⟩=some (.int .i64 m)∧wr.cell? ⟨b,o+k*4+2,none⟩=some (.int .u32 x)∧wr.cell? ⟨b,o+k*4+3,none⟩=some (.int .u32 y)):=⟨hb,t0,t1,t2,t3⟩
   have HC2:Hid (b'<wr.heap.size∧wr.cell? ⟨b',o'+k*4,none⟩=some (.int .u32 s)∧wr.cell? ⟨b',o'+k*4+1,none⟩=some (.int .i64 m)∧wr.cell? ⟨b',o'+k*4+2,none⟩=some (.int .u32 x)∧wr.cell? ⟨b',o'+k*4+3,none⟩=some (.int .u32 y)):=⟨hb',u0,u1,u2,u3⟩
   clear hb hb' t0 t1 t2 t3 u0 u1 u2 u3;go_wp2_with fail;refine wp_region_any (by kernel_rfl) ?_;refine wpAny_slotsU (fun _ a b=>Below a.heap.size a b) (frame:=(fun (a b c d e f g h i j k l m n o p q:Value)=>fun (t:Nat→Value)=>({ tmps:=List.toArray [a,b,c,d,e,f,g,h,i,j,k,l,m,n,o,p,q,t 0,t 1,t 2,t 3,t 4,t 5,t 6,t 7,t 8,t 9],defers:=[] }:Act)) _ _ _ _ _ _ _ _ _ _ _ _ _ _ _ _ _)
    (Ext:=fun L u w'=>ApX wr [] L u w') (Good:=fun i L w' v=>if i=0 then v=.slice (some ⟨b,o,none⟩) n c else if i=1 then v=.int .i64 k else if i=2 then v=.pointer (some ⟨b,o+k*4,none⟩) else if i=3 then v=.agg #[.int .u32 s,.int .i64 m,.int .u32 x,.int .u32 y] else if i=4 then v=.slice (some ⟨b',o',none⟩) n c' else if i=5 then v=.int .i64 k else if i=6 then v=.pointer (some ⟨b',o'+k*4,none⟩) else if i=7 then v=.agg #[.int .u32 s,.int .i64 m,.int .u32 x,.int .u32 y] else if i=8 then v=.bool true else if i=9 then v=.bool false else True) ?hstab (by kernel_rfl) ?hop ?hdone _ _ ((fun (x0 x1 x2 x3 x4 x5 x6 x7 x8 x9:Value)=>fun (i:Nat)=>if i=0 then x0 else if i=1 then x1 else if i=2 then x2 else if i=3 then x3 else if i=4 then x4 else if i=5 then x5 else if i=6 then x6 else if i=7 then x7 else if i=8 then x8 else if i=9 then x9 else undef) _ _ _ _ _ _ _ _ _ _) _ (by simp) ?ext ?start (by simp)
   case start=>intro i hi h;exact absurd h (by rw[Array.getD_eq_getD_getElem?,Array.getElem?_replicate];split<;>simp)
   case ext=>exact(ApX.start wr [] _ _ (fun i=>by rw[Array.getD_eq_getD_getElem?,Array.getElem?_replicate];split<;>rfl)).drew
   case hstab=>
    intro j L w9 w' i v hM _ _ h;exact h
   case hop=>
    intro i o L t w' ho hLi hx hdep K hK;have hi:i<10:=(Array.getElem?_eq_some_iff.1 ho).1;obtain rfl|rfl|rfl|rfl|rfl|rfl|rfl|rfl|rfl|rfl:i=0∨i=1∨i=2∨i=3∨i=4∨i=5∨i=6∨i=7∨i=8∨i=9:=by omega
    all_goals(simp at ho;subst ho)
    ·clear hdep;have hK':=hK w' (.slice (some ⟨b,o,none⟩) n c) (by simp) (hx.step 0 _ (Below.refl _ _) (fun h=>absurd h (by decide))) (Below.refl _ _);clear hK;rw[if_pos (by rfl)];go_simp;simpa[upd] using hK'
    ·clear hdep;have hK':=hK w' (.int .i64 k) (by simp) (hx.step 1 _ (Below.refl _ _) (fun h=>absurd h (by decide))) (Below.refl _ _);clear hK;rw[if_pos (by rfl)];go_simp;simpa[upd] using hK'
    ·have d0:t 0=.slice (some ⟨b,o,none⟩) n c:=by simpa using(hdep ⟨0,.data⟩ (by simp) rfl).2
     have d1:t 1=.int .i64 k:=by simpa using(hdep ⟨1,.data⟩ (by simp) rfl).2
     clear hdep;have hK':=hK w' (.pointer (some ⟨b,o+k*4,none⟩)) (by simp) (hx.step 2 _ (Below.refl _ _) (fun h=>absurd h (by decide))) (Below.refl _ _);clear hK;rw[if_pos (by rfl)];go_simp;simpa[upd,d0,d1] using hK'
    ·have d2:t 2=.pointer (some ⟨b,o+k*4,none⟩):=by simpa using(hdep ⟨2,.data⟩ (by simp) rfl).2
     clear hdep;have q0:w'.cell? ⟨b,o+k*4,none⟩=some (.int .u32 s):=by rw[hx.below.cell (p:=⟨b,o+k*4,none⟩) HC1.out.1];exact HC1.out.2.1
     have q1:w'.cell? ⟨b,o+k*4+1,none⟩=some (.int .i64 m):=by rw[hx.below.cell (p:=⟨b,o+k*4+1,none⟩) HC1.out.1];exact HC1.out.2.2.1
     have q2:w'.cell? ⟨b,o+k*4+2,none⟩=some (.int .u32 x):=by rw[hx.below.cell (p:=⟨b,o+k*4+2,none⟩) HC1.out.1];exact HC1.out.2.2.2.1
     have q3:w'.cell? ⟨b,o+k*4+3,none⟩=some (.int .u32 y):=by rw[hx.below.cell (p:=⟨b,o+k*4+3,none⟩) HC1.out.1];exact HC1.out.2.2.2.2
     have hK':=hK w' (.agg #[.int .u32 s,.int .i64 m,.int .u32 x,.int .u32 y]) (by simp) (hx.step 3 _ (Below.refl _ _) (fun h=>absurd h (by decide))) (Below.refl _ _);clear hK;rw[if_pos (by rfl)];go_simp;simpa[upd,d2] using hK'
    ·clear hdep;have hK':=hK w' (.slice (some ⟨b',o',none⟩) n c') (by simp) (hx.step 4 _ (Below.refl _ _) (fun h=>absurd h (by decide))) (Below.refl _ _);clear hK;rw[if_pos (by rfl)];go_simp;simpa[upd] using hK'
    ·clear hdep;have hK':=hK w' (.int .i64 k) (by simp) (hx.step 5 _ (Below.refl _ _) (fun h=>absurd h (by decide))) (Below.refl _ _);clear hK;rw[if_pos (by rfl)];go_simp;simpa[upd] using hK'
    ·have d4:t 4=.slice (some ⟨b',o',none⟩) n c':=by simpa using(hdep ⟨4,.data⟩ (by simp) rfl).2
     have d5:t 5=.int .i64 k:=by simpa using(hdep ⟨5,.data⟩ (by simp) rfl).2
     clear hdep;have hK':=hK w' (.pointer (some ⟨b',o'+k*4,none⟩)) (by simp) (hx.step 6 _ (Below.refl _ _) (fun h=>absurd h (by decide))) (Below.refl _ _);clear hK;rw[if_pos (by rfl)];go_simp;simpa[upd,d4,d5] using hK'
    ·have d6:t 6=.pointer (some ⟨b',o'+k*4,none⟩):=by simpa using(hdep ⟨6,.data⟩ (by simp) rfl).2
     clear hdep;have q0:w'.cell? ⟨b',o'+k*4,none⟩=some (.int .u32 s):=by rw[hx.below.cell (p:=⟨b',o'+k*4,none⟩) HC2.out.1];exact HC2.out.2.1
     have q1:w'.cell? ⟨b',o'+k*4+1,none⟩=some (.int .i64 m):=by rw[hx.below.cell (p:=⟨b',o'+k*4+1,none⟩) HC2.out.1];exact HC2.out.2.2.1
     have q2:w'.cell? ⟨b',o'+k*4+2,none⟩=some (.int .u32 x):=by rw[hx.below.cell (p:=⟨b',o'+k*4+2,none⟩) HC2.out.1];exact HC2.out.2.2.2.1
     have q3:w'.cell? ⟨b',o'+k*4+3,none⟩=some (.int .u32 y):=by rw[hx.below.cell (p:=⟨b',o'+k*4+3,none⟩) HC2.out.1];exact HC2.out.2.2.2.2
     have hK':=hK w' (.agg #[.int .u32 s,.int .i64 m,.int .u32 x,.int .u32 y]) (by simp) (hx.step 7 _ (Below.refl _ _) (fun h=>absurd h (by decide))) (Below.refl _ _);clear hK;rw[if_pos (by rfl)];go_simp;simpa[upd,d6] using hK'
    ·have d3:t 3=.agg #[.int .u32 s,.int .i64 m,.int .u32 x,.int .u32 y]:=by simpa using(hdep ⟨3,.data⟩ (by simp) rfl).2
     have d7:t 7=.agg #[.int .u32 s,.int .i64 m,.int .u32 x,.int .u32 y]:=by simpa using(hdep ⟨7,.data⟩ (by simp) rfl).2
     clear hdep;have A:=eqF1_any s m x y w';have hK':∀ ww,Below w'.heap.size w' ww→K _ ww:=fun ww hb=>hK ww (.bool true) (by simp) (hx.step 8 _ hb (fun h=>absurd h (by decide))) hb
     clear hK;rw[if_pos (by rfl)];go_simp;try simp only[d3,d7]
     refine A.mono ?_;rintro e w9 ⟨rfl,hb9⟩;have hK2:=hK' w9 hb9;clear hK' A hb9;go_simp;simpa[upd,d3,d7] using hK2
    ·have d8:t 8=.bool true:=by simpa using(hdep ⟨8,.data⟩ (by simp) rfl).2
     clear hdep;have hK':=hK w' (.bool false) (by simp) (hx.step 9 _ (Below.refl _ _) (fun h=>absurd h (by decide))) (Below.refl _ _);clear hK;rw[if_pos (by rfl)];go_simp;simpa[upd,d8] using hK'
   case hdone=>
    intro L t w' hx hg;have d9:t 9=.bool false:=by simpa using hg 9 (by decide)
    clear hg;have HBW:Hid (Below w.heap.size w w'):=HB.out.trans (hx.below.mono HB.out.size);simp only[d9];clear hx d9;go_wp2;go_roundw
    case rel=>exact⟨k+1,by omega,by go_num,HBW.out⟩
    case measure=>simp[intOf];omega
  ·have hlt':¬ ((k:Int)<n):=by omega
   clear hbel;go_wp2
   go_ret
   exact⟨rfl,HB.out⟩
end Go.Proofs.YtganeokokjodoaaGreat
