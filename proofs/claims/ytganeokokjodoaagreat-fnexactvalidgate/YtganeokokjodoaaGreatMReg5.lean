import Derived.Test.YtganeokokjodoaaGreatMBase
import Derived.Deep.MidRow
import Derived.Laws.Tables
import Derived.Maps.AppendAt
namespace Go.Proofs.YtganeokokjodoaaGreat
open Go.ChangeShapes Go.WideShapes Go.ChangeAt Go.RowKit
set_option linter.unusedVariables false
section
variable {P:Program} {ops:Array Oper} {Q:Exit→Act→World→Prop} {md:Region.Mode}
def updK (L:Nat→Bool) (i:Nat):Nat→Bool:=fun j=>if j=i then true else L j
theorem wpAny_slotsK (last:Nat) (M:Nat→World→World→Prop) (frame:(Nat→Value)→Act) (Ext:(Nat→Bool)→World→Prop) (Good:Nat→(Nat→Bool)→World→Value→Prop)
  (hlast:ops.size=last+1)
  (hwait:((ops[last]?).map (fun o=>(List.range last).all (fun j=>o.after.any (fun e=>Region.binds md e && decide (e.on=j))))).getD false=true)
  (hstab:∀ j L w w' i v,M i w w'→i≠j→L i=false→Good j L w v→Good j (updK L i) w' v)
  (hguard:ops.all (fun o=>o.guard.isNone)=true)
  (hback:(List.range ops.size).all (fun i=>((ops[i]?).map (fun o=>o.after.all (fun e=>decide (e.on<i)))).getD false)=true)
  (hop:∀(i:Nat) (o:Oper) (L:Nat→Bool) (u:Nat→Value) (w:World),i<last→ops[i]?=some o→L i=false→Ext L w→(∀ e∈o.after,Region.binds md e=true→Good e.on L w (u e.on))→
   ∀ K:Act→World→Prop,(∀ w' v,Good i (updK L i) w' v→Ext (updK L i) w'→M i w w'→K (frame (upd u i v)) w')→Oper.wp P o (frame u) w K Q)
  (hend:∀(o:Oper) (L:Nat→Bool) (u:Nat→Value) (w:World),ops[last]?=some o→Ext L w→(∀ i,i<last→Good i L w (u i))→
   ∀ K:Act→World→Prop,(∀ a w',Q .normal a w'→K a w')→Oper.wp P o (frame u) w K Q) :
  ∀(fuel:Nat) (listed:Array Bool) (u:Nat→Value) (w:World),listed.size=ops.size→listed.getD last false=false→Ext (fun n=>listed.getD n false) w→(∀ i,i<last→listed.getD i false=true→Good i (fun n=>listed.getD n false) w (u i))→
   (listed.toList.filter (!·)).length≤fuel→wpAny P md ops Q fuel listed (frame u) w:=by
 have hb:∀(i:Nat) (o:Oper),ops[i]?=some o→∀ e∈o.after,e.on<i:=fun i o ho e he=>by
  have hi:i<ops.size:=(Array.getElem?_eq_some_iff.1 ho).1;have:=List.all_eq_true.1 hback i (List.mem_range.2 hi);rw[ho] at this;simp at this;obtain⟨k,hk,rfl⟩:=Array.mem_iff_getElem.1 he;exact this k hk
 have hg:∀(i:Nat) (o:Oper),ops[i]?=some o→o.guard=none:=fun i o ho=>by
  have:=Array.all_eq_true_iff_forall_mem.1 hguard o (Array.mem_of_getElem? ho);simpa using this
 have hw:∀ o,ops[last]?=some o→∀ j,j<last→∃ e∈o.after,Region.binds md e=true∧e.on=j:=fun o ho j hj=>by
  rw[ho] at hwait;have h1:(List.range last).all (fun j=>o.after.any (fun e=>Region.binds md e && decide (e.on=j)))=true:=by simpa using hwait
  have h2:=List.all_eq_true.1 h1 j (List.mem_range.2 hj);obtain⟨e,he,h3⟩:=Array.any_eq_true'.1 h2;simp at h3;exact⟨e,he,h3⟩
 have hno:∀(listed:Array Bool),listed.size=ops.size→listed.getD last false=false→Region.ready md ops listed≠[]:=by
  intro listed hs hl0 hr;have hall:∀ n i,i<n→i<ops.size→listed.getD i false=true:=by
   intro n
   induction n with
   |zero=>intro i h;omega
   |succ n ih=>
    intro i hin hi;by_cases hlt:i<n
    ·exact ih i hlt hi
    ·cases hl:listed.getD i false with
     |true=>rfl
     |false=>
      exfalso
      have hl':listed.getD i true=false:=by
       have hil:i<listed.size:=by omega
       simp[hil] at hl ⊢;exact hl
      have:i∈Region.ready md ops listed:=mem_ready.2 ⟨hi,hl',ops[i],by simp[hi],fun e hee _=>ih e.on (by have:=hb i ops[i] (by simp[hi]) e hee;omega) (by have:=hb i ops[i] (by simp[hi]) e hee;omega)⟩;rw[hr] at this;cases this
  have:=hall (last+1) last (by omega) (by omega);rw[hl0] at this;cases this
 intro fuel
 induction fuel with
 |zero=>
  intro listed u w hs hl0 he hgd hc
  exfalso
  have hil:last<listed.size:=by omega
  have h3:listed[last]=false:=by simpa[hil] using hl0
  have:listed[last]∈listed.toList.filter (!·):=by
   rw[List.mem_filter];exact⟨by simp,by rw[h3];rfl⟩
  have:=List.length_pos_of_mem this;omega
 |succ fuel ih=>
  intro listed u w hs hl0 he hgd hc;refine⟨fun hr=>absurd hr (hno listed hs hl0),fun i hi=>?_⟩;obtain⟨h1,h2,o,ho,h3⟩:=mem_ready.1 hi;refine wpOp_step ho fun K hK=>?_
  have hwn:Region.wanted o (yielded ops (frame u).tmps)=true:=by simp[Region.wanted,hg i o ho]
  rw[if_pos hwn];have hil:i<listed.size:=by omega
  by_cases hi':i<last
  ·have hnl:listed.getD i false=false:=by simp[hil] at h2 ⊢;exact h2
   have hupd:(fun n=>(listed.setIfInBounds i true).getD n false)=updK (fun n=>listed.getD n false) i:=by
    funext n;rw[getD_set listed i n hil];rfl
   refine hop i o (fun n=>listed.getD n false) u w hi' ho hnl he (fun e hee hbd=>hgd e.on (by have:=hb i o ho e hee;omega) (h3 e hee hbd)) K fun w' v hgv hext hm=>hK _ _ ?_
   refine ih _ _ w' (by simpa using hs) ?_ (by rw[hupd];exact hext) (fun j hj hlj=>?_) ?_
   ·rw[getD_set listed i last hil,if_neg (by omega)];exact hl0
   ·rw[getD_set listed i j hil] at hlj;unfold upd;by_cases hji:j=i
    ·subst hji;rw[hupd];simpa using hgv
    ·rw[if_neg hji] at hlj;rw[if_neg hji,hupd];exact hstab j _ w w' i _ hm (Ne.symm hji) hnl (hgd j hj hlj)
   ·have:listed.toList[i]?=some false:=by simp[hil] at h2;simp[hil,h2]
    have:=count_set listed.toList i this;rw[Array.toList_setIfInBounds];omega
  ·have hie:i=last:=by omega
   subst hie;have hlst:∀ j,j<i→listed.getD j false=true:=fun j hj=>by
    obtain⟨e,hee,hbd,rfl⟩:=hw o ho j hj;exact h3 e hee hbd
   refine hend o (fun n=>listed.getD n false) u w ho he (fun j hj=>hgd j hj (hlst j hj)) K fun a w' hq=>hK _ _ (wpAny_end ?_ hq)
   apply List.eq_nil_iff_forall_not_mem.2;intro j hj;obtain⟨g1,g2,_⟩:=mem_ready.1 hj;have hjl:j<listed.size:=by omega
   have g3:(listed.setIfInBounds i true).getD j false=false:=by
    have:j<(listed.setIfInBounds i true).size:=by simpa using hjl
    rw[Array.getD_eq_getD_getElem?,Array.getElem?_eq_getElem this] at g2 ⊢;exact g2
   rw[getD_set listed i j hil] at g3;by_cases hji:j=i
   ·rw[if_pos hji] at g3;cases g3
   ·rw[if_neg hji,hlst j (by omega)] at g3;cases g3
end
end Go.Proofs.YtganeokokjodoaaGreat
namespace Go.Proofs.YtganeokokjodoaaGreat
open Go.ChangeShapes Go.WideShapes Go.ChangeAt Go.RowKit
set_option linter.unusedVariables false
section
variable {P:Program} {ops:Array Oper} {Q:Exit→Act→World→Prop} {md:Region.Mode}
theorem wpAny_slotsG (M:Nat→World→World→Prop) (frame:(Nat→Value)→Act) (Ext:(Nat→Bool)→World→Prop) (Good:Nat→(Nat→Bool)→World→Value→Prop)
  (hstab:∀ j L w w' i v,M i w w'→i≠j→L i=false→Good j L w v→Good j (updK L i) w' v)
  (hback:(List.range ops.size).all (fun i=>((ops[i]?).map (fun o=>o.after.all (fun e=>decide (e.on<i)))).getD false)=true)
  (hop:∀(i:Nat) (o:Oper) (L:Nat→Bool) (u:Nat→Value) (w:World),ops[i]?=some o→L i=false→Ext L w→(∀ e∈o.after,Region.binds md e=true→Good e.on L w (u e.on))→
   ∀ K:Act→World→Prop,(∀ w' v,Good i (updK L i) w' v→Ext (updK L i) w'→M i w w'→K (frame (upd u i v)) w')→(if Region.wanted o (yielded ops (frame u).tmps)=true then Oper.wp P o (frame u) w K Q else K ((frame u).put o.dst undef) w))
  (hdone:∀ L u w,Ext L w→(∀ i,i<ops.size→Good i L w (u i))→Q .normal (frame u) w) :
  ∀(fuel:Nat) (listed:Array Bool) (u:Nat→Value) (w:World),listed.size=ops.size→Ext (fun n=>listed.getD n false) w→(∀ i,i<ops.size→listed.getD i false=true→Good i (fun n=>listed.getD n false) w (u i))→
   (listed.toList.filter (!·)).length≤fuel→wpAny P md ops Q fuel listed (frame u) w:=by
 have hb:∀(i:Nat) (o:Oper),ops[i]?=some o→∀ e∈o.after,e.on<i:=fun i o ho e he=>by
  have hi:i<ops.size:=(Array.getElem?_eq_some_iff.1 ho).1;have:=List.all_eq_true.1 hback i (List.mem_range.2 hi);rw[ho] at this;simp at this;obtain⟨k,hk,rfl⟩:=Array.mem_iff_getElem.1 he;exact this k hk
 have hfin:∀(listed:Array Bool) (u:Nat→Value) (w:World),listed.size=ops.size→Ext (fun n=>listed.getD n false) w→(∀ i,i<ops.size→listed.getD i false=true→Good i (fun n=>listed.getD n false) w (u i))→Region.ready md ops listed=[]→Q .normal (frame u) w:=by
  intro listed u w hs he hgd hr;refine hdone _ u w he fun i hi=>hgd i hi ?_
  have hall:∀ n i,i<n→i<ops.size→listed.getD i false=true:=by
   intro n
   induction n with
   |zero=>intro i h;omega
   |succ n ih=>
    intro i hin hi;by_cases hlt:i<n
    ·exact ih i hlt hi
    ·cases hl:listed.getD i false with
     |true=>rfl
     |false=>
      exfalso
      have hl':listed.getD i true=false:=by
       have hil:i<listed.size:=by omega
       simp[hil] at hl ⊢;exact hl
      have:i∈Region.ready md ops listed:=mem_ready.2 ⟨hi,hl',ops[i],by simp[hi],fun e hee _=>ih e.on (by have:=hb i ops[i] (by simp[hi]) e hee;omega) (by have:=hb i ops[i] (by simp[hi]) e hee;omega)⟩;rw[hr] at this;cases this
  exact hall (i+1) i (by omega) hi
 intro fuel
 induction fuel with
 |zero=>
  intro listed u w hs he hgd hc;have hr:Region.ready md ops listed=[]:=by
   apply List.eq_nil_iff_forall_not_mem.2;intro i hi;obtain⟨h1,h2,_⟩:=mem_ready.1 hi;have hil:i<listed.size:=by omega
   have h3:listed[i]=false:=by simpa[hil] using h2
   have:listed[i]∈listed.toList.filter (!·):=by
    rw[List.mem_filter];exact⟨by simp,by rw[h3];rfl⟩
   have:=List.length_pos_of_mem this;omega
  exact⟨hr,hfin listed u w hs he hgd hr⟩
 |succ fuel ih=>
  intro listed u w hs he hgd hc;refine⟨fun hr=>hfin listed u w hs he hgd hr,fun i hi=>?_⟩;obtain⟨h1,h2,o,ho,h3⟩:=mem_ready.1 hi;refine wpOp_step ho fun K hK=>?_
  have hil:i<listed.size:=by omega
  have hnl:listed.getD i false=false:=by simp[hil] at h2 ⊢;exact h2
  have hupd:(fun n=>(listed.setIfInBounds i true).getD n false)=updK (fun n=>listed.getD n false) i:=by
   funext n;rw[getD_set listed i n hil];rfl
  refine hop i o (fun n=>listed.getD n false) u w ho hnl he (fun e hee hbd=>hgd e.on (by have:=hb i o ho e hee;omega) (h3 e hee hbd)) K fun w' v hgv hext hm=>hK _ _ ?_
  refine ih _ _ w' (by simpa using hs) (by rw[hupd];exact hext) (fun j hj hlj=>?_) ?_
  ·rw[getD_set listed i j hil] at hlj;unfold upd;by_cases hji:j=i
   ·subst hji;rw[hupd];simpa using hgv
   ·rw[if_neg hji] at hlj;rw[if_neg hji,hupd];exact hstab j _ w w' i _ hm (Ne.symm hji) hnl (hgd j hj hlj)
  ·have:listed.toList[i]?=some false:=by simp[hil] at h2;simp[hil,h2]
   have:=count_set listed.toList i this;rw[Array.toList_setIfInBounds];omega
end
end Go.Proofs.YtganeokokjodoaaGreat
namespace Go.Proofs.YtganeokokjodoaaGreat
open Go.ChangeShapes Go.WideShapes Go.ChangeAt Go.RowKit
set_option linter.unusedVariables false
theorem Tryz.infoU8:(Tryz.prog.info? 5).map (fun i=>(i.zero,i.size,i.bytes))=some (some (.int .u8 0),1,1):=by kernel_rfl
end Go.Proofs.YtganeokokjodoaaGreat
namespace Go.Proofs.YtganeokokjodoaaGreat
open Go.ChangeShapes Go.WideShapes Go.ChangeAt Go.RowKit
set_option linter.unusedVariables false
def cp (zs:List Int) (k:Nat):List Int:=zs.take k++List.replicate (zs.length-k) 0
theorem cp_zero (zs:List Int):cp zs 0=List.replicate zs.length 0:=by simp[cp]
theorem cp_all (zs:List Int):cp zs zs.length=zs:=by simp[cp]
theorem cp_len (zs:List Int) (k:Nat) (h:k≤zs.length):(cp zs k).length=zs.length:=by simp[cp];omega
theorem cp_succ (zs:List Int) (k:Nat) (h:k<zs.length):(cp zs k).set k (zs.getD k 0)=cp zs (k+1):=by
 unfold cp
 have hl:(zs.take k).length=k:=by simp;omega
 rw[take_snoc zs k h,List.set_append_right _ _ (by omega),hl,Nat.sub_self]
 have:zs.length-k=(zs.length-(k+1))+1:=by omega
 rw[this,List.replicate_succ,List.set_cons_zero];simp
set_option maxHeartbeats 400000 in
theorem toB_any (a:Option Addr) (n cap:Nat) (zs:List Int) (w:World) (hn:zs.length=n) (hm:n≤1048576) (ha:At .u8 w a zs) :
  Calls Tryz.prog 27 #[.slice a n cap] w fun e w'=>e=.returned (.slice (some ⟨w.heap.size,0,none⟩) n n)∧
   w'.ownsRow w.heap.size 5 1 (.slice (some ⟨w.heap.size,0,none⟩) n n) n (zs.map (Value.int .u8))∧Below w.heap.size w w':=by
 obtain⟨i0,hi,hz0,hz1,hz2⟩:=info_parts Tryz.infoU8
 have HI:Hid (i0.bytes=1):=hz2
 clear hz2
 go_enter Tryz.func27,Tryz.ntmps27
 go_wp2_with (first
  |(at_make;refine wpList_make_full _ rfl _ _ 22 rfl w.heap.size 5 i0 (.int .u8 0) 1 Tryz.underlying22 hi hz0 hz1 _ _ _ _ n rfl rfl rfl rfl ?c1 ?c2 ?c3 ?_)
  |fail)
 case c1=>rw[HI.out];omega
 case c2=>unfold maxLen;omega
 case c3=>exact Nat.le_refl _
 intro w1 hown hgrow
 have hb1:Below w.heap.size w w1:=(Below.refl _ _).grown hgrow (Nat.le_refl _) (by simp)
 have hown0:w1.ownsRow w.heap.size 5 1 (.slice (some ⟨w.heap.size,0,none⟩) n n) n ((cp zs 0).map (Value.int .u8)):=by
  have e:(madeCells #[Value.int IntKind.u8 0] n).toList=(cp zs 0).map (Value.int .u8):=by
   rw[cp_zero];simp only[toList_madeCells_one,List.map_replicate,hn]
  rw[←e];exact hown
 clear hown hgrow
 go_wp2
 go_loopw [4] (fun i wr=>∃ k:Nat,k≤n∧i=.int .i64 k∧wr.ownsRow w.heap.size 5 1 (.slice (some ⟨w.heap.size,0,none⟩) n n) n ((cp zs k).map (Value.int .u8))∧Below w.heap.size w wr) (fun i _=>n-(intOf i).toNat)
 case atStart=>exact⟨0,Nat.zero_le _,rfl,hown0,hb1⟩
 case round=>
  obtain⟨k,hk,rfl,hown,hbel⟩:=hrel;by_cases hlt:k<n
  ·obtain⟨b,off,rfl,hb,hc⟩:=ha.get (by omega);have hck:wr.cell? ⟨b,off+k,none⟩=some (.int .u8 (zs.getD k 0)):=by rw[hbel.cell (p:=⟨b,off+k,none⟩) hb];exact hc k (by omega)
   have hst:=hown.stored k (.int .u8 (zs.getD k 0));have hmem:wr.cell? ⟨w.heap.size,k,none⟩=some (.int .u8 ((cp zs k).getD k 0)):=by
    rw[hown.cellAt k (by omega)];have:=cp_len zs k (by omega);simp[show k<(cp zs k).length by omega]
   have hfz:=hown.frozenAt k;rw[←List.map_set,cp_succ zs k (by omega)] at hst;have HX:=hst.1;have HB:Below w.heap.size w (wr.setCell ⟨w.heap.size,k,none⟩ (.int .u8 (zs.getD k 0))):=hbel.setCell (Nat.le_refl _) _;clear hst hown hc ha hbel hown0 hb1;generalize zs.getD k 0=x at *;generalize (cp zs k).getD k 0=y at *;have HXX:Hid _:=HX;have HBB:Hid _:=HB;clear HX HB;go_wp2;go_roundw
   case rel=>exact⟨k+1,by omega,by go_num,HXX.out,HBB.out⟩
   case measure=>simp[intOf];omega
  ·have hkn:k=zs.length:=by omega
   have HO:Hid (wr.ownsRow w.heap.size 5 1 (.slice (some ⟨w.heap.size,0,none⟩) n n) n (zs.map (Value.int .u8))):=by rw[hkn,cp_all] at hown;exact hown
   clear hown;go_wp2
   go_ret
   exact⟨rfl,HO.out,hbel⟩
theorem drewN_cell (w:World) (n:Nat) (a:Addr):(w.drewN n).cell? a=w.cell? a:=rfl
theorem drewN_drewN (w:World) (m n:Nat):(w.drewN m).drewN n=w.drewN (m+n):=by
 simp[World.drewN,Nat.add_assoc]
set_option maxHeartbeats 400000 in
theorem eqB_any (a a':Option Addr) (n cap cap':Nat) (zs:List Int) (w:World) (hn:zs.length=n) (hm:n≤1048576) (ha:At .u8 w a zs) (ha':At .u8 w a' zs) :
  Calls Tryz.prog 39 #[.slice a n cap,.slice a' n cap'] w fun e w'=>e=.returned (.bool true)∧∃ q,w'=w.drewN q:=by
 have h0:((n:Int) != (n:Int))=false:=by simp
 go_enter Tryz.func39,Tryz.ntmps39
 go_wp2
 go_loopw [5] (fun i wr=>∃ k q:Nat,k≤n∧i=.int .i64 k∧wr=w.drewN q) (fun i _=>n-(intOf i).toNat)
 case atStart=>exact⟨0,0,Nat.zero_le _,rfl,rfl⟩
 case round=>
  obtain⟨k,q,hk,rfl,rfl⟩:=hrel;by_cases hlt:k<n
  ·obtain⟨b,off,rfl,hb,hc⟩:=ha.get (by omega);obtain⟨b',off',rfl,hb',hc'⟩:=ha'.get (by omega);have g1:=hc k (by omega);have g2:=hc' k (by omega);generalize zs.getD k 0=x at *;have hx:(x != x)=false:=by simp
   have hlt':(k:Int)<(n:Int):=by omega
   clear hc hc' ha ha';go_wp2
   go_quiet (fail)
   go_wp2;go_roundw
   case rel=>exact⟨k+1,_,by omega,by go_num,rfl⟩
   case measure=>simp[intOf];omega
  ·go_wp2
   go_ret
   exact⟨rfl,q,rfl⟩
end Go.Proofs.YtganeokokjodoaaGreat
namespace Go.Proofs.YtganeokokjodoaaGreat
open Go.ChangeShapes Go.WideShapes Go.ChangeAt Go.RowKit
set_option linter.unusedVariables false
theorem dN (w:World) (q p:Nat):(w.drewN q).drewN p=w.drewN (q+p):=by simp[World.drewN,Nat.add_assoc]
theorem below_dq {B:Nat} {a w:World} (h:Below B a w) (n:Nat):Below B a (w.drewN n):=⟨h.os,h.tape,h.output,h.size,h.block⟩
theorem Tryz.infoTap:(Tryz.prog.info? 132).map (fun i=>(i.zero,i.size,i.bytes))=some (some (.agg #[.int .i64 0,.int .i64 0]),2,16):=by kernel_rfl
end Go.Proofs.YtganeokokjodoaaGreat
namespace Go.Proofs.YtganeokokjodoaaGreat
open Go.ChangeShapes Go.WideShapes Go.ChangeAt Go.RowKit
set_option linter.unusedVariables false
theorem Tryz.infoI64:(Tryz.prog.info? 2).map (fun i=>(i.zero,i.size,i.bytes))=some (some (.int .i64 0),1,8):=by kernel_rfl
def szQ (left:Int) (n:Nat):Int:=if left<n then -1 else left-n
set_option maxHeartbeats 400000 in
theorem eqI_any (a a':Option Addr) (n cap cap':Nat) (zs:List Int) (w:World) (hn:zs.length=n) (hm:n≤1048576) (ha:At .i64 w a zs) (ha':At .i64 w a' zs) :
  Calls Tryz.prog 76 #[.slice a n cap,.slice a' n cap'] w fun e w'=>e=.returned (.bool true)∧∃ q,w'=w.drewN q:=by
 have h0:((n:Int) != (n:Int))=false:=by simp
 go_enter Tryz.func76,Tryz.ntmps76
 go_wp2
 go_loopw [5] (fun i wr=>∃ k q:Nat,k≤n∧i=.int .i64 k∧wr=w.drewN q) (fun i _=>n-(intOf i).toNat)
 case atStart=>exact⟨0,0,Nat.zero_le _,rfl,rfl⟩
 case round=>
  obtain⟨k,q,hk,rfl,rfl⟩:=hrel;by_cases hlt:k<n
  ·obtain⟨b,off,rfl,hb,hc⟩:=ha.get (by omega);obtain⟨b',off',rfl,hb',hc'⟩:=ha'.get (by omega);have g1:=hc k (by omega);have g2:=hc' k (by omega);generalize zs.getD k 0=x at *;have hx:(x != x)=false:=by simp
   have hlt':(k:Int)<(n:Int):=by omega
   clear hc hc' ha ha';go_wp2
   go_quiet (fail)
   go_wp2;go_roundw
   case rel=>exact⟨k+1,_,by omega,by go_num,rfl⟩
   case measure=>simp[intOf];omega
  ·go_wp2
   go_ret
   exact⟨rfl,q,rfl⟩
end Go.Proofs.YtganeokokjodoaaGreat
namespace Go.Proofs.YtganeokokjodoaaGreat
open Go.ChangeShapes Go.WideShapes Go.ChangeAt Go.RowKit
set_option linter.unusedVariables false
set_option maxHeartbeats 400000 in
theorem eqT1_any (s nw:Int) (w:World):Calls Tryz.prog 120 #[.agg #[.int .i64 s,.int .i64 nw],.agg #[.int .i64 s,.int .i64 nw]] w fun e w'=>e=.returned (.bool true)∧Below w.heap.size w w':=by
 have HB:Hid (Below w.heap.size w ((w.alloc (.cells #[.int .i64 s,.int .i64 nw] 132)).alloc (.cells #[.int .i64 s,.int .i64 nw] 132))):=((Below.refl _ _).alloc (Nat.le_refl _) _).alloc (by simp) _
 go_enter Tryz.func120,Tryz.ntmps120
 go_wp2
 go_ret
 exact⟨rfl,HB.out⟩
end Go.Proofs.YtganeokokjodoaaGreat
namespace Go.Proofs.YtganeokokjodoaaGreat
open Go.ChangeShapes Go.WideShapes Go.ChangeAt Go.RowKit
set_option linter.unusedVariables false
set_option maxRecDepth 100000 in
set_option maxHeartbeats 2000000 in
theorem eqTS_any (a a':Option Addr) (n c c':Nat) (T:List Int) (w:World) (hl:T.length=n*2) (hn:n≤1048576) (ha:At .i64 w a T) (ha':At .i64 w a' T) :
  Calls Tryz.prog 78 #[.slice a n c,.slice a' n c'] w fun e w'=>e=.returned (.bool true)∧Below w.heap.size w w':=by
 have h0:((n:Int) != (n:Int))=false:=by simp
 have HLT:Hid (T.length=n*2):=hl
 have HA:Hid (At .i64 w a T):=ha
 have HA':Hid (At .i64 w a' T):=ha'
 clear hl ha ha'
 go_enter Tryz.func78,Tryz.ntmps78
 go_wp2
 go_loopw [5] (fun i wr=>∃ k:Nat,k≤n∧i=.int .i64 k∧Below w.heap.size w wr) (fun i _=>n-(intOf i).toNat)
 case atStart=>exact⟨0,Nat.zero_le _,rfl,Below.refl _ _⟩
 case round=>
  obtain⟨k,hk,rfl,hbel⟩:=hrel;have HB:Hid (Below w.heap.size w wr):=hbel;by_cases hlt:k<n
  ·have hlt':(k:Int)<n:=by omega
   obtain⟨b,o,ea,hb,hc⟩:=(HA.out.below hbel).get (by have:=HLT.out;omega);obtain⟨b',o',ea',hb',hc'⟩:=(HA'.out.below hbel).get (by have:=HLT.out;omega);have t0:=hc (k*2) (by have:=HLT.out;omega);have t1:=hc (k*2+1) (by have:=HLT.out;omega);have u0:=hc' (k*2) (by have:=HLT.out;omega);have u1:=hc' (k*2+1) (by have:=HLT.out;omega);rw[←Nat.add_assoc] at t1 u1;subst ea ea';clear hc hc' hbel;generalize T.getD (k*2) 0=s at *;generalize T.getD (k*2+1) 0=nw at *;have HC1:Hid (b<wr.heap.size∧wr.cell? ⟨b,o+k*2,none⟩=some (.int .i64 s)∧wr.cell? ⟨b,o+k*2+1,none⟩=some (.int .i64 nw)):=⟨hb,t0,t1⟩
   have HC2:Hid (b'<wr.heap.size∧wr.cell? ⟨b',o'+k*2,none⟩=some (.int .i64 s)∧wr.cell? ⟨b',o'+k*2+1,none⟩=some (.int .i64 nw)):=⟨hb',u0,u1⟩
   clear hb hb' t0 t1 u0 u1;go_wp2_with fail;refine wp_region_any (by kernel_rfl) ?_;refine wpAny_slotsG (fun _ _ _=>True) (frame:=(fun (a b c d e f g h i j k l m n o p q:Value)=>fun (t:Nat→Value)=>({ tmps:=List.toArray [a,b,c,d,e,f,g,h,i,j,k,l,m,n,o,p,q,t 0,t 1,t 2,t 3,t 4,t 5,t 6,t 7,t 8,t 9],defers:=[] }:Act)) _ _ _ _ _ _ _ _ _ _ _ _ _ _ _ _ _)
    (Ext:=fun L w'=>Below wr.heap.size wr w') (Good:=fun i L w' v=>if i=0 then v=.slice (some ⟨b,o,none⟩) n c else if i=1 then v=.int .i64 k else if i=2 then v=.pointer (some ⟨b,o+k*2,none⟩) else if i=3 then v=.agg #[.int .i64 s,.int .i64 nw] else if i=4 then v=.slice (some ⟨b',o',none⟩) n c' else if i=5 then v=.int .i64 k else if i=6 then v=.pointer (some ⟨b',o'+k*2,none⟩) else if i=7 then v=.agg #[.int .i64 s,.int .i64 nw] else if i=8 then v=.bool true else if i=9 then v=.bool false else True) (fun j L w9 w' i v _ _ _ h=>h) (by kernel_rfl) ?hop ?hdone _ _ ((fun (x0 x1 x2 x3 x4 x5 x6 x7 x8 x9:Value)=>fun (i:Nat)=>if i=0 then x0 else if i=1 then x1 else if i=2 then x2 else if i=3 then x3 else if i=4 then x4 else if i=5 then x5 else if i=6 then x6 else if i=7 then x7 else if i=8 then x8 else if i=9 then x9 else undef) _ _ _ _ _ _ _ _ _ _) _ (by simp) ?ext ?start (by simp)
   case start=>intro i hi h;exact absurd h (by rw[Array.getD_eq_getD_getElem?,Array.getElem?_replicate];split<;>simp)
   case ext=>exact⟨rfl,rfl,rfl,Nat.le_refl _,fun _ _=>rfl⟩
   case hop=>
    intro i o L t w' ho hLi hx hdep K hK;have hi:i<10:=(Array.getElem?_eq_some_iff.1 ho).1;obtain rfl|rfl|rfl|rfl|rfl|rfl|rfl|rfl|rfl|rfl:i=0∨i=1∨i=2∨i=3∨i=4∨i=5∨i=6∨i=7∨i=8∨i=9:=by omega
    all_goals(simp at ho;subst ho)
    ·clear hdep;have hK':=hK w' (.slice (some ⟨b,o,none⟩) n c) (by simp) hx trivial;clear hK;rw[if_pos (by rfl)];go_simp;simpa[upd] using hK'
    ·clear hdep;have hK':=hK w' (.int .i64 k) (by simp) hx trivial;clear hK;rw[if_pos (by rfl)];go_simp;simpa[upd] using hK'
    ·have d0:t 0=.slice (some ⟨b,o,none⟩) n c:=by simpa using hdep ⟨0,.data⟩ (by simp) rfl
     have d1:t 1=.int .i64 k:=by simpa using hdep ⟨1,.data⟩ (by simp) rfl
     clear hdep;have hK':=hK w' (.pointer (some ⟨b,o+k*2,none⟩)) (by simp) hx trivial;clear hK;rw[if_pos (by rfl)];go_simp;simpa[upd,d0,d1] using hK'
    ·have d2:t 2=.pointer (some ⟨b,o+k*2,none⟩):=by simpa using hdep ⟨2,.data⟩ (by simp) rfl
     clear hdep;have q0:w'.cell? ⟨b,o+k*2,none⟩=some (.int .i64 s):=by rw[hx.cell (p:=⟨b,o+k*2,none⟩) HC1.out.1];exact HC1.out.2.1
     have q1:w'.cell? ⟨b,o+k*2+1,none⟩=some (.int .i64 nw):=by rw[hx.cell (p:=⟨b,o+k*2+1,none⟩) HC1.out.1];exact HC1.out.2.2
     have hK':=hK w' (.agg #[.int .i64 s,.int .i64 nw]) (by simp) hx trivial;clear hK;rw[if_pos (by rfl)];go_simp;simpa[upd,d2] using hK'
    ·clear hdep;have hK':=hK w' (.slice (some ⟨b',o',none⟩) n c') (by simp) hx trivial;clear hK;rw[if_pos (by rfl)];go_simp;simpa[upd] using hK'
    ·clear hdep;have hK':=hK w' (.int .i64 k) (by simp) hx trivial;clear hK;rw[if_pos (by rfl)];go_simp;simpa[upd] using hK'
    ·have d4:t 4=.slice (some ⟨b',o',none⟩) n c':=by simpa using hdep ⟨4,.data⟩ (by simp) rfl
     have d5:t 5=.int .i64 k:=by simpa using hdep ⟨5,.data⟩ (by simp) rfl
     clear hdep;have hK':=hK w' (.pointer (some ⟨b',o'+k*2,none⟩)) (by simp) hx trivial;clear hK;rw[if_pos (by rfl)];go_simp;simpa[upd,d4,d5] using hK'
    ·have d6:t 6=.pointer (some ⟨b',o'+k*2,none⟩):=by simpa using hdep ⟨6,.data⟩ (by simp) rfl
     clear hdep;have q0:w'.cell? ⟨b',o'+k*2,none⟩=some (.int .i64 s):=by rw[hx.cell (p:=⟨b',o'+k*2,none⟩) HC2.out.1];exact HC2.out.2.1
     have q1:w'.cell? ⟨b',o'+k*2+1,none⟩=some (.int .i64 nw):=by rw[hx.cell (p:=⟨b',o'+k*2+1,none⟩) HC2.out.1];exact HC2.out.2.2
     have hK':=hK w' (.agg #[.int .i64 s,.int .i64 nw]) (by simp) hx trivial;clear hK;rw[if_pos (by rfl)];go_simp;simpa[upd,d6] using hK'
    ·have d3:t 3=.agg #[.int .i64 s,.int .i64 nw]:=by simpa using hdep ⟨3,.data⟩ (by simp) rfl
     have d7:t 7=.agg #[.int .i64 s,.int .i64 nw]:=by simpa using hdep ⟨7,.data⟩ (by simp) rfl
     clear hdep;have A:=eqT1_any s nw w';have hK':∀ ww,Below w'.heap.size w' ww→K _ ww:=fun ww hb=>hK ww (.bool true) (by simp) (hx.trans (hb.mono hx.size)) trivial
     clear hK;rw[if_pos (by rfl)];go_simp;try simp only[d3,d7]
     refine A.mono ?_;rintro e w9 ⟨rfl,hb⟩;have hK2:=hK' w9 hb;clear hK' A hb;go_simp;simpa[upd,d3,d7] using hK2
    ·have d8:t 8=.bool true:=by simpa using hdep ⟨8,.data⟩ (by simp) rfl
     clear hdep;have hK':=hK w' (.bool false) (by simp) hx trivial;clear hK;rw[if_pos (by rfl)];go_simp;simpa[upd,d8] using hK'
   case hdone=>
    intro L t w' hx hg;have d9:t 9=.bool false:=by simpa using hg 9 (by decide)
    clear hg;have HBW:Hid (Below w.heap.size w w'):=HB.out.trans (hx.mono HB.out.size);simp only[d9];clear hx d9;go_wp2;go_roundw
    case rel=>exact⟨k+1,by omega,by go_num,HBW.out⟩
    case measure=>simp[intOf];omega
  ·have hlt':¬ ((k:Int)<n):=by omega
   clear hbel;go_wp2
   go_ret
   exact⟨rfl,HB.out⟩
end Go.Proofs.YtganeokokjodoaaGreat
