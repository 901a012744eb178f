import Derived.Test.YtjdhhgaelgemcaaGreatDoorMBase
open Option renaming some->aE
open Go renaming World->aC,Value->aB
namespace Go.Proofs.YtjdhhgaelgemcaaGreatDoor
open Go.ChangeShapes Go.WideShapes Go.ChangeAt Go.RowKit
set_option linter.unusedVariables false
def Ce (u:Nat->aB) (i:Nat) (v:aB):Nat->aB:=λj=>if j=i then v else u j
theorem Eo (l:List Bool):∀ i,l[i]?=aE false->((l.set i true).filter (!·)).length+1=(l.filter (!·)).length:=by
 induction l with
 |nil=>intro i h;simp at h
 |cons b l ih=>
  intro i h;cases i with
  |zero=>simp at h;subst h;simp
  |succ i=>
   have:=ih i (by simpa using h);cases b<;>simp at this |-<;>omega
theorem DV (l:Array Bool) (i j:Nat) (hi:i<l.size):(l.setIfInBounds i true).getD j false=if j=i then true else l.getD j false:=by
 by_cases h:j=i
 ·subst h;simp[hi]
 ·simp[h,Ne.symm h]
section
variable {P:Program} {ops:Array Oper} {Q:Exit->Act->aC->Prop} {md:Region.Mode}
theorem Cz {listed:Array Bool} {i:Nat}:i∈Region.ready md ops listed↔i<ops.size/\listed.getD i true=false/\∃ o,ops[i]?=aE o/\∀ e∈o.after,Region.binds md e=true->listed.getD e.on false=true:=by
 unfold Region.ready;simp only[List.mem_filter,List.mem_range,Bool.and_eq_true,Bool.not_eq_true'];constructor
 ·rintro⟨h1,h2,h3⟩;refine⟨h1,h2,?_⟩;cases ho:ops[i]? with
  |none=>simp[ho] at h3
  |some o=>
   refine⟨o,rfl,λe he hb=>?_⟩;simp[ho] at h3;rcases BZ.1 he with⟨k,hk,rfl⟩
   have:=h3 k hk;simp[hb] at this;simpa using this
 ·rintro⟨h1,h2,o,ho,h3⟩;refine⟨h1,h2,?_⟩;simp[ho];intro k hk;by_cases hb:Region.binds md o.after[k]=true
  ·right;simpa using h3 _ (Array.getElem_mem hk) hb
  ·left;simpa using hb
end
section
variable {P:Program} {ops:Array Oper} {Q:Exit->Act->aC->Prop} {md:Region.Mode}
theorem KK {fuel:Nat} {listed:Array Bool} {a:Act} {w:aC} (hr:Region.ready md ops listed=[]) (hq:Q .normal a w):wpAny P md ops Q fuel listed a w:=by
 cases fuel with
 |zero=>exact⟨hr,hq⟩
 |succ fuel=>exact⟨λ_=>hq,λi hi=>by rw[hr] at hi;cases hi⟩
theorem F9 (last:Nat) (M:aC->aC->Prop) (frame:(Nat->aB)->Act) (Ext:aC->Prop) (Good:Nat->aC->aB->Prop)
  (hlast:ops.size=last+1)
  (hwait:((ops[last]?).map (λo=>(List.range last).all (λj=>o.after.any (λe=>Region.binds md e && decide (e.on=j))))).getD false=true)
  (hmono:∀ i w w' v,M w w'->Good i w v->Good i w' v)
  (hguard:ops.all (λo=>o.guard.isNone)=true)
  (hback:(List.range ops.size).all (λi=>((ops[i]?).map (λo=>o.after.all (λe=>decide (e.on<i)))).getD false)=true)
  (hop:∀(i:Nat) (o:Oper) (u:Nat->aB) (w:aC),i<last->ops[i]?=aE o->Ext w->(∀ e∈o.after,Region.binds md e=true->Good e.on w (u e.on))->
   ∀ K:Act->aC->Prop,(∀ w' v,Good i w' v->Ext w'->M w w'->K (frame (Ce u i v)) w')->Oper.wp P o (frame u) w K Q)
  (hend:∀(o:Oper) (u:Nat->aB) (w:aC),ops[last]?=aE o->Ext w->(∀ i,i<last->Good i w (u i))->
   ∀ K:Act->aC->Prop,(∀ a w',Q .normal a w'->K a w')->Oper.wp P o (frame u) w K Q) :
  ∀(fuel:Nat) (listed:Array Bool) (u:Nat->aB) (w:aC),listed.size=ops.size->listed.getD last false=false->Ext w->(∀ i,i<last->listed.getD i false=true->Good i w (u i))->
   (listed.toList.filter (!·)).length<=fuel->wpAny P md ops Q fuel listed (frame u) w:=by
 have hb:∀(i:Nat) (o:Oper),ops[i]?=aE o->∀ e∈o.after,e.on<i:=λi o ho e he=>by
  have hi:i<ops.size:=(AR.1 ho).1;have:=BI.1 hback i (BF.2 hi);rw[ho] at this;simp at this;obtain⟨k,hk,rfl⟩:=BZ.1 he;exact this k hk
 have hg:∀(i:Nat) (o:Oper),ops[i]?=aE o->o.guard=none:=λi o ho=>by
  have:=Array.all_eq_true_iff_forall_mem.1 hguard o (Array.mem_of_getElem? ho);simpa using this
 have hw:∀ o,ops[last]?=aE o->∀ j,j<last->∃ e∈o.after,Region.binds md e=true/\e.on=j:=λo ho j hj=>by
  rw[ho] at hwait;have h1:(List.range last).all (λj=>o.after.any (λe=>Region.binds md e && decide (e.on=j)))=true:=by simpa using hwait
  have h2:=BI.1 h1 j (BF.2 hj);obtain⟨e,he,h3⟩:=Array.any_eq_true'.1 h2;simp at h3;exact⟨e,he,h3⟩
 have hno:∀(listed:Array Bool),listed.size=ops.size->listed.getD last false=false->Region.ready md ops listed≠[]:=by
  intro listed hs hl0 hr;have hall:∀ n i,i<n->i<ops.size->listed.getD i false=true:=by
   intro n
   induction n with
   |zero=>intro i h;omega
   |succ n ih=>
    intro i hin hi;by_cases hlt:i<n
    ·exact ih i hlt hi
    ·cases hl:listed.getD i false with
     |true=>rfl
     |false=>
      exfalso
      have hl':listed.getD i true=false:=by
       have hil:i<listed.size:=AJ
       simp[hil] at hl |-;exact hl
      have:i∈Region.ready md ops listed:=Cz.2 ⟨hi,hl',ops[i],by simp[hi],λe hee _=>ih e.on (by have:=hb i ops[i] (by simp[hi]) e hee;omega) (by have:=hb i ops[i] (by simp[hi]) e hee;omega)⟩;rw[hr] at this;cases this
  have:=hall (last+1) last AJ AJ;rw[hl0] at this;cases this
 intro fuel
 induction fuel with
 |zero=>
  intro listed u w hs hl0 he hgd hc
  exfalso
  have hil:last<listed.size:=AJ
  have h3:listed[last]=false:=by simpa[hil] using hl0
  have:listed[last]∈listed.toList.filter (!·):=by
   rw[Be];exact⟨AL,by rw[h3];rfl⟩
  have:=Bm this;omega
 |succ fuel ih=>
  intro listed u w hs hl0 he hgd hc;refine⟨λhr=>absurd hr (hno listed hs hl0),λi hi=>?_⟩;obtain⟨h1,h2,o,ho,h3⟩:=Cz.1 hi;refine wpOp_step ho λK hK=>?_
  have hwn:Region.wanted o (yielded ops (frame u).tmps)=true:=by simp[Region.wanted,hg i o ho]
  rw[AP hwn];have hil:i<listed.size:=AJ
  by_cases hi':i<last
  ·refine hop i o u w hi' ho he (λe hee hbd=>hgd e.on (AG (hb i o ho e hee)) (h3 e hee hbd)) K λw' v hgv hext hm=>hK _ _ ?_
   refine ih _ _ w' (by simpa using hs) ?_ hext (λj hj hlj=>?_) ?_
   ·rw[DV listed i last hil,AQ AJ];exact hl0
   ·rw[DV listed i j hil] at hlj;unfold Ce;by_cases hji:j=i
    ·subst hji;simpa using hgv
    ·rw[AQ hji] at hlj;rw[AQ hji];exact hmono j w w' _ hm (hgd j hj hlj)
   ·have:listed.toList[i]?=aE false:=by simp[hil] at h2;simp[hil,h2]
    have:=Eo listed.toList i this;rw[Bc];omega
  ·have hie:i=last:=AJ
   subst hie;have hlst:∀ j,j<i->listed.getD j false=true:=λj hj=>by
    obtain⟨e,hee,hbd,rfl⟩:=hw o ho j hj;exact h3 e hee hbd
   refine hend o u w ho he (λj hj=>hgd j hj (hlst j hj)) K λa w' hq=>hK _ _ (KK ?_ hq)
   apply BN.2;intro j hj;obtain⟨g1,g2,_⟩:=Cz.1 hj;have hjl:j<listed.size:=AJ
   have g3:(listed.setIfInBounds i true).getD j false=false:=by
    have:j<(listed.setIfInBounds i true).size:=by simpa using hjl
    rw[By,Array.getElem?_eq_getElem this] at g2 |-;exact g2
   rw[DV listed i j hil] at g3;by_cases hji:j=i
   ·rw[AP hji] at g3;cases g3
   ·rw[AQ hji,hlst j AJ] at g3;cases g3
end
section
variable {P:Program} {ops:Array Oper} {Q:Exit->Act->aC->Prop} {md:Region.Mode}
def Cf (L:Nat->Bool) (i:Nat):Nat->Bool:=λj=>if j=i then true else L j
theorem Eb (last:Nat) (M:Nat->aC->aC->Prop) (frame:(Nat->aB)->Act) (Ext:(Nat->Bool)->aC->Prop) (Good:Nat->(Nat->Bool)->aC->aB->Prop)
  (hlast:ops.size=last+1)
  (hwait:((ops[last]?).map (λo=>(List.range last).all (λj=>o.after.any (λe=>Region.binds md e && decide (e.on=j))))).getD false=true)
  (hstab:∀ j L w w' i v,M i w w'->i≠j->L i=false->Good j L w v->Good j (Cf L i) w' v)
  (hguard:ops.all (λo=>o.guard.isNone)=true)
  (hback:(List.range ops.size).all (λi=>((ops[i]?).map (λo=>o.after.all (λe=>decide (e.on<i)))).getD false)=true)
  (hop:∀(i:Nat) (o:Oper) (L:Nat->Bool) (u:Nat->aB) (w:aC),i<last->ops[i]?=aE o->L i=false->Ext L w->(∀ e∈o.after,Region.binds md e=true->Good e.on L w (u e.on))->
   ∀ K:Act->aC->Prop,(∀ w' v,Good i (Cf L i) w' v->Ext (Cf L i) w'->M i w w'->K (frame (Ce u i v)) w')->Oper.wp P o (frame u) w K Q)
  (hend:∀(o:Oper) (L:Nat->Bool) (u:Nat->aB) (w:aC),ops[last]?=aE o->Ext L w->(∀ i,i<last->Good i L w (u i))->
   ∀ K:Act->aC->Prop,(∀ a w',Q .normal a w'->K a w')->Oper.wp P o (frame u) w K Q) :
  ∀(fuel:Nat) (listed:Array Bool) (u:Nat->aB) (w:aC),listed.size=ops.size->listed.getD last false=false->Ext (λn=>listed.getD n false) w->(∀ i,i<last->listed.getD i false=true->Good i (λn=>listed.getD n false) w (u i))->
   (listed.toList.filter (!·)).length<=fuel->wpAny P md ops Q fuel listed (frame u) w:=by
 have hb:∀(i:Nat) (o:Oper),ops[i]?=aE o->∀ e∈o.after,e.on<i:=λi o ho e he=>by
  have hi:i<ops.size:=(AR.1 ho).1;have:=BI.1 hback i (BF.2 hi);rw[ho] at this;simp at this;obtain⟨k,hk,rfl⟩:=BZ.1 he;exact this k hk
 have hg:∀(i:Nat) (o:Oper),ops[i]?=aE o->o.guard=none:=λi o ho=>by
  have:=Array.all_eq_true_iff_forall_mem.1 hguard o (Array.mem_of_getElem? ho);simpa using this
 have hw:∀ o,ops[last]?=aE o->∀ j,j<last->∃ e∈o.after,Region.binds md e=true/\e.on=j:=λo ho j hj=>by
  rw[ho] at hwait;have h1:(List.range last).all (λj=>o.after.any (λe=>Region.binds md e && decide (e.on=j)))=true:=by simpa using hwait
  have h2:=BI.1 h1 j (BF.2 hj);obtain⟨e,he,h3⟩:=Array.any_eq_true'.1 h2;simp at h3;exact⟨e,he,h3⟩
 have hno:∀(listed:Array Bool),listed.size=ops.size->listed.getD last false=false->Region.ready md ops listed≠[]:=by
  intro listed hs hl0 hr;have hall:∀ n i,i<n->i<ops.size->listed.getD i false=true:=by
   intro n
   induction n with
   |zero=>intro i h;omega
   |succ n ih=>
    intro i hin hi;by_cases hlt:i<n
    ·exact ih i hlt hi
    ·cases hl:listed.getD i false with
     |true=>rfl
     |false=>
      exfalso
      have hl':listed.getD i true=false:=by
       have hil:i<listed.size:=AJ
       simp[hil] at hl |-;exact hl
      have:i∈Region.ready md ops listed:=Cz.2 ⟨hi,hl',ops[i],by simp[hi],λe hee _=>ih e.on (by have:=hb i ops[i] (by simp[hi]) e hee;omega) (by have:=hb i ops[i] (by simp[hi]) e hee;omega)⟩;rw[hr] at this;cases this
  have:=hall (last+1) last AJ AJ;rw[hl0] at this;cases this
 intro fuel
 induction fuel with
 |zero=>
  intro listed u w hs hl0 he hgd hc
  exfalso
  have hil:last<listed.size:=AJ
  have h3:listed[last]=false:=by simpa[hil] using hl0
  have:listed[last]∈listed.toList.filter (!·):=by
   rw[Be];exact⟨AL,by rw[h3];rfl⟩
  have:=Bm this;omega
 |succ fuel ih=>
  intro listed u w hs hl0 he hgd hc;refine⟨λhr=>absurd hr (hno listed hs hl0),λi hi=>?_⟩;obtain⟨h1,h2,o,ho,h3⟩:=Cz.1 hi;refine wpOp_step ho λK hK=>?_
  have hwn:Region.wanted o (yielded ops (frame u).tmps)=true:=by simp[Region.wanted,hg i o ho]
  rw[AP hwn];have hil:i<listed.size:=AJ
  by_cases hi':i<last
  ·have hnl:listed.getD i false=false:=by simp[hil] at h2 |-;exact h2
   have hupd:(λn=>(listed.setIfInBounds i true).getD n false)=Cf (λn=>listed.getD n false) i:=by
    funext n;rw[DV listed i n hil];rfl
   refine hop i o (λn=>listed.getD n false) u w hi' ho hnl he (λe hee hbd=>hgd e.on (AG (hb i o ho e hee)) (h3 e hee hbd)) K λw' v hgv hext hm=>hK _ _ ?_
   refine ih _ _ w' (by simpa using hs) ?_ (by rw[hupd];exact hext) (λj hj hlj=>?_) ?_
   ·rw[DV listed i last hil,AQ AJ];exact hl0
   ·rw[DV listed i j hil] at hlj;unfold Ce;by_cases hji:j=i
    ·subst hji;rw[hupd];simpa using hgv
    ·rw[AQ hji] at hlj;rw[AQ hji,hupd];exact hstab j _ w w' i _ hm (BA hji) hnl (hgd j hj hlj)
   ·have:listed.toList[i]?=aE false:=by simp[hil] at h2;simp[hil,h2]
    have:=Eo listed.toList i this;rw[Bc];omega
  ·have hie:i=last:=AJ
   subst hie;have hlst:∀ j,j<i->listed.getD j false=true:=λj hj=>by
    obtain⟨e,hee,hbd,rfl⟩:=hw o ho j hj;exact h3 e hee hbd
   refine hend o (λn=>listed.getD n false) u w ho he (λj hj=>hgd j hj (hlst j hj)) K λa w' hq=>hK _ _ (KK ?_ hq)
   apply BN.2;intro j hj;obtain⟨g1,g2,_⟩:=Cz.1 hj;have hjl:j<listed.size:=AJ
   have g3:(listed.setIfInBounds i true).getD j false=false:=by
    have:j<(listed.setIfInBounds i true).size:=by simpa using hjl
    rw[By,Array.getElem?_eq_getElem this] at g2 |-;exact g2
   rw[DV listed i j hil] at g3;by_cases hji:j=i
   ·rw[AP hji] at g3;cases g3
   ·rw[AQ hji,hlst j AJ] at g3;cases g3
end
section
variable {P:Program} {ops:Array Oper} {Q:Exit->Act->aC->Prop} {md:Region.Mode}
theorem DE (M:Nat->aC->aC->Prop) (frame:(Nat->aB)->Act) (Ext:(Nat->Bool)->aC->Prop) (Good:Nat->(Nat->Bool)->aC->aB->Prop)
  (hstab:∀ j L w w' i v,M i w w'->i≠j->L i=false->Good j L w v->Good j (Cf L i) w' v)
  (hback:(List.range ops.size).all (λi=>((ops[i]?).map (λo=>o.after.all (λe=>decide (e.on<i)))).getD false)=true)
  (hop:∀(i:Nat) (o:Oper) (L:Nat->Bool) (u:Nat->aB) (w:aC),ops[i]?=aE o->L i=false->Ext L w->(∀ e∈o.after,Region.binds md e=true->Good e.on L w (u e.on))->
   ∀ K:Act->aC->Prop,(∀ w' v,Good i (Cf L i) w' v->Ext (Cf L i) w'->M i w w'->K (frame (Ce u i v)) w')->(if Region.wanted o (yielded ops (frame u).tmps)=true then Oper.wp P o (frame u) w K Q else K ((frame u).put o.dst undef) w))
  (hdone:∀ L u w,Ext L w->(∀ i,i<ops.size->Good i L w (u i))->Q .normal (frame u) w) :
  ∀(fuel:Nat) (listed:Array Bool) (u:Nat->aB) (w:aC),listed.size=ops.size->Ext (λn=>listed.getD n false) w->(∀ i,i<ops.size->listed.getD i false=true->Good i (λn=>listed.getD n false) w (u i))->
   (listed.toList.filter (!·)).length<=fuel->wpAny P md ops Q fuel listed (frame u) w:=by
 have hb:∀(i:Nat) (o:Oper),ops[i]?=aE o->∀ e∈o.after,e.on<i:=λi o ho e he=>by
  have hi:i<ops.size:=(AR.1 ho).1;have:=BI.1 hback i (BF.2 hi);rw[ho] at this;simp at this;obtain⟨k,hk,rfl⟩:=BZ.1 he;exact this k hk
 have hfin:∀(listed:Array Bool) (u:Nat->aB) (w:aC),listed.size=ops.size->Ext (λn=>listed.getD n false) w->(∀ i,i<ops.size->listed.getD i false=true->Good i (λn=>listed.getD n false) w (u i))->Region.ready md ops listed=[]->Q .normal (frame u) w:=by
  intro listed u w hs he hgd hr;refine hdone _ u w he λi hi=>hgd i hi ?_
  have hall:∀ n i,i<n->i<ops.size->listed.getD i false=true:=by
   intro n
   induction n with
   |zero=>intro i h;omega
   |succ n ih=>
    intro i hin hi;by_cases hlt:i<n
    ·exact ih i hlt hi
    ·cases hl:listed.getD i false with
     |true=>rfl
     |false=>
      exfalso
      have hl':listed.getD i true=false:=by
       have hil:i<listed.size:=AJ
       simp[hil] at hl |-;exact hl
      have:i∈Region.ready md ops listed:=Cz.2 ⟨hi,hl',ops[i],by simp[hi],λe hee _=>ih e.on (by have:=hb i ops[i] (by simp[hi]) e hee;omega) (by have:=hb i ops[i] (by simp[hi]) e hee;omega)⟩;rw[hr] at this;cases this
  exact hall (i+1) i AJ hi
 intro fuel
 induction fuel with
 |zero=>
  intro listed u w hs he hgd hc;have hr:Region.ready md ops listed=[]:=by
   apply BN.2;intro i hi;obtain⟨h1,h2,_⟩:=Cz.1 hi;have hil:i<listed.size:=AJ
   have h3:listed[i]=false:=by simpa[hil] using h2
   have:listed[i]∈listed.toList.filter (!·):=by
    rw[Be];exact⟨AL,by rw[h3];rfl⟩
   have:=Bm this;omega
  exact⟨hr,hfin listed u w hs he hgd hr⟩
 |succ fuel ih=>
  intro listed u w hs he hgd hc;refine⟨λhr=>hfin listed u w hs he hgd hr,λi hi=>?_⟩;obtain⟨h1,h2,o,ho,h3⟩:=Cz.1 hi;refine wpOp_step ho λK hK=>?_
  have hil:i<listed.size:=AJ
  have hnl:listed.getD i false=false:=by simp[hil] at h2 |-;exact h2
  have hupd:(λn=>(listed.setIfInBounds i true).getD n false)=Cf (λn=>listed.getD n false) i:=by
   funext n;rw[DV listed i n hil];rfl
  refine hop i o (λn=>listed.getD n false) u w ho hnl he (λe hee hbd=>hgd e.on (AG (hb i o ho e hee)) (h3 e hee hbd)) K λw' v hgv hext hm=>hK _ _ ?_
  refine ih _ _ w' (by simpa using hs) (by rw[hupd];exact hext) (λj hj hlj=>?_) ?_
  ·rw[DV listed i j hil] at hlj;unfold Ce;by_cases hji:j=i
   ·subst hji;rw[hupd];simpa using hgv
   ·rw[AQ hji] at hlj;rw[AQ hji,hupd];exact hstab j _ w w' i _ hm (BA hji) hnl (hgd j hj hlj)
  ·have:listed.toList[i]?=aE false:=by simp[hil] at h2;simp[hil,h2]
   have:=Eo listed.toList i this;rw[Bc];omega
end
section
variable {P:Program} {ops:Array Oper} {Q:Exit->Act->aC->Prop} {md:Region.Mode}
theorem Cn (M:Nat->aC->aC->Prop) (frame:(Nat->aB)->Act) (Ext:(Nat->Bool)->(Nat->aB)->aC->Prop) (Good:Nat->(Nat->Bool)->aC->aB->Prop)
  (hstab:∀ j L w w' i v,M i w w'->i≠j->L i=false->Good j L w v->Good j (Cf L i) w' v)
  (hback:(List.range ops.size).all (λi=>((ops[i]?).map (λo=>o.after.all (λe=>decide (e.on<i)))).getD false)=true)
  (hop:∀(i:Nat) (o:Oper) (L:Nat->Bool) (u:Nat->aB) (w:aC),ops[i]?=aE o->L i=false->Ext L u w->(∀ e∈o.after,Region.binds md e=true->L e.on=true/\Good e.on L w (u e.on))->
   ∀ K:Act->aC->Prop,(∀ w' v,Good i (Cf L i) w' v->Ext (Cf L i) (Ce u i v) w'->M i w w'->K (frame (Ce u i v)) w')->(if Region.wanted o (yielded ops (frame u).tmps)=true then Oper.wp P o (frame u) w K Q else K ((frame u).put o.dst undef) w))
  (hdone:∀ L u w,Ext L u w->(∀ i,i<ops.size->Good i L w (u i))->Q .normal (frame u) w) :
  ∀(fuel:Nat) (listed:Array Bool) (u:Nat->aB) (w:aC),listed.size=ops.size->Ext (λn=>listed.getD n false) u w->(∀ i,i<ops.size->listed.getD i false=true->Good i (λn=>listed.getD n false) w (u i))->
   (listed.toList.filter (!·)).length<=fuel->wpAny P md ops Q fuel listed (frame u) w:=by
 have hb:∀(i:Nat) (o:Oper),ops[i]?=aE o->∀ e∈o.after,e.on<i:=λi o ho e he=>by
  have hi:i<ops.size:=(AR.1 ho).1;have:=BI.1 hback i (BF.2 hi);rw[ho] at this;simp at this;obtain⟨k,hk,rfl⟩:=BZ.1 he;exact this k hk
 have hfin:∀(listed:Array Bool) (u:Nat->aB) (w:aC),listed.size=ops.size->Ext (λn=>listed.getD n false) u w->(∀ i,i<ops.size->listed.getD i false=true->Good i (λn=>listed.getD n false) w (u i))->Region.ready md ops listed=[]->Q .normal (frame u) w:=by
  intro listed u w hs he hgd hr;refine hdone _ u w he λi hi=>hgd i hi ?_
  have hall:∀ n i,i<n->i<ops.size->listed.getD i false=true:=by
   intro n
   induction n with
   |zero=>intro i h;omega
   |succ n ih=>
    intro i hin hi;by_cases hlt:i<n
    ·exact ih i hlt hi
    ·cases hl:listed.getD i false with
     |true=>rfl
     |false=>
      exfalso
      have hl':listed.getD i true=false:=by
       have hil:i<listed.size:=AJ
       simp[hil] at hl |-;exact hl
      have:i∈Region.ready md ops listed:=Cz.2 ⟨hi,hl',ops[i],by simp[hi],λe hee _=>ih e.on (by have:=hb i ops[i] (by simp[hi]) e hee;omega) (by have:=hb i ops[i] (by simp[hi]) e hee;omega)⟩;rw[hr] at this;cases this
  exact hall (i+1) i AJ hi
 intro fuel
 induction fuel with
 |zero=>
  intro listed u w hs he hgd hc;have hr:Region.ready md ops listed=[]:=by
   apply BN.2;intro i hi;obtain⟨h1,h2,_⟩:=Cz.1 hi;have hil:i<listed.size:=AJ
   have h3:listed[i]=false:=by simpa[hil] using h2
   have:listed[i]∈listed.toList.filter (!·):=by
    rw[Be];exact⟨AL,by rw[h3];rfl⟩
   have:=Bm this;omega
  exact⟨hr,hfin listed u w hs he hgd hr⟩
 |succ fuel ih=>
  intro listed u w hs he hgd hc;refine⟨λhr=>hfin listed u w hs he hgd hr,λi hi=>?_⟩;obtain⟨h1,h2,o,ho,h3⟩:=Cz.1 hi;refine wpOp_step ho λK hK=>?_
  have hil:i<listed.size:=AJ
  have hnl:listed.getD i false=false:=by simp[hil] at h2 |-;exact h2
  have hupd:(λn=>(listed.setIfInBounds i true).getD n false)=Cf (λn=>listed.getD n false) i:=by
   funext n;rw[DV listed i n hil];rfl
  refine hop i o (λn=>listed.getD n false) u w ho hnl he (λe hee hbd=>⟨h3 e hee hbd,hgd e.on (AG (hb i o ho e hee)) (h3 e hee hbd)⟩) K λw' v hgv hext hm=>hK _ _ ?_
  refine ih _ _ w' (by simpa using hs) (by rw[hupd];exact hext) (λj hj hlj=>?_) ?_
  ·rw[DV listed i j hil] at hlj;unfold Ce;by_cases hji:j=i
   ·subst hji;rw[hupd];simpa using hgv
   ·rw[AQ hji] at hlj;rw[AQ hji,hupd];exact hstab j _ w w' i _ hm (BA hji) hnl (hgd j hj hlj)
  ·have:listed.toList[i]?=aE false:=by simp[hil] at h2;simp[hil,h2]
   have:=Eo listed.toList i this;rw[Bc];omega
end
section
variable {P:Program} {ops:Array Oper} {Q:Exit->Act->aC->Prop} {md:Region.Mode}
theorem K0 (M:Nat->aC->aC->Prop) (frame:(Nat->aB)->Act) (Ext:(Nat->Bool)->(Nat->aB)->aC->Prop) (Good:Nat->(Nat->Bool)->aC->aB->Prop)
  (hstab:∀ j L w w' i v,M i w w'->i≠j->L i=false->Good j L w v->Good j (Cf L i) w' v)
  (hback:(List.range ops.size).all (λi=>((ops[i]?).map (λo=>o.after.all (λe=>!Region.binds md e || decide (e.on<i)))).getD false)=true)
  (hop:∀(i:Nat) (o:Oper) (L:Nat->Bool) (u:Nat->aB) (w:aC),ops[i]?=aE o->L i=false->Ext L u w->(∀ e∈o.after,Region.binds md e=true->L e.on=true/\Good e.on L w (u e.on))->
   ∀ K:Act->aC->Prop,(∀ w' v,Good i (Cf L i) w' v->Ext (Cf L i) (Ce u i v) w'->M i w w'->K (frame (Ce u i v)) w')->(if Region.wanted o (yielded ops (frame u).tmps)=true then Oper.wp P o (frame u) w K Q else K ((frame u).put o.dst undef) w))
  (hdone:∀ L u w,Ext L u w->(∀ i,i<ops.size->Good i L w (u i))->Q .normal (frame u) w) :
  ∀(fuel:Nat) (listed:Array Bool) (u:Nat->aB) (w:aC),listed.size=ops.size->Ext (λn=>listed.getD n false) u w->(∀ i,i<ops.size->listed.getD i false=true->Good i (λn=>listed.getD n false) w (u i))->
   (listed.toList.filter (!·)).length<=fuel->wpAny P md ops Q fuel listed (frame u) w:=by
 have hb:∀(i:Nat) (o:Oper),ops[i]?=aE o->∀ e∈o.after,Region.binds md e=true->e.on<i:=λi o ho e he hbe=>by
  have hi:i<ops.size:=(AR.1 ho).1;have:=BI.1 hback i (BF.2 hi);rw[ho] at this;simp at this;obtain⟨k,hk,rfl⟩:=BZ.1 he;rcases this k hk with h|h
  ·rw[hbe] at h;cases h
  ·exact h
 have hfin:∀(listed:Array Bool) (u:Nat->aB) (w:aC),listed.size=ops.size->Ext (λn=>listed.getD n false) u w->(∀ i,i<ops.size->listed.getD i false=true->Good i (λn=>listed.getD n false) w (u i))->Region.ready md ops listed=[]->Q .normal (frame u) w:=by
  intro listed u w hs he hgd hr;refine hdone _ u w he λi hi=>hgd i hi ?_
  have hall:∀ n i,i<n->i<ops.size->listed.getD i false=true:=by
   intro n
   induction n with
   |zero=>intro i h;omega
   |succ n ih=>
    intro i hin hi;by_cases hlt:i<n
    ·exact ih i hlt hi
    ·cases hl:listed.getD i false with
     |true=>rfl
     |false=>
      exfalso
      have hl':listed.getD i true=false:=by
       have hil:i<listed.size:=AJ
       simp[hil] at hl |-;exact hl
      have:i∈Region.ready md ops listed:=Cz.2 ⟨hi,hl',ops[i],by simp[hi],λe hee hbe=>ih e.on (by have:=hb i ops[i] (by simp[hi]) e hee hbe;omega) (by have:=hb i ops[i] (by simp[hi]) e hee hbe;omega)⟩;rw[hr] at this;cases this
  exact hall (i+1) i AJ hi
 intro fuel
 induction fuel with
 |zero=>
  intro listed u w hs he hgd hc;have hr:Region.ready md ops listed=[]:=by
   apply BN.2;intro i hi;obtain⟨h1,h2,_⟩:=Cz.1 hi;have hil:i<listed.size:=AJ
   have h3:listed[i]=false:=by simpa[hil] using h2
   have:listed[i]∈listed.toList.filter (!·):=by
    rw[Be];exact⟨AL,by rw[h3];rfl⟩
   have:=Bm this;omega
  exact⟨hr,hfin listed u w hs he hgd hr⟩
 |succ fuel ih=>
  intro listed u w hs he hgd hc;refine⟨λhr=>hfin listed u w hs he hgd hr,λi hi=>?_⟩;obtain⟨h1,h2,o,ho,h3⟩:=Cz.1 hi;refine wpOp_step ho λK hK=>?_
  have hil:i<listed.size:=AJ
  have hnl:listed.getD i false=false:=by simp[hil] at h2 |-;exact h2
  have hupd:(λn=>(listed.setIfInBounds i true).getD n false)=Cf (λn=>listed.getD n false) i:=by
   funext n;rw[DV listed i n hil];rfl
  refine hop i o (λn=>listed.getD n false) u w ho hnl he (λe hee hbd=>⟨h3 e hee hbd,hgd e.on (AG (hb i o ho e hee hbd)) (h3 e hee hbd)⟩) K λw' v hgv hext hm=>hK _ _ ?_
  refine ih _ _ w' (by simpa using hs) (by rw[hupd];exact hext) (λj hj hlj=>?_) ?_
  ·rw[DV listed i j hil] at hlj;unfold Ce;by_cases hji:j=i
   ·subst hji;rw[hupd];simpa using hgv
   ·rw[AQ hji] at hlj;rw[AQ hji,hupd];exact hstab j _ w w' i _ hm (BA hji) hnl (hgd j hj hlj)
  ·have:listed.toList[i]?=aE false:=by simp[hil] at h2;simp[hil,h2]
   have:=Eo listed.toList i this;rw[Bc];omega
end
end Go.Proofs.YtjdhhgaelgemcaaGreatDoor
