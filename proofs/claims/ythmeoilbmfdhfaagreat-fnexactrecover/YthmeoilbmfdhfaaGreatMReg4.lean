import Derived.Test.YthmeoilbmfdhfaaGreatMBase
open Option renaming some->UI
open Go renaming World->UK,Value->UL
namespace Go.Proofs.YthmeoilbmfdhfaaGreat
set_option maxHeartbeats 400000
open Go.ChangeShapes Go.WideShapes Go.ChangeAt Go.RowKit
set_option linter.unusedVariables false
section
variable {P:Program} {ops:Array Oper} {Q:Exit->Act->UK->Prop} {md:Region.Mode}
theorem IH {fuel:Nat} {listed:Array Bool} {a:Act} {w:UK} (hr:Region.ready md ops listed=[]) (hq:Q .normal a w):wpAny P md ops Q fuel listed a w:=by
 cases fuel with
 |zero=>exact⟨hr,hq⟩
 |succ fuel=>exact⟨λ_=>hq,λi hi=>by rw[hr] at hi;cases hi⟩
theorem F2 (last:Nat) (M:UK->UK->Prop) (frame:(Nat->UL)->Act) (Ext:UK->Prop) (Good:Nat->UK->UL->Prop)
  (hlast:ops.size=last+1)
  (hwait:((ops[last]?).map (λo=>(List.range last).all (λj=>o.after.any (λe=>Region.binds md e && decide (e.on=j))))).getD false=true)
  (hmono:∀ i w w' v,M w w'->Good i w v->Good i w' v)
  (hguard:ops.all (λo=>o.guard.isNone)=true)
  (hback:(List.range ops.size).all (λi=>((ops[i]?).map (λo=>o.after.all (λe=>decide (e.on<i)))).getD false)=true)
  (hop:∀(i:Nat) (o:Oper) (u:Nat->UL) (w:UK),i<last->ops[i]?=UI o->Ext w->(∀ e∈o.after,Region.binds md e=true->Good e.on w (u e.on))->
   ∀ K:Act->UK->Prop,(∀ w' v,Good i w' v->Ext w'->M w w'->K (frame (Cr u i v)) w')->Oper.wp P o (frame u) w K Q)
  (hend:∀(o:Oper) (u:Nat->UL) (w:UK),ops[last]?=UI o->Ext w->(∀ i,i<last->Good i w (u i))->
   ∀ K:Act->UK->Prop,(∀ a w',Q .normal a w'->K a w')->Oper.wp P o (frame u) w K Q) :
  ∀(fuel:Nat) (listed:Array Bool) (u:Nat->UL) (w:UK),listed.size=ops.size->listed.getD last false=false->Ext w->(∀ i,i<last->listed.getD i false=true->Good i w (u i))->
   (listed.toList.filter (!·)).length<=fuel->wpAny P md ops Q fuel listed (frame u) w:=by
 have hb:∀(i:Nat) (o:Oper),ops[i]?=UI o->∀ e∈o.after,e.on<i:=λi o ho e he=>by
  have hi:i<ops.size:=(AQ.1 ho).1;have:=BM.1 hback i (BV.2 hi);rw[ho] at this;simp at this;obtain⟨k,hk,rfl⟩:=Bf.1 he;exact this k hk
 have hg:∀(i:Nat) (o:Oper),ops[i]?=UI o->o.guard=none:=λi o ho=>by
  have:=B0.1 hguard o (Array.mem_of_getElem? ho);simpa using this
 have hw:∀ o,ops[last]?=UI o->∀ j,j<last->∃ e∈o.after,Region.binds md e=true/\e.on=j:=λo ho j hj=>by
  rw[ho] at hwait;have h1:(List.range last).all (λj=>o.after.any (λe=>Region.binds md e && decide (e.on=j)))=true:=by simpa using hwait
  have h2:=BM.1 h1 j (BV.2 hj);obtain⟨e,he,h3⟩:=Array.any_eq_true'.1 h2;simp at h3;exact⟨e,he,h3⟩
 have hno:∀(listed:Array Bool),listed.size=ops.size->listed.getD last false=false->Region.ready md ops listed≠[]:=by
  intro listed hs hl0 hr;have hall:∀ n i,i<n->i<ops.size->listed.getD i false=true:=by
   intro n
   induction n with
   |zero=>intro i h;omega
   |succ n ih=>
    intro i hin hi;by_cases hlt:i<n
    ·exact ih i hlt hi
    ·cases hl:listed.getD i false with
     |true=>rfl
     |false=>
      exfalso
      have hl':listed.getD i true=false:=by
       have hil:i<listed.size:=AK
       simp[hil] at hl |-;exact hl
      have:i∈Region.ready md ops listed:=DM.2 ⟨hi,hl',ops[i],by simp[hi],λe hee _=>ih e.on (by have:=hb i ops[i] (by simp[hi]) e hee;omega) (by have:=hb i ops[i] (by simp[hi]) e hee;omega)⟩;rw[hr] at this;cases this
  have:=hall (last+1) last AK AK;rw[hl0] at this;cases this
 intro fuel
 induction fuel with
 |zero=>
  intro listed u w hs hl0 he hgd hc
  exfalso
  have hil:last<listed.size:=AK
  have h3:listed[last]=false:=by simpa[hil] using hl0
  have:listed[last]∈listed.toList.filter (!·):=by
   rw[Bp];exact⟨AM,by rw[h3];rfl⟩
  have:=Bv this;omega
 |succ fuel ih=>
  intro listed u w hs hl0 he hgd hc;refine⟨λhr=>absurd hr (hno listed hs hl0),λi hi=>?_⟩;obtain⟨h1,h2,o,ho,h3⟩:=DM.1 hi;refine wpOp_step ho λK hK=>?_
  have hwn:Region.wanted o (yielded ops (frame u).tmps)=true:=by simp[Region.wanted,hg i o ho]
  rw[AR hwn];have hil:i<listed.size:=AK
  by_cases hi':i<last
  ·refine hop i o u w hi' ho he (λe hee hbd=>hgd e.on (AG (hb i o ho e hee)) (h3 e hee hbd)) K λw' v hgv hext hm=>hK _ _ ?_
   refine ih _ _ w' (by simpa using hs) ?_ hext (λj hj hlj=>?_) ?_
   ·rw[DZ listed i last hil,AS AK];exact hl0
   ·rw[DZ listed i j hil] at hlj;unfold Cr;by_cases hji:j=i
    ·subst hji;simpa using hgv
    ·rw[AS hji] at hlj;rw[AS hji];exact hmono j w w' _ hm (hgd j hj hlj)
   ·have:listed.toList[i]?=UI false:=by simp[hil] at h2;simp[hil,h2]
    have:=Ew listed.toList i this;rw[Bh];omega
  ·have hie:i=last:=AK
   subst hie;have hlst:∀ j,j<i->listed.getD j false=true:=λj hj=>by
    obtain⟨e,hee,hbd,rfl⟩:=hw o ho j hj;exact h3 e hee hbd
   refine hend o u w ho he (λj hj=>hgd j hj (hlst j hj)) K λa w' hq=>hK _ _ (IH ?_ hq)
   apply BW.2;intro j hj;obtain⟨g1,g2,_⟩:=DM.1 hj;have hjl:j<listed.size:=AK
   have g3:(listed.setIfInBounds i true).getD j false=false:=by
    have:j<(listed.setIfInBounds i true).size:=by simpa using hjl
    rw[A7,CN this] at g2 |-;exact g2
   rw[DZ listed i j hil] at g3;by_cases hji:j=i
   ·rw[AR hji] at g3;cases g3
   ·rw[AS hji,hlst j AK] at g3;cases g3
end
section
variable {P:Program} {ops:Array Oper} {Q:Exit->Act->UK->Prop} {md:Region.Mode}
def Ct (L:Nat->Bool) (i:Nat):Nat->Bool:=λj=>if j=i then true else L j
theorem F3 (last:Nat) (M:Nat->UK->UK->Prop) (frame:(Nat->UL)->Act) (Ext:(Nat->Bool)->UK->Prop) (Good:Nat->(Nat->Bool)->UK->UL->Prop)
  (hlast:ops.size=last+1)
  (hwait:((ops[last]?).map (λo=>(List.range last).all (λj=>o.after.any (λe=>Region.binds md e && decide (e.on=j))))).getD false=true)
  (hstab:∀ j L w w' i v,M i w w'->i≠j->L i=false->Good j L w v->Good j (Ct L i) w' v)
  (hguard:ops.all (λo=>o.guard.isNone)=true)
  (hback:(List.range ops.size).all (λi=>((ops[i]?).map (λo=>o.after.all (λe=>decide (e.on<i)))).getD false)=true)
  (hop:∀(i:Nat) (o:Oper) (L:Nat->Bool) (u:Nat->UL) (w:UK),i<last->ops[i]?=UI o->L i=false->Ext L w->(∀ e∈o.after,Region.binds md e=true->Good e.on L w (u e.on))->
   ∀ K:Act->UK->Prop,(∀ w' v,Good i (Ct L i) w' v->Ext (Ct L i) w'->M i w w'->K (frame (Cr u i v)) w')->Oper.wp P o (frame u) w K Q)
  (hend:∀(o:Oper) (L:Nat->Bool) (u:Nat->UL) (w:UK),ops[last]?=UI o->Ext L w->(∀ i,i<last->Good i L w (u i))->
   ∀ K:Act->UK->Prop,(∀ a w',Q .normal a w'->K a w')->Oper.wp P o (frame u) w K Q) :
  ∀(fuel:Nat) (listed:Array Bool) (u:Nat->UL) (w:UK),listed.size=ops.size->listed.getD last false=false->Ext (λn=>listed.getD n false) w->(∀ i,i<last->listed.getD i false=true->Good i (λn=>listed.getD n false) w (u i))->
   (listed.toList.filter (!·)).length<=fuel->wpAny P md ops Q fuel listed (frame u) w:=by
 have hb:∀(i:Nat) (o:Oper),ops[i]?=UI o->∀ e∈o.after,e.on<i:=λi o ho e he=>by
  have hi:i<ops.size:=(AQ.1 ho).1;have:=BM.1 hback i (BV.2 hi);rw[ho] at this;simp at this;obtain⟨k,hk,rfl⟩:=Bf.1 he;exact this k hk
 have hg:∀(i:Nat) (o:Oper),ops[i]?=UI o->o.guard=none:=λi o ho=>by
  have:=B0.1 hguard o (Array.mem_of_getElem? ho);simpa using this
 have hw:∀ o,ops[last]?=UI o->∀ j,j<last->∃ e∈o.after,Region.binds md e=true/\e.on=j:=λo ho j hj=>by
  rw[ho] at hwait;have h1:(List.range last).all (λj=>o.after.any (λe=>Region.binds md e && decide (e.on=j)))=true:=by simpa using hwait
  have h2:=BM.1 h1 j (BV.2 hj);obtain⟨e,he,h3⟩:=Array.any_eq_true'.1 h2;simp at h3;exact⟨e,he,h3⟩
 have hno:∀(listed:Array Bool),listed.size=ops.size->listed.getD last false=false->Region.ready md ops listed≠[]:=by
  intro listed hs hl0 hr;have hall:∀ n i,i<n->i<ops.size->listed.getD i false=true:=by
   intro n
   induction n with
   |zero=>intro i h;omega
   |succ n ih=>
    intro i hin hi;by_cases hlt:i<n
    ·exact ih i hlt hi
    ·cases hl:listed.getD i false with
     |true=>rfl
     |false=>
      exfalso
      have hl':listed.getD i true=false:=by
       have hil:i<listed.size:=AK
       simp[hil] at hl |-;exact hl
      have:i∈Region.ready md ops listed:=DM.2 ⟨hi,hl',ops[i],by simp[hi],λe hee _=>ih e.on (by have:=hb i ops[i] (by simp[hi]) e hee;omega) (by have:=hb i ops[i] (by simp[hi]) e hee;omega)⟩;rw[hr] at this;cases this
  have:=hall (last+1) last AK AK;rw[hl0] at this;cases this
 intro fuel
 induction fuel with
 |zero=>
  intro listed u w hs hl0 he hgd hc
  exfalso
  have hil:last<listed.size:=AK
  have h3:listed[last]=false:=by simpa[hil] using hl0
  have:listed[last]∈listed.toList.filter (!·):=by
   rw[Bp];exact⟨AM,by rw[h3];rfl⟩
  have:=Bv this;omega
 |succ fuel ih=>
  intro listed u w hs hl0 he hgd hc;refine⟨λhr=>absurd hr (hno listed hs hl0),λi hi=>?_⟩;obtain⟨h1,h2,o,ho,h3⟩:=DM.1 hi;refine wpOp_step ho λK hK=>?_
  have hwn:Region.wanted o (yielded ops (frame u).tmps)=true:=by simp[Region.wanted,hg i o ho]
  rw[AR hwn];have hil:i<listed.size:=AK
  by_cases hi':i<last
  ·have hnl:listed.getD i false=false:=by simp[hil] at h2 |-;exact h2
   have hupd:(λn=>(listed.setIfInBounds i true).getD n false)=Ct (λn=>listed.getD n false) i:=by
    funext n;rw[DZ listed i n hil];rfl
   refine hop i o (λn=>listed.getD n false) u w hi' ho hnl he (λe hee hbd=>hgd e.on (AG (hb i o ho e hee)) (h3 e hee hbd)) K λw' v hgv hext hm=>hK _ _ ?_
   refine ih _ _ w' (by simpa using hs) ?_ (by rw[hupd];exact hext) (λj hj hlj=>?_) ?_
   ·rw[DZ listed i last hil,AS AK];exact hl0
   ·rw[DZ listed i j hil] at hlj;unfold Cr;by_cases hji:j=i
    ·subst hji;rw[hupd];simpa using hgv
    ·rw[AS hji] at hlj;rw[AS hji,hupd];exact hstab j _ w w' i _ hm (Bs hji) hnl (hgd j hj hlj)
   ·have:listed.toList[i]?=UI false:=by simp[hil] at h2;simp[hil,h2]
    have:=Ew listed.toList i this;rw[Bh];omega
  ·have hie:i=last:=AK
   subst hie;have hlst:∀ j,j<i->listed.getD j false=true:=λj hj=>by
    obtain⟨e,hee,hbd,rfl⟩:=hw o ho j hj;exact h3 e hee hbd
   refine hend o (λn=>listed.getD n false) u w ho he (λj hj=>hgd j hj (hlst j hj)) K λa w' hq=>hK _ _ (IH ?_ hq)
   apply BW.2;intro j hj;obtain⟨g1,g2,_⟩:=DM.1 hj;have hjl:j<listed.size:=AK
   have g3:(listed.setIfInBounds i true).getD j false=false:=by
    have:j<(listed.setIfInBounds i true).size:=by simpa using hjl
    rw[A7,CN this] at g2 |-;exact g2
   rw[DZ listed i j hil] at g3;by_cases hji:j=i
   ·rw[AR hji] at g3;cases g3
   ·rw[AS hji,hlst j AK] at g3;cases g3
end
section
variable {P:Program} {ops:Array Oper} {Q:Exit->Act->UK->Prop} {md:Region.Mode}
theorem He (M:Nat->UK->UK->Prop) (frame:(Nat->UL)->Act) (Ext:(Nat->Bool)->UK->Prop) (Good:Nat->(Nat->Bool)->UK->UL->Prop)
  (hstab:∀ j L w w' i v,M i w w'->i≠j->L i=false->Good j L w v->Good j (Ct L i) w' v)
  (hback:(List.range ops.size).all (λi=>((ops[i]?).map (λo=>o.after.all (λe=>decide (e.on<i)))).getD false)=true)
  (hop:∀(i:Nat) (o:Oper) (L:Nat->Bool) (u:Nat->UL) (w:UK),ops[i]?=UI o->L i=false->Ext L w->(∀ e∈o.after,Region.binds md e=true->Good e.on L w (u e.on))->
   ∀ K:Act->UK->Prop,(∀ w' v,Good i (Ct L i) w' v->Ext (Ct L i) w'->M i w w'->K (frame (Cr u i v)) w')->(if Region.wanted o (yielded ops (frame u).tmps)=true then Oper.wp P o (frame u) w K Q else K ((frame u).put o.dst undef) w))
  (hdone:∀ L u w,Ext L w->(∀ i,i<ops.size->Good i L w (u i))->Q .normal (frame u) w) :
  ∀(fuel:Nat) (listed:Array Bool) (u:Nat->UL) (w:UK),listed.size=ops.size->Ext (λn=>listed.getD n false) w->(∀ i,i<ops.size->listed.getD i false=true->Good i (λn=>listed.getD n false) w (u i))->
   (listed.toList.filter (!·)).length<=fuel->wpAny P md ops Q fuel listed (frame u) w:=by
 have hb:∀(i:Nat) (o:Oper),ops[i]?=UI o->∀ e∈o.after,e.on<i:=λi o ho e he=>by
  have hi:i<ops.size:=(AQ.1 ho).1;have:=BM.1 hback i (BV.2 hi);rw[ho] at this;simp at this;obtain⟨k,hk,rfl⟩:=Bf.1 he;exact this k hk
 have hfin:∀(listed:Array Bool) (u:Nat->UL) (w:UK),listed.size=ops.size->Ext (λn=>listed.getD n false) w->(∀ i,i<ops.size->listed.getD i false=true->Good i (λn=>listed.getD n false) w (u i))->Region.ready md ops listed=[]->Q .normal (frame u) w:=by
  intro listed u w hs he hgd hr;refine hdone _ u w he λi hi=>hgd i hi ?_
  have hall:∀ n i,i<n->i<ops.size->listed.getD i false=true:=by
   intro n
   induction n with
   |zero=>intro i h;omega
   |succ n ih=>
    intro i hin hi;by_cases hlt:i<n
    ·exact ih i hlt hi
    ·cases hl:listed.getD i false with
     |true=>rfl
     |false=>
      exfalso
      have hl':listed.getD i true=false:=by
       have hil:i<listed.size:=AK
       simp[hil] at hl |-;exact hl
      have:i∈Region.ready md ops listed:=DM.2 ⟨hi,hl',ops[i],by simp[hi],λe hee _=>ih e.on (by have:=hb i ops[i] (by simp[hi]) e hee;omega) (by have:=hb i ops[i] (by simp[hi]) e hee;omega)⟩;rw[hr] at this;cases this
  exact hall (i+1) i AK hi
 intro fuel
 induction fuel with
 |zero=>
  intro listed u w hs he hgd hc;have hr:Region.ready md ops listed=[]:=by
   apply BW.2;intro i hi;obtain⟨h1,h2,_⟩:=DM.1 hi;have hil:i<listed.size:=AK
   have h3:listed[i]=false:=by simpa[hil] using h2
   have:listed[i]∈listed.toList.filter (!·):=by
    rw[Bp];exact⟨AM,by rw[h3];rfl⟩
   have:=Bv this;omega
  exact⟨hr,hfin listed u w hs he hgd hr⟩
 |succ fuel ih=>
  intro listed u w hs he hgd hc;refine⟨λhr=>hfin listed u w hs he hgd hr,λi hi=>?_⟩;obtain⟨h1,h2,o,ho,h3⟩:=DM.1 hi;refine wpOp_step ho λK hK=>?_
  have hil:i<listed.size:=AK
  have hnl:listed.getD i false=false:=by simp[hil] at h2 |-;exact h2
  have hupd:(λn=>(listed.setIfInBounds i true).getD n false)=Ct (λn=>listed.getD n false) i:=by
   funext n;rw[DZ listed i n hil];rfl
  refine hop i o (λn=>listed.getD n false) u w ho hnl he (λe hee hbd=>hgd e.on (AG (hb i o ho e hee)) (h3 e hee hbd)) K λw' v hgv hext hm=>hK _ _ ?_
  refine ih _ _ w' (by simpa using hs) (by rw[hupd];exact hext) (λj hj hlj=>?_) ?_
  ·rw[DZ listed i j hil] at hlj;unfold Cr;by_cases hji:j=i
   ·subst hji;rw[hupd];simpa using hgv
   ·rw[AS hji] at hlj;rw[AS hji,hupd];exact hstab j _ w w' i _ hm (Bs hji) hnl (hgd j hj hlj)
  ·have:listed.toList[i]?=UI false:=by simp[hil] at h2;simp[hil,h2]
   have:=Ew listed.toList i this;rw[Bh];omega
end
section
variable {P:Program} {ops:Array Oper} {Q:Exit->Act->UK->Prop} {md:Region.Mode}
theorem C3 (M:Nat->UK->UK->Prop) (frame:(Nat->UL)->Act) (Ext:(Nat->Bool)->(Nat->UL)->UK->Prop) (Good:Nat->(Nat->Bool)->UK->UL->Prop)
  (hstab:∀ j L w w' i v,M i w w'->i≠j->L i=false->Good j L w v->Good j (Ct L i) w' v)
  (hback:(List.range ops.size).all (λi=>((ops[i]?).map (λo=>o.after.all (λe=>decide (e.on<i)))).getD false)=true)
  (hop:∀(i:Nat) (o:Oper) (L:Nat->Bool) (u:Nat->UL) (w:UK),ops[i]?=UI o->L i=false->Ext L u w->(∀ e∈o.after,Region.binds md e=true->L e.on=true/\Good e.on L w (u e.on))->
   ∀ K:Act->UK->Prop,(∀ w' v,Good i (Ct L i) w' v->Ext (Ct L i) (Cr u i v) w'->M i w w'->K (frame (Cr u i v)) w')->(if Region.wanted o (yielded ops (frame u).tmps)=true then Oper.wp P o (frame u) w K Q else K ((frame u).put o.dst undef) w))
  (hdone:∀ L u w,Ext L u w->(∀ i,i<ops.size->Good i L w (u i))->Q .normal (frame u) w) :
  ∀(fuel:Nat) (listed:Array Bool) (u:Nat->UL) (w:UK),listed.size=ops.size->Ext (λn=>listed.getD n false) u w->(∀ i,i<ops.size->listed.getD i false=true->Good i (λn=>listed.getD n false) w (u i))->
   (listed.toList.filter (!·)).length<=fuel->wpAny P md ops Q fuel listed (frame u) w:=by
 have hb:∀(i:Nat) (o:Oper),ops[i]?=UI o->∀ e∈o.after,e.on<i:=λi o ho e he=>by
  have hi:i<ops.size:=(AQ.1 ho).1;have:=BM.1 hback i (BV.2 hi);rw[ho] at this;simp at this;obtain⟨k,hk,rfl⟩:=Bf.1 he;exact this k hk
 have hfin:∀(listed:Array Bool) (u:Nat->UL) (w:UK),listed.size=ops.size->Ext (λn=>listed.getD n false) u w->(∀ i,i<ops.size->listed.getD i false=true->Good i (λn=>listed.getD n false) w (u i))->Region.ready md ops listed=[]->Q .normal (frame u) w:=by
  intro listed u w hs he hgd hr;refine hdone _ u w he λi hi=>hgd i hi ?_
  have hall:∀ n i,i<n->i<ops.size->listed.getD i false=true:=by
   intro n
   induction n with
   |zero=>intro i h;omega
   |succ n ih=>
    intro i hin hi;by_cases hlt:i<n
    ·exact ih i hlt hi
    ·cases hl:listed.getD i false with
     |true=>rfl
     |false=>
      exfalso
      have hl':listed.getD i true=false:=by
       have hil:i<listed.size:=AK
       simp[hil] at hl |-;exact hl
      have:i∈Region.ready md ops listed:=DM.2 ⟨hi,hl',ops[i],by simp[hi],λe hee _=>ih e.on (by have:=hb i ops[i] (by simp[hi]) e hee;omega) (by have:=hb i ops[i] (by simp[hi]) e hee;omega)⟩;rw[hr] at this;cases this
  exact hall (i+1) i AK hi
 intro fuel
 induction fuel with
 |zero=>
  intro listed u w hs he hgd hc;have hr:Region.ready md ops listed=[]:=by
   apply BW.2;intro i hi;obtain⟨h1,h2,_⟩:=DM.1 hi;have hil:i<listed.size:=AK
   have h3:listed[i]=false:=by simpa[hil] using h2
   have:listed[i]∈listed.toList.filter (!·):=by
    rw[Bp];exact⟨AM,by rw[h3];rfl⟩
   have:=Bv this;omega
  exact⟨hr,hfin listed u w hs he hgd hr⟩
 |succ fuel ih=>
  intro listed u w hs he hgd hc;refine⟨λhr=>hfin listed u w hs he hgd hr,λi hi=>?_⟩;obtain⟨h1,h2,o,ho,h3⟩:=DM.1 hi;refine wpOp_step ho λK hK=>?_
  have hil:i<listed.size:=AK
  have hnl:listed.getD i false=false:=by simp[hil] at h2 |-;exact h2
  have hupd:(λn=>(listed.setIfInBounds i true).getD n false)=Ct (λn=>listed.getD n false) i:=by
   funext n;rw[DZ listed i n hil];rfl
  refine hop i o (λn=>listed.getD n false) u w ho hnl he (λe hee hbd=>⟨h3 e hee hbd,hgd e.on (AG (hb i o ho e hee)) (h3 e hee hbd)⟩) K λw' v hgv hext hm=>hK _ _ ?_
  refine ih _ _ w' (by simpa using hs) (by rw[hupd];exact hext) (λj hj hlj=>?_) ?_
  ·rw[DZ listed i j hil] at hlj;unfold Cr;by_cases hji:j=i
   ·subst hji;rw[hupd];simpa using hgv
   ·rw[AS hji] at hlj;rw[AS hji,hupd];exact hstab j _ w w' i _ hm (Bs hji) hnl (hgd j hj hlj)
  ·have:listed.toList[i]?=UI false:=by simp[hil] at h2;simp[hil,h2]
   have:=Ew listed.toList i this;rw[Bh];omega
end
def Dv (zs:List Int) (p:Nat) (v:Int):Nat->List Int
 |0=>zs
 |k+1=>(Dv zs p v k).set (p+k) (v/2^(8*k)%256)
theorem Em (zs:List Int) (p:Nat) (v:Int) (k:Nat):(Dv zs p v k).length=zs.length:=by
 induction k with
 |zero=>rfl
 |succ k ih=>simp[Dv,ih]
theorem GW (g:Nat) (t:TypeId) (p:Int) (v:Int) (zs:List Int) (w:UK) (hr:DP w g t zs) (hl:zs.length=64) (hp:0<=p) (hp':p<=60) (hv:D8 v) :
  Calls Tryz.prog 146 #[.pointer (UI ⟨g,0,none⟩),.int .i64 p,.int .u32 v] w λe w'=>e=.returned (.tuple #[])/\DP w' g t (Dv zs p.toNat v 4)/\Wr g w w':=by
 obtain⟨hv0,hv1⟩:=hv;obtain⟨p,rfl⟩:=Ai hp;go_enter Tryz.func146,Tryz.ntmps146;go_wp2
 go_loopw [7] (λi wr=>∃ k:Nat,k<=4/\i=.int .i64 k/\DP wr g t (Dv zs p v k)/\Wr g w wr) (λi _=>4-(intOf i).toNat)
 case atStart=>exact⟨0,AK,rfl,hr,Wr.refl _ _⟩
 case round=>
  obtain⟨k,hk,rfl,hrow,hwr⟩:=hrel;by_cases hlt:k<4
  ·have hlen:=Em zs p v k;have hc:=hrow.cell (p+k) AK;have hf:=hrow.frozen (p+k);go_wp2
   go_region
   go_wp2;go_roundw
   case rel=>exact⟨k+1,AK,by go_num,(hrow.set (p+k) _).drew,(hwr.setCell (p+k) _).drew⟩
   case measure=>simp[intOf];omega
  ·have hk4:k=4:=AK
   subst hk4;go_wp2
   go_end0
   exact⟨rfl,hrow,hwr⟩
def DD (zs:List Int) (p:Nat):Int:=zs.getD p 0+256*zs.getD (p+1) 0+65536*zs.getD (p+2) 0+16777216*zs.getD (p+3) 0
theorem Jn (x y:Int) (i:Nat) (hx:0<=x) (hx':x<2^i) (hy:0<=y) (hy':y<4294967296) (hm:y%2^i=0) (hi:i<=32):bits .or .u32 x y=x+y:=by
 obtain⟨x,rfl⟩:=Ai hx;obtain⟨y,rfl⟩:=Ai hy;have hx2:x<2^i:=by exact_mod_cast hx'
 have hm2:y%2^i=0:=by exact_mod_cast hm
 have hi2:2^i<=2^32:=Nat.pow_le_pow_right AL hi;rw[u32_or_nat x y AK AK,Nat.or_comm,nat_join i y x hm2 hx2];omega
theorem KS (a b c d:Int) (ha:0<=a/\a<256) (hb:0<=b/\b<256) (hc:0<=c/\c<256) (hd:0<=d/\d<256) :
  bits .or .u32 (bits .or .u32 (bits .or .u32 a (b*256)) (c*65536)) (d*16777216)=a+256*b+65536*c+16777216*d:=by
 rw[Jn a (b*256) 8 AK AK AK AK AK AL,
  Jn _ (c*65536) 16 AK AK AK AK AK AL,
  Jn _ (d*16777216) 24 AK AK AK AK AK AL]
 omega
theorem Hf (g:Nat) (t:TypeId) (p:Int) (zs:List Int) (w:UK) (hr:DP w g t zs) (hz:Cu zs) (hl:zs.length=64) (hp:0<=p) (hp':p<=60) :
  Calls Tryz.prog 127 #[.pointer (UI ⟨g,0,none⟩),.int .i64 p] w λe w'=>e=.returned (.int .u32 (DD zs p.toNat))/\∃ q,w'=w.drewN q:=by
 obtain⟨p,rfl⟩:=Ai hp;have c0:=hr.cell p AK;have c1:=hr.cell (p+1) AK;have c2:=hr.cell (p+2) AK;have c3:=hr.cell (p+3) AK;have b0:=hz.get p;have b1:=hz.get (p+1);have b2:=hz.get (p+2);have b3:=hz.get (p+3);have HN:AP (DD zs p=zs.getD p 0+256*zs.getD (p+1) 0+65536*zs.getD (p+2) 0+16777216*zs.getD (p+3) 0):=rfl;generalize zs.getD p 0=a at *;generalize zs.getD (p+1) 0=b at *;generalize zs.getD (p+2) 0=c at *;generalize zs.getD (p+3) 0=d at *;have HB:=KS a b c d b0 b1 b2 b3;have HH:AP _:=HB;clear HB;obtain⟨b01,b02⟩:=b0;obtain⟨b11,b12⟩:=b1;obtain⟨b21,b22⟩:=b2;obtain⟨b31,b32⟩:=b3;go_enter Tryz.func127,Tryz.ntmps127;go_wp2
 go_quiet (fail)
 go_wp2
 go_ret
 exact⟨DW (by rw[HH.o,Bw,HN.o]),nq,rfl⟩
section
variable {P:Program} {ops:Array Oper} {Q:Exit->Act->UK->Prop} {md:Region.Mode}
def JP (md:Region.Mode) (ops:Array Oper) (i j:Nat):Bool:=((ops[i]?).map (λo=>o.after.any (λe=>Region.binds md e && decide (e.on=j)))).getD false
theorem KT {i j:Nat} (h:JP md ops i j=true):∃ o,ops[i]?=UI o/\∃ e∈o.after,Region.binds md e=true/\e.on=j:=by
 unfold JP at h;cases ho:ops[i]? with
 |none=>rw[ho] at h;simp at h
 |some o=>
  rw[ho] at h;have h2:o.after.any (λe=>Region.binds md e && decide (e.on=j))=true:=by simpa using h
  obtain⟨e,he,h3⟩:=Array.any_eq_true'.1 h2;simp at h3;exact⟨o,rfl,e,he,h3⟩
theorem Jo (last:Nat) (M:Nat->UK->UK->Prop) (frame:(Nat->UL)->Act) (Ext:(Nat->Bool)->UK->Prop) (Good:Nat->(Nat->Bool)->UK->UL->Prop)
  (hlast:ops.size=last+1)
  (hwait:(List.range last).all (λj=>JP md ops last j || (List.range last).any (λk=>JP md ops last k && JP md ops k j))=true)
  (hstab:∀ j L w w' i v,M i w w'->i≠j->L i=false->Good j L w v->Good j (Ct L i) w' v)
  (hguard:ops.all (λo=>o.guard.isNone)=true)
  (hback:(List.range ops.size).all (λi=>((ops[i]?).map (λo=>o.after.all (λe=>decide (e.on<i)))).getD false)=true)
  (hop:∀(i:Nat) (o:Oper) (L:Nat->Bool) (u:Nat->UL) (w:UK),i<last->ops[i]?=UI o->L i=false->Ext L w->(∀ e∈o.after,Region.binds md e=true->Good e.on L w (u e.on))->
   ∀ K:Act->UK->Prop,(∀ w' v,Good i (Ct L i) w' v->Ext (Ct L i) w'->M i w w'->K (frame (Cr u i v)) w')->Oper.wp P o (frame u) w K Q)
  (hend:∀(o:Oper) (L:Nat->Bool) (u:Nat->UL) (w:UK),ops[last]?=UI o->Ext L w->(∀ i,i<last->Good i L w (u i))->
   ∀ K:Act->UK->Prop,(∀ a w',Q .normal a w'->K a w')->Oper.wp P o (frame u) w K Q) :
  ∀(fuel:Nat) (listed:Array Bool) (u:Nat->UL) (w:UK),listed.size=ops.size->listed.getD last false=false->Ext (λn=>listed.getD n false) w->(∀ i,i<last->listed.getD i false=true->Good i (λn=>listed.getD n false) w (u i))->
   (∀(i:Nat) (o:Oper),ops[i]?=UI o->listed.getD i false=true->∀ e∈o.after,Region.binds md e=true->listed.getD e.on false=true)->(listed.toList.filter (!·)).length<=fuel->wpAny P md ops Q fuel listed (frame u) w:=by
 have hb:∀(i:Nat) (o:Oper),ops[i]?=UI o->∀ e∈o.after,e.on<i:=λi o ho e he=>by
  have hi:i<ops.size:=(AQ.1 ho).1;have:=BM.1 hback i (BV.2 hi);rw[ho] at this;simp at this;obtain⟨k,hk,rfl⟩:=Bf.1 he;exact this k hk
 have hg:∀(i:Nat) (o:Oper),ops[i]?=UI o->o.guard=none:=λi o ho=>by
  have:=B0.1 hguard o (Array.mem_of_getElem? ho);simpa using this
 have hno:∀(listed:Array Bool),listed.size=ops.size->listed.getD last false=false->Region.ready md ops listed≠[]:=by
  intro listed hs hl0 hr;have hall:∀ n i,i<n->i<ops.size->listed.getD i false=true:=by
   intro n
   induction n with
   |zero=>intro i h;omega
   |succ n ih=>
    intro i hin hi;by_cases hlt:i<n
    ·exact ih i hlt hi
    ·cases hl:listed.getD i false with
     |true=>rfl
     |false=>
      exfalso
      have hl':listed.getD i true=false:=by
       have hil:i<listed.size:=AK
       simp[hil] at hl |-;exact hl
      have:i∈Region.ready md ops listed:=DM.2 ⟨hi,hl',ops[i],by simp[hi],λe hee _=>ih e.on (by have:=hb i ops[i] (by simp[hi]) e hee;omega) (by have:=hb i ops[i] (by simp[hi]) e hee;omega)⟩;rw[hr] at this;cases this
  have:=hall (last+1) last AK AK;rw[hl0] at this;cases this
 intro fuel
 induction fuel with
 |zero=>
  intro listed u w hs hl0 he hgd hcl hc
  exfalso
  have hil:last<listed.size:=AK
  have h3:listed[last]=false:=by simpa[hil] using hl0
  have:listed[last]∈listed.toList.filter (!·):=by
   rw[Bp];exact⟨AM,by rw[h3];rfl⟩
  have:=Bv this;omega
 |succ fuel ih=>
  intro listed u w hs hl0 he hgd hcl hc;refine⟨λhr=>absurd hr (hno listed hs hl0),λi hi=>?_⟩;obtain⟨h1,h2,o,ho,h3⟩:=DM.1 hi;refine wpOp_step ho λK hK=>?_
  have hwn:Region.wanted o (yielded ops (frame u).tmps)=true:=by simp[Region.wanted,hg i o ho]
  rw[AR hwn];have hil:i<listed.size:=AK
  by_cases hi':i<last
  ·have hnl:listed.getD i false=false:=by simp[hil] at h2 |-;exact h2
   have hupd:(λn=>(listed.setIfInBounds i true).getD n false)=Ct (λn=>listed.getD n false) i:=by
    funext n;rw[DZ listed i n hil];rfl
   refine hop i o (λn=>listed.getD n false) u w hi' ho hnl he (λe hee hbd=>hgd e.on (AG (hb i o ho e hee)) (h3 e hee hbd)) K λw' v hgv hext hm=>hK _ _ ?_
   refine ih _ _ w' (by simpa using hs) ?_ (by rw[hupd];exact hext) (λj hj hlj=>?_) (λj oj hoj hlj e hee hbd=>?_) ?_
   ·rw[DZ listed i last hil,AS AK];exact hl0
   ·rw[DZ listed i j hil] at hlj;unfold Cr;by_cases hji:j=i
    ·subst hji;rw[hupd];simpa using hgv
    ·rw[AS hji] at hlj;rw[AS hji,hupd];exact hstab j _ w w' i _ hm (Bs hji) hnl (hgd j hj hlj)
   ·rw[DZ listed i e.on hil];rw[DZ listed i j hil] at hlj;split
    ·rfl
    ·by_cases hji:j=i
     ·subst hji;have:oj=o:=by rw[ho] at hoj;exact(CT hoj).symm
      subst this;exact h3 e hee hbd
     ·rw[AS hji] at hlj;exact hcl j oj hoj hlj e hee hbd
   ·have:listed.toList[i]?=UI false:=by simp[hil] at h2;simp[hil,h2]
    have:=Ew listed.toList i this;rw[Bh];omega
  ·have hie:i=last:=AK
   subst hie;have hdir:∀ k,JP md ops i k=true->listed.getD k false=true:=λk hk=>by
    obtain⟨o',ho',e,hee,hbd,rfl⟩:=KT hk;have:o'=o:=by rw[ho] at ho';exact(CT ho').symm
    subst this;exact h3 e hee hbd
   have hlst:∀ j,j<i->listed.getD j false=true:=λj hj=>by
    have h5:=BM.1 hwait j (BV.2 hj);rw[Bool.or_eq_true] at h5;rcases h5 with h5|h5
    ·exact hdir j h5
    ·obtain⟨k,_,h6⟩:=List.any_eq_true.1 h5;rw[CF] at h6;obtain⟨ok,hok,e,hee,hbd,rfl⟩:=KT h6.2;exact hcl k ok hok (hdir k h6.1) e hee hbd
   refine hend o (λn=>listed.getD n false) u w ho he (λj hj=>hgd j hj (hlst j hj)) K λa w' hq=>hK _ _ (IH ?_ hq)
   apply BW.2;intro j hj;obtain⟨g1,g2,_⟩:=DM.1 hj;have hjl:j<listed.size:=AK
   have g3:(listed.setIfInBounds i true).getD j false=false:=by
    have:j<(listed.setIfInBounds i true).size:=by simpa using hjl
    rw[A7,CN this] at g2 |-;exact g2
   rw[DZ listed i j hil] at g3;by_cases hji:j=i
   ·rw[AR hji] at g3;cases g3
   ·rw[AS hji,hlst j AK] at g3;cases g3
end
end Go.Proofs.YthmeoilbmfdhfaaGreat
