import Derived.Test.YtncomnkdlpoelaaGreatDoorMIDd
open Go.Proofs.Tryz renaming prog->tP
open Go.Proofs.Tryz
open Go.Value renaming slice->aM,int->aO,agg->af
open Go.IntKind renaming i64->aZ,u8->aP
open Go.Obj renaming cells->aa
open Go.Ground renaming data->ag
open Option renaming some->aR,none->aS
open Go renaming World->aV,Value->aX
set_option maxHeartbeats 1000000
set_option maxRecDepth 100000
namespace Go.Proofs.YtncomnkdlpoelaaGreatDoor
open Go.ChangeShapes Go.WideShapes Go.ChangeAt Go.RowKit
set_option linter.unusedVariables false
theorem JB (zss:List (List Int)) (k:Nat) (h:k<zss.length):(zss.take (k+1)).flatten=(zss.take k).flatten++zss.getD k []:=by
 rw[A5 h,List.flatten_append];simp[h]
theorem Lp (zss:List (List Int)) (k:Nat):(zss.take k).flatten.length<=zss.flatten.length:=by
 conv=>rhs;rw[<-List.take_append_drop k zss]
 rw[List.flatten_append,Ae];omega
section
variable {P:Program} {ops:Array Oper} {Q:Exit->Act->aV->Prop} {md:Region.Mode}
theorem Em (M:Nat->aV->aV->Prop) (frame:(Nat->aX)->Act) (Ext:(Nat->Bool)->(Nat->aX)->aV->Prop) (Good:Nat->(Nat->Bool)->aV->aX->Prop)
  (hstab:∀ j L w w' i v,M i w w'->i≠j->L i=false->Good j L w v->Good j (CZ L i) w' v)
  (hback:(List.range ops.size).all (λi=>((ops[i]?).map (λo=>o.after.all (λe=>decide (e.on<i)))).getD false)=true)
  (hop:∀(i:Nat) (o:Oper) (L:Nat->Bool) (u:Nat->aX) (w:aV),ops[i]?=aR o->L i=false->Ext L u w->(∀ e∈o.after,Region.binds md e=true->Good e.on L w (u e.on))->
   ∀ K:Act->aV->Prop,(∀ w' v,Good i (CZ L i) w' v->Ext (CZ L i) (Ca u i v) w'->M i w w'->K (frame (Ca u i v)) w')->(if Region.wanted o (yielded ops (frame u).tmps)=true then Oper.wp P o (frame u) w K Q else K ((frame u).put o.dst undef) w))
  (hdone:∀ L u w,Ext L u w->(∀ i,i<ops.size->Good i L w (u i))->Q .normal (frame u) w) :
  ∀(fuel:Nat) (listed:Array Bool) (u:Nat->aX) (w:aV),listed.size=ops.size->Ext (λn=>listed.getD n false) u w->(∀ i,i<ops.size->listed.getD i false=true->Good i (λn=>listed.getD n false) w (u i))->
   (listed.toList.filter (!·)).length<=fuel->wpAny P md ops Q fuel listed (frame u) w:=by
 have hb:∀(i:Nat) (o:Oper),ops[i]?=aR o->∀ e∈o.after,e.on<i:=λi o ho e he=>by
  have hi:=(AR.1 ho).1;have:=BM.1 hback i (BG.2 hi);rw[ho] at this;simp at this;obtain⟨k,hk,rfl⟩:=BQ.1 he;exact this k hk
 have hfin:∀(listed:Array Bool) (u:Nat->aX) (w:aV),listed.size=ops.size->Ext (λn=>listed.getD n false) u w->(∀ i,i<ops.size->listed.getD i false=true->Good i (λn=>listed.getD n false) w (u i))->Region.ready md ops listed=[]->Q .normal (frame u) w:=by
  intro listed u w hs he hgd hr;refine hdone _ u w he λi hi=>hgd i hi ?_
  have hall:∀ n i,i<n->i<ops.size->listed.getD i false=true:=by
   intro n
   induction n with
   |zero=>intro i h;omega
   |succ n ih=>
    intro i hin hi;by_cases hlt:i<n
    ·exact ih i hlt hi
    ·cases hl:listed.getD i false with
     |true=>rfl
     |false=>
      exfalso
      have hl':listed.getD i true=false:=by
       have hil:i<listed.size:=AJ
       simp[hil] at hl |-;exact hl
      have:i∈Region.ready md ops listed:=Cz.2 ⟨hi,hl',ops[i],by simp[hi],λe hee _=>ih e.on (by have:=hb i ops[i] (by simp[hi]) e hee;omega) (by have:=hb i ops[i] (by simp[hi]) e hee;omega)⟩;rw[hr] at this;cases this
  exact hall (i+1) i AJ hi
 intro fuel
 induction fuel with
 |zero=>
  intro listed u w hs he hgd hc;have hr:Region.ready md ops listed=[]:=by
   apply BN.2;intro i hi;obtain⟨h1,h2,_⟩:=Cz.1 hi;have hil:i<listed.size:=AJ
   have h3:listed[i]=false:=by simpa[hil] using h2
   have:listed[i]∈listed.toList.filter (!·):=by
    rw[BS];exact⟨AL,by rw[h3];rfl⟩
   have:=Bg this;omega
  exact⟨hr,hfin listed u w hs he hgd hr⟩
 |succ fuel ih=>
  intro listed u w hs he hgd hc;refine⟨λhr=>hfin listed u w hs he hgd hr,λi hi=>?_⟩;obtain⟨h1,h2,o,ho,h3⟩:=Cz.1 hi;refine wpOp_step ho λK hK=>?_
  have hil:i<listed.size:=AJ
  have hnl:listed.getD i false=false:=by simp[hil] at h2 |-;exact h2
  have hupd:(λn=>(listed.setIfInBounds i true).getD n false)=CZ (λn=>listed.getD n false) i:=by
   funext n;rw[DV listed i n hil];rfl
  refine hop i o (λn=>listed.getD n false) u w ho hnl he (λe hee hbd=>hgd e.on (AG (hb i o ho e hee)) (h3 e hee hbd)) K λw' v hgv hext hm=>hK _ _ ?_
  refine ih _ _ w' (by simpa using hs) (by rw[hupd];exact hext) (λj hj hlj=>?_) ?_
  ·rw[DV listed i j hil] at hlj;unfold Ca;by_cases hji:j=i
   {subst hji;rw[hupd];simpa using hgv};{rw[AQ hji] at hlj;rw[AQ hji,hupd];exact hstab j _ w w' i _ hm (A9 hji) hnl (hgd j hj hlj)}
  ·have:listed.toList[i]?=aR false:=by simp[hil] at h2;simp[hil,h2]
   have:=Et listed.toList i this;rw[BR];omega
end
def Ij:Int:=46316835694926478169428394003475163141307993866256225615783033603165251855960
theorem OA:4*Yu 5 11 5 254 255%GG=46316835694926478169428394003475163141307993866256225615783033603165251855960:=by decide +kernel
theorem QY:(4%fp)*F3 (5%fp) 11 5 254 255%fp=Ij:=by
 have e:(5%fp:Int)=((5:Nat):Int):=AK
 have e4:(4%fp:Int)=((4:Nat):Int):=AK
 rw[e,e4,Xs,LT,<-Int.natCast_mul,<-Int.natCast_emod,OA];rfl
theorem QZ (bs:List Int) (d:Int) (k:Nat) (h:bs.length=2*k):val 256 (bs++[d%256,d/256])=val 256 bs+d*65536^k:=by
 rw[ID,h];have e:(256:Int)^(2*k)=65536^k:=by rw[Int.pow_mul,show(256:Int)^2=65536 from by decide]
 rw[e];simp only[val];have:d%256+256*(d/256)=d:=Int.emod_add_mul_ediv _ _;have e2:d%256+256*(d/256+256*0)=d:=AJ
 rw[e2,Int.mul_comm]
structure Wu (w w5:aV) (zs:List Int) (k:Nat) (v:aX) (wr:aV):Prop where
 st:∃ bs:List Int,DB wr w5.heap.size v bs/\bs.length=2*k/\Cb bs/\val 256 bs=val 65536 (zs.take k)
 below:Below w5.heap.size w5 wr
def Lq (w:aV) (x:Int) (e:Ending) (w':aV):Prop:=
 ∃ v bs,e=.returned v/\DB w' w.heap.size v bs/\Cb bs/\bs.length=32/\val 256 bs=x/\Below w.heap.size w w'
theorem DB.lower3b {w:aV} {B B':Nat} {v:aX} {zs:List Int} (h:DB w B' v zs) (hB:B<=B'):DB w B v zs:=by
 obtain⟨⟨h1,h2⟩,h3⟩:=h;refine⟨⟨h1,?_⟩,h3⟩;rcases h2 with h|⟨g,c,cur,h4,h5,h6⟩
 ·exact .inl h
 ·exact .inr ⟨g,c,cur,h4,AJ,h6⟩
theorem Mq (w:aV):Calls tP 62 #[] w (Lq w Ij):=by
 go_enter func62,ntmps62;go_wp2_with fail;refine(DA 4 _ AK AK).mono ?_;rintro e w1 ⟨g1,c1,rfl,hg1,hg1',hf1,hb1⟩;have HF1:=CY <| hf1
 go_wp2_with fail;refine(DA 5 _ AK AK).mono ?_;rintro e w2 ⟨g2,c2,rfl,hg2,hg2',hf2,hb2⟩;have HF2:=CY <| hf2
 go_wp2_with fail;refine(If _ c2 (5%fp) _ HF2.o).mono ?_;rintro e w3 ⟨g3,c3,rfl,hg3,hg3',hf3,hb3⟩;have HF3:=CY <| hf3
 have HF13:=CY <| (HF1.o.below hb2).below hb3
 go_wp2_with fail;refine(Cs _ _ c1 c3 (4%fp) (F3 (5%fp) 11 5 254 255) _ HF13.o HF3.o).mono ?_;rintro e w4 ⟨g4,c4,rfl,hg4,hg4',hf4,hb4⟩;rw[QY] at hf4;have HF4:=CY <| hf4
 go_wp2_with fail;refine(Eb _ c4 Ij _ HF4.o).mono ?_;rintro e w5 ⟨gy,cyy,rfl,hgy,hgy',⟨zs,hzA,hzl,hzd,hzv⟩,hb5⟩;have HB5:=CY <| hb1.trans ((hb2.trans ((hb3.trans ((hb4.trans (hb5.mono hb4.size)).mono hb3.size)).mono hb2.size)).mono hb1.size)
 have HYC:AO (∀ i,i<16->w5.cell? ⟨gy,i,aS⟩=aR (aO aZ (zs.getD i 0))):=λi hi=>by
  obtain⟨_,_,e,_,hc⟩:=hzA.get AJ;cases e;have:=hc i AJ
  rwa [Ar] at this
 have HZL:=CY <| hzl
 have HZD:=CY <| hzd
 have HZV:=CY <| hzv
 have HS:AO (Wu w w5 zs 0 (aM (aR ⟨w5.heap.size,0,aS⟩) 0 0) (w5.alloc (aa #[] 5))):=⟨⟨[],DB.empty _ _ Ch,rfl,by simp[Cb],by simp[val]⟩,Ce _ _⟩
 go_wp2
 go_loopw [2,3] (λv i wr=>∃ k:Nat,k<=16/\i=aO aZ k/\Wu w w5 zs k v wr) (λ_ i _=>16-(intOf i).toNat)
 case atStart=>exact⟨0,AK,rfl,HS.o⟩
 case round=>
  obtain⟨k,hk,rfl,⟨bs,hO,hbl,hbb,hbv⟩,hbel⟩:=hrel;by_cases hlt:k<16
  ·have hlt':(k:Int)<16:=AJ
   have hd:=HZD.o k;have vt:=DN 65536 zs k (AG HZL.o);have c0:wr.cell? ⟨gy,k,aS⟩=aR (aO aZ (zs.getD k 0)):=by
    rw[hbel.cell (p:=⟨gy,k,aS⟩) hgy'];exact HYC.o k hlt
   generalize hdd:zs.getD k 0=d at *;have HGN:AO (¬ aR gy=u2.ownBlock):=by
    obtain⟨g,c,rfl,hg,_,_⟩:=hO.base;intro h;simp[Value.ownBlock] at h;omega
   have HBL:AO (bs.length<=32):=by show _<=_;omega
   have HN:AO (val 256 (bs++[d%256,d/256])=val 65536 (zs.take (k+1))/\(bs++[d%256,d/256]).length=2*(k+1)/\Cb (bs++[d%256,d/256])):=by
    refine⟨by rw[QZ bs d k hbl,hbv,vt],by simp[hbl];omega,?_⟩;intro z hz;simp at hz;rcases hz with h|h|h
    {exact hbb z h};{omega};{omega}
   have HO:=CY <| hO
   have HBE:=CY <| hbel
   have hwr:=hbel.size;obtain⟨hd0,hd1⟩:=hd;go_wp2_with fail;have hm1:d.tmod 256=d%256:=Ah hd0;have hm2:d.tdiv 256=d/256:=Int.tdiv_eq_ediv_of_nonneg hd0;have hm3:IntKind.u8.wrap (d/256)=d/256:=by rw[IntKind.wrap_u8];omega
   have hm4:IntKind.u8.wrap (d%256)=d%256:=by rw[IntKind.wrap_u8];omega
   have hm5:IntKind.i64.wrap (d/256)=d/256:=by rw[Ak];omega
   refine Ag AM ?_;refine Ei 15 (λi w w'=>i≠14->Below w.heap.size w w') (frame:=(λ(a b c d e f g h i j k l m n o:aX)=>λ(t:Nat->aX)=>({ tmps:=List.toArray [a,b,c,d,e,f,g,h,i,j,k,l,m,n,t 0,t 1,t 2,t 3,t 4,t 5,t 6,t 7,t 8,t 9,t 10,t 11,t 12,t 13,t 14,o],defers:=[] }:Act)) _ _ _ _ _ _ _ _ _ _ _ _ _ _ _)
    (Ext:=λL w'=>(L 14=false->Below wr.heap.size wr w')/\Below w5.heap.size w5 w'/\(∀ i,i<16->w'.cell? ⟨gy,i,aS⟩=wr.cell? ⟨gy,i,aS⟩)/\wr.heap.size<=w'.heap.size)
    (Good:=Xr w5.heap.size u2 gy cyy k d bs) AN AM (MK _ _ _ _ _ _ _) AM AM ?hop ?hend _ _ ((λ(x0 x1 x2 x3 x4 x5 x6 x7 x8 x9 x10 x11 x12 x13 x14:aX)=>λ(i:Nat)=>if i=0 then x0 else if i=1 then x1 else if i=2 then x2 else if i=3 then x3 else if i=4 then x4 else if i=5 then x5 else if i=6 then x6 else if i=7 then x7 else if i=8 then x8 else if i=9 then x9 else if i=10 then x10 else if i=11 then x11 else if i=12 then x12 else if i=13 then x13 else if i=14 then x14 else undef) _ _ _ _ _ _ _ _ _ _ _ _ _ _ _) _ AL AL ?ext ?start AL
   case start=>intro i hi h;exact absurd h Ef
   case ext=>exact⟨λ_=>Cf.drew,⟨HBE.o.os,HBE.o.tape,HBE.o.output,HBE.o.size,HBE.o.block⟩,λ_ _=>rfl,Aa _⟩
   case hop=>
    intro i o L t w' hil ho hLi hx hdep K hK;obtain⟨hx14,hxB,hxY,hxS⟩:=hx;have cY:w'.cell? ⟨gy,k,aS⟩=aR (aO aZ d):=by rw[hxY k AJ];exact c0
    have RX:AO (∀ j,j≠14->∀ ww,Below w'.heap.size w' ww->((CZ L j 14=false->Below wr.heap.size wr ww)/\Below w5.heap.size w5 ww/\(∀ i,i<16->ww.cell? ⟨gy,i,aS⟩=wr.cell? ⟨gy,i,aS⟩)/\wr.heap.size<=ww.heap.size)):=λj hj ww hb=>
     ⟨λhL=>(hx14 (by simpa[CZ,Ne.symm hj] using hL)).trans (hb.mono hxS),hxB.trans (hb.mono hxB.size),λi hi=>by rw[hb.cell (p:=⟨gy,i,aS⟩) (by show gy<w'.heap.size;omega)];exact hxY i hi,AG hb.size⟩
    have RR:AO (∀ j,j≠14->((CZ L j 14=false->Below wr.heap.size wr w')/\Below w5.heap.size w5 w'/\(∀ i,i<16->w'.cell? ⟨gy,i,aS⟩=wr.cell? ⟨gy,i,aS⟩)/\wr.heap.size<=w'.heap.size)):=λj hj=>RX.o j hj w' Cf
    have RM:AO (∀ j:Nat,j≠14->Below w'.heap.size w' w'):=λ_ _=>A8 _ _
    have H14:=CY <| hx14
    have HXB:=CY <| hxB
    have HXY:=CY <| hxY
    obtain rfl|rfl|rfl|rfl|rfl|rfl|rfl|rfl|rfl|rfl|rfl|rfl|rfl|rfl|rfl:i=0\/i=1\/i=2\/i=3\/i=4\/i=5\/i=6\/i=7\/i=8\/i=9\/i=10\/i=11\/i=12\/i=13\/i=14:=AJ
    all_goals(simp at ho;subst ho)
    {clear hdep;go_simp;exact hK w' u2 rfl (RR.o 0 AK) (RM.o 0)};{clear hdep;go_simp;exact hK w' (aM (aR ⟨gy,0,aS⟩) 16 cyy) rfl (RR.o 1 AK) (RM.o 1)};{clear hdep;go_simp;exact hK w' (aO aZ k) rfl (RR.o 2 AK) (RM.o 2)};{have d1:t 1=_:=hdep ⟨1,ag⟩ AL rfl;have d2:t 2=_:=hdep ⟨2,ag⟩ AL rfl;go_simp;simpa[Ca,d1,d2] using hK w' (.pointer (aR ⟨gy,k,aS⟩)) rfl (RR.o 3 AK) (RM.o 3)};{have d3:t 3=_:=hdep ⟨3,ag⟩ AL rfl;go_simp;simpa[Ca,d3] using hK w' (aO aZ d) rfl (RR.o 4 AK) (RM.o 4)};{have d4:t 4=_:=hdep ⟨4,ag⟩ AL rfl;go_simp;simpa[Ca,d4,hm1,hm2,hm3,hm4,hm5] using hK w' (aO aZ (d%256)) rfl (RR.o 5 AK) (RM.o 5)};{have d5:t 5=_:=hdep ⟨5,ag⟩ AL rfl;go_simp;simpa[Ca,d5,hm1,hm2,hm3,hm4,hm5] using hK w' (aO aP (d%256)) rfl (RR.o 6 AK) (RM.o 6)};{clear hdep;go_simp;exact hK w' (aM (aR ⟨gy,0,aS⟩) 16 cyy) rfl (RR.o 7 AK) (RM.o 7)};{clear hdep;go_simp;exact hK w' (aO aZ k) rfl (RR.o 8 AK) (RM.o 8)};{have d7:t 7=_:=hdep ⟨7,ag⟩ AL rfl;have d8:t 8=_:=hdep ⟨8,ag⟩ AL rfl;go_simp;simpa[Ca,d7,d8] using hK w' (.pointer (aR ⟨gy,k,aS⟩)) rfl (RR.o 9 AK) (RM.o 9)};{have d9:t 9=_:=hdep ⟨9,ag⟩ AL rfl;go_simp;simpa[Ca,d9] using hK w' (aO aZ d) rfl (RR.o 10 AK) (RM.o 10)};{have d10:t 10=_:=hdep ⟨10,ag⟩ AL rfl;go_simp;simpa[Ca,d10,hm1,hm2,hm3,hm4,hm5] using hK w' (aO aZ (d/256)) rfl (RR.o 11 AK) (RM.o 11)};{have d11:t 11=_:=hdep ⟨11,ag⟩ AL rfl;go_simp;simpa[Ca,d11,hm1,hm2,hm3,hm4,hm5] using hK w' (aO aP (d/256)) rfl (RR.o 12 AK) (RM.o 12)};{have d6:t 6=_:=hdep ⟨6,ag⟩ AL rfl;have d12:t 12=_:=hdep ⟨12,ag⟩ AL rfl;have hK':=hK (w'.alloc (aa #[aO aP (d%256),aO aP (d/256)] 5)) (aM (aR ⟨w'.heap.size,0,aS⟩) 2 2) (λ_=>⟨w'.heap.size,rfl,AL,AA (AS _ _) _,AA (AS _ _) _⟩) (RX.o 13 AK _ (Ce _ _)) (λ_=>Ce _ _);go_simp;simpa[Ca,d6,d12] using hK'}
    ·have d0:=hdep ⟨0,ag⟩ AL rfl;have d13:=hdep ⟨13,ag⟩ AL rfl;obtain⟨g',e13,hg',cc0,cc1⟩:=d13 hLi;have hO:=HO.o.grow2 (H14.o hLi);refine RZ (a:=_) _ _ _ rfl w5.heap.size _ bs (by first|exact d0|(simp[d0];done)) hO ⟨g',0,aS⟩ 2 2 [d%256,d/256] (by first|exact e13|(simp[e13];done)) rfl ?_ ?_ ?_ ?_
     ·intro j hj;rcases (show j=0\/j=1 by omega) with rfl|rfl
      {rw[A0];exact cc0};{rw[A0];exact cc1}
     {have:=HBL.o;omega};{exact HXB.o.size}
     ·intro v' w9 hown' hbel' hgr;have hs9:=hgr.size;have hyY:∀ i,i<16->w9.cell? ⟨gy,i,aS⟩=wr.cell? ⟨gy,i,aS⟩:=λi hi=>by
       rw[Af (a:=⟨gy,i,aS⟩) (w:=w') (hgr.block gy AJ HGN.o)];exact HXY.o i hi
      exact hK w9 v' hown' ⟨λh=>by simp[CZ] at h,HXB.o.trans hbel',hyY,AJ⟩ (λh=>absurd rfl h)
   case hend=>
    intro o L t w' ho hx hg K hK;simp at ho;subst ho;obtain⟨hx14,hxB,hxY,hxS⟩:=hx;have O14:=hg 14 AK;have HXB:=CY <| hxB
    have HXY:=CY <| hxY
    have HSZ:=CY <| hxS
    have HO14:=CY <| O14
    go_simp;refine hK _ _ ?_;have hHB:=HXB.o;have HP:AO (Wu w w5 zs (k+1) (t 14) w'):=⟨⟨_,HO14.o,HN.o.2.1,HN.o.2.2,HN.o.1⟩,hHB⟩
    generalize t 14=v14 at *;go_wp2;go_roundw
    case rel=>exact⟨k+1,AJ,by go_num,HP.o⟩
    case measure=>simp[intOf];omega
  ·have hk16:k=16:=AJ
   rw[hk16,Ad (AG HZL.o),HZV.o] at hbv;have HP:AO (Lq w Ij (.returned u2) wr):=⟨u2,bs,rfl,hO.lower3b HB5.o.size,hbb,AJ,hbv,HB5.o.trans (hbel.mono HB5.o.size)⟩
   go_wp2
   go_ret
   exact HP.o
theorem GZ {p:Prop} (h:p):AO p:=h
theorem SU {B:Nat} {a w:aV} (h:Below B a w) (n:Nat):Below B a (w.drewN n):=h.trans ⟨rfl,rfl,rfl,Aa _,λ_ _=>rfl⟩
structure BE (w:aV) (t:TypeId) (sa sb:Array aX) (wr:aV):Prop where
 below:Below w.heap.size w wr
 b0:wr.heap[w.heap.size]?=aR (aa sa t (0,0))
 b1:wr.heap[w.heap.size+1]?=aR (aa sb t (0,0))
theorem BE.start (w:aV) (t:TypeId) (sa sb:Array aX):BE w t sa sb ((w.alloc (aa sa t)).alloc (aa sb t)):=by
 refine⟨(Cf.alloc Ch _).alloc AL _,?_,?_⟩
 ·rw[BD _ _ w.heap.size AL];exact AS w _
 ·have:=AS (w.alloc (aa sa t)) (aa sb t)
  rwa [show(w.alloc (aa sa t)).heap.size=w.heap.size+1 by simp] at this
section
variable {P:Program} {ops:Array Oper} {Q:Exit->Act->aV->Prop} {md:Region.Mode}
theorem Lr (last:Nat) (M:Nat->aV->aV->Prop) (frame:(Nat->aX)->Act) (Ext:(Nat->Bool)->(Nat->aX)->aV->Prop) (Good:Nat->(Nat->Bool)->aV->aX->Prop) (Fin:(Nat->aX)->aV->Prop)
  (hlast:ops.size=last+1)
  (hwait:((ops[last]?).map (λo=>(List.range last).all (λj=>o.after.any (λe=>Region.binds md e && decide (e.on=j))))).getD false=true)
  (hstab:∀ j L w w' i v,i<last->M i w w'->i≠j->L i=false->Good j L w v->Good j (CZ L i) w' v)
  (hback:(List.range ops.size).all (λi=>((ops[i]?).map (λo=>o.after.all (λe=>decide (e.on<i)))).getD false)=true)
  (hop:∀(i:Nat) (o:Oper) (L:Nat->Bool) (u:Nat->aX) (w:aV),i<last->ops[i]?=aR o->L i=false->Ext L u w->(∀ e∈o.after,Region.binds md e=true->L e.on=true/\Good e.on L w (u e.on))->
   ∀ K:Act->aV->Prop,(∀ w' v,Good i (CZ L i) w' v->Ext (CZ L i) (Ca u i v) w'->M i w w'->K (frame (Ca u i v)) w')->(if Region.wanted o (yielded ops (frame u).tmps)=true then Oper.wp P o (frame u) w K Q else K ((frame u).put o.dst undef) w))
  (hend:∀(o:Oper) (L:Nat->Bool) (u:Nat->aX) (w:aV),ops[last]?=aR o->Ext L u w->(∀ j,j<last->L j=true/\Good j L w (u j))->
   ∀ K:Act->aV->Prop,(∀ w' v,Fin (Ca u last v) w'->K (frame (Ca u last v)) w')->(if Region.wanted o (yielded ops (frame u).tmps)=true then Oper.wp P o (frame u) w K Q else K ((frame u).put o.dst undef) w))
  (hdone:∀ u w,Fin u w->Q .normal (frame u) w) :
  ∀(fuel:Nat) (listed:Array Bool) (u:Nat->aX) (w:aV),listed.size=ops.size->(∀ i,listed.getD i false=false)->Ext (λn=>listed.getD n false) u w->
   (listed.toList.filter (!·)).length<=fuel->wpAny P md ops Q fuel listed (frame u) w:=by
 have hb:∀(i:Nat) (o:Oper),ops[i]?=aR o->∀ e∈o.after,e.on<i:=λi o ho e he=>by
  have hi:=(AR.1 ho).1;have:=BM.1 hback i (BG.2 hi);rw[ho] at this;simp at this;obtain⟨k,hk,rfl⟩:=BQ.1 he;exact this k hk
 have hw:∀ o,ops[last]?=aR o->∀ j,j<last->∃ e∈o.after,Region.binds md e=true/\e.on=j:=λo ho j hj=>by
  rw[ho] at hwait;have h1:(List.range last).all (λj=>o.after.any (λe=>Region.binds md e && decide (e.on=j)))=true:=by simpa using hwait
  have h2:=BM.1 h1 j (BG.2 hj);obtain⟨e,he,h3⟩:=Array.any_eq_true'.1 h2;simp at h3;exact⟨e,he,h3⟩
 intro fuel listed u w hs hnone hext hc;refine Cg (λi a b=>i=last\/(i<last/\M i a b)) frame (λL u w=>(L last=false/\Ext L u w)\/(L last=true/\(∀ j,j<last->L j=true)/\Fin u w))
  (λj L w v=>if j=last then L last=true else(L last=true\/Good j L w v)) ?_ hback ?_ ?_ fuel listed u w hs (.inl ⟨hnone last,hext⟩) (λi _ hl=>by rw[hnone i] at hl;cases hl) hc
 ·intro j L w w' i v hM hij hLi h;have hu:∀ k,L k=true->CZ L i k=true:=λk hk=>by unfold CZ;split<;>simp[hk]
  by_cases hj:j=last
  ·rw[AP hj] at h |-;exact hu _ h
  ·rw[AQ hj] at h |-;rcases h with h|h
   ·exact .inl (hu _ h)
   ·rcases hM with hil|⟨hi',hM⟩
    {left;unfold CZ;rw[AP hil.symm]};{exact .inr (hstab j L w w' i v hi' hM hij hLi h)}
 ·intro i o L u w ho hLi hx hdep K hK;have hi:i<last+1:=by rw[<-hlast];exact(AR.1 ho).1
  rcases hx with⟨hl,hx⟩|⟨hl,hall,_⟩
  ·by_cases hil:i=last
   ·subst hil;refine hend o L u w ho hx (λj hj=>?_) K (λw' v hf=>hK w' v ?_ ?_ (.inl rfl))
    {obtain⟨e,he,hbd,rfl⟩:=hw o ho j hj;obtain⟨h1,h2⟩:=hdep e he hbd;rw[AQ AJ] at h2;refine⟨h1,h2.resolve_left (by rw[hl];simp)⟩};{rw[AP rfl];unfold CZ;simp};{refine .inr ⟨by unfold CZ;simp,λj hj=>?_,hf⟩;obtain⟨e,he,hbd,rfl⟩:=hw o ho j hj;have:=(hdep e he hbd).1;unfold CZ;split<;>simp[this]}
   ·have hi':i<last:=AJ
    refine hop i o L u w hi' ho hLi hx (λe he hbd=>?_) K (λw' v hg hext hm=>hK w' v ?_ ?_ (.inr ⟨hi',hm⟩))
    {obtain⟨h1,h2⟩:=hdep e he hbd;have hlt:=hb i o ho e he;rw[AQ AJ] at h2;exact⟨h1,h2.resolve_left (by rw[hl];simp)⟩};{rw[AQ hil];exact .inr hg};{refine .inl ⟨?_,hext⟩;unfold CZ;rw[AQ AJ];exact hl}
  ·exfalso
   by_cases hil:i=last
   {subst hil;rw[hl] at hLi;cases hLi};{rw[hall i AJ] at hLi;cases hLi}
 ·intro L u w hx hg;have h1:=hg last AJ;rw[AP rfl] at h1;rcases hx with⟨hl,_⟩|⟨_,_,hf⟩
  {rw[hl] at h1;cases h1};{exact hdone u w hf}
end
def Value.adr:aX->Option Addr
 |aM a _ _=>a
 |.pointer a=>a
 |_=>aS
def Value.has (v:aX) (k:Nat):Prop:=(∃ a,Value.adr v=aR a/\a.block=k)\/∃ cs,v=af cs/\∃ c,c∈cs.toList/\∃ a,Value.adr c=aR a/\a.block=k
def KF (w w':aV) (v:aX):Prop:=∀ k,Value.has v k->w.heap.size<=k/\k<w'.heap.size
def YO (x y:aX):Prop:=∀ k,Value.has x k->¬ Value.has y k
structure Wv (W:aV) (ps:List Nat) (L:Nat->Bool) (u:Nat->aX) (w:aV):Prop where
 below:Below W.heap.size W w
 blt:∀ p,p∈ps->L p=true->∀ k,Value.has (u p) k->k<w.heap.size
 ap:∀ p,p∈ps->∀ q,q∈ps->p≠q->L p=true->L q=true->YO (u p) (u q)
theorem Wv.start (W:aV) (ps:List Nat) (L:Nat->Bool) (u:Nat->aX) (h:∀ i,L i=false) {w:aV} (b:Below W.heap.size W w):Wv W ps L u w:=
 ⟨b,λp _ hp=>(by rw[h] at hp;cases hp),λp _ q _ _ hp=>(by rw[h] at hp;cases hp)⟩
theorem Wv.step {W:aV} {ps:List Nat} {L:Nat->Bool} {u:Nat->aX} {w w':aV} (h:Wv W ps L u w) (i:Nat) (v:aX) (b:Below w.heap.size w w') (hv:i∈ps->KF w w' v):Wv W ps (CZ L i) (Ca u i v) w':=by
 refine⟨h.below.trans (b.mono h.below.size),λp hp hl=>?_,λp hp q hq hne hlp hlq=>?_⟩
 ·by_cases e:p=i
  {subst e;simp only[Ca,if_true];exact λk hk=>(hv hp k hk).2};{simp only[CZ,if_neg e] at hl;simp only[Ca,if_neg e];exact λk hk=>Ap (h.blt p hp hl k hk) b.size}
 ·by_cases e:p=i
  ·subst e;have e2:¬ q=p:=λh=>hne h.symm
   simp only[CZ,if_neg e2] at hlq;simp only[Ca,if_true,if_neg e2];intro k hk hk';have h1:=(hv hp k hk).1;have h2:=h.blt q hq hlq k hk';omega
  ·by_cases e2:q=i
   {subst e2;simp only[CZ,if_neg e] at hlp;simp only[Ca,if_true,if_neg e];intro k hk hk';have h1:=(hv hq k hk').1;have h2:=h.blt p hp hlp k hk;omega};{simp only[CZ,if_neg e,if_neg e2] at hlp hlq;simp only[Ca,if_neg e,if_neg e2];exact h.ap p hp q hq hne hlp hlq}
theorem Qa (tS tE:TypeId) (z:aX) (size bytes:Nat) (hinfo:(tP.info? tE).map (λi=>(i.zero,i.size,i.bytes))=aR (aR z,size,bytes)) (hu:tP.underlying tS=aR (.slice tE))
  (w:aV) (ty:TypeId) (v:Addr) (x:Option Addr) (c:Nat):(Builtin.append_ #[tS,tS] ty #[aM (aR v) 0 0,aM x 0 c]).run tP w=.ok (aM (aR v) 0 0) w:=by
 obtain⟨i0,hi,hz0,hz1,hz2⟩:=BZ hinfo;have hf:=λad=>run_firstCells_some (P:=tP) w i0.size 0 ad 0 c [] AL (λj v hv=>by simp at hv)
 have hs:∀ p,(storeCells p []).run tP w=.ok () w:=λ_=>rfl
 cases x with
 |none=>simp[Builtin.append_,run_underlying hu,sizeOf,typeInfo,zeroValue,hi,hz0,Builtin.lenOf,run_firstCells_none,hs]
 |some ad=>simp[Builtin.append_,run_underlying hu,sizeOf,typeInfo,zeroValue,hi,hz0,Builtin.lenOf,hf,hs]
def JC (lo:Nat) (tE:TypeId) (w:aV) (v:aX):Prop:=∃ g,v=aM (aR ⟨g,0,aS⟩) 0 0/\lo<=g/\w.heap[g]?=aR (aa #[] tE (0,0))
theorem JC.below {lo:Nat} {tE:TypeId} {w w':aV} {v:aX} (h:JC lo tE w v) (b:Below w.heap.size w w'):JC lo tE w' v:=by
 obtain⟨g,e,h1,h2⟩:=h;exact⟨g,e,h1,by rw[b.block g (AR.1 h2).1];exact h2⟩
theorem JC.wr {lo R:Nat} {tE:TypeId} {w w':aV} {v:aX} (h:JC lo tE w v) (hw:Wr R w w') (hR:R<lo):JC lo tE w' v:=by
 obtain⟨g,e,h1,h2⟩:=h;exact⟨g,e,h1,by rw[hw.block g AJ];exact h2⟩
theorem JC.new {lo:Nat} (tE:TypeId) (w:aV) (h:lo<=w.heap.size):JC lo tE (w.alloc (aa #[] tE)) (aM (aR ⟨w.heap.size,0,aS⟩) 0 0):=⟨_,rfl,h,AS w _⟩
theorem JC.owns {lo:Nat} {tE:TypeId} {w:aV} {g:Nat} (size:Nat) (h1:lo<=g) (h2:w.heap[g]?=aR (aa #[] tE (0,0))):w.ownsRow lo tE size (aM (aR ⟨g,0,aS⟩) 0 0) 0 []:=
 ⟨AL,.inr ⟨g,0,#[],rfl,h1,h2,Aa _,by simp[maxLen],AL,AL⟩⟩
theorem Hp (tS tE:TypeId) (z:aX) (size bytes:Nat) (hinfo:(tP.info? tE).map (λi=>(i.zero,i.size,i.bytes))=aR (aR z,size,bytes)) (hu:tP.underlying tS=aR (.slice tE)) (hzs:z.cells.size=size) (hsz:0<size) (hby:bytes<=64)
  (w:aV) {o:Oper} {a:Act} {K:Act->aV->Prop} {Q:Exit->Act->aV->Prop} (s x:Operand) (hop:o.op=Op.call { callee:=Callee.builtin Builtin.append,args:=#[s,x],argTypes:=#[tS,tS] })
  (S:Nat) (v:aX) (hs:a.eval s=v) (hem:JC S tE w v) (xa:Option Addr) (n c:Nat) (zs:List Int) (hx:a.eval x=aM xa n c) (hl:zs.length=n*size) (hA:At aZ w xa zs) (hb:n<=1048576) (hSw:S<=w.heap.size)
  (h:∀ v' w',w'.ownsRow S tE size v' n (zs.map (Value.int aZ))->Below w.heap.size w w'->K (a.put o.dst v') w'):o.wp tP a w K Q:=by
 obtain⟨B,rfl,hB,hrow⟩:=hem;have hown:=JC.owns size hB hrow;by_cases h0:n=0
 ·subst h0;have hz:zs=[]:=BU AJ;have hk:=h (aM (aR ⟨B,0,aS⟩) 0 0) w (by rw[hz];exact hown) Cf;have hr:=Qa tS tE z size bytes hinfo hu w o.type ⟨B,0,aS⟩ xa c;unfold Oper.wp execOp;simp only[hop,resolve,invoke,builtin,Sem.run_bind,Sem.run_pure,Result.andThen_ok,List.map_toArray,List.map_cons,List.map_nil,hs,hx,hr];exact hk
 ·have hz0':0<zs.length:=by rw[hl];exact Nat.mul_pos AJ hsz
  obtain⟨b,off,rfl,hbl,hc⟩:=hA.get hz0';obtain⟨i0,hi,hz0,hz1,hz2⟩:=BZ hinfo;have hnews:∀ j u,(zs.map (Value.int aZ))[j]?=aR u->w.cell? ((⟨b,off,aS⟩:Addr).add j)=aR u:=by
   intro j u hu;have hj:j<zs.length:=by have:=(Am.1 hu).1;simpa using this
   rw[A0,hc j hj];simp[hj] at hu;simp[hj,hu]
  have hle:=Nat.mul_le_mul hb hby;have hfit:Builtin.nextslicecap (0+n) 0*i0.bytes<=281474976710656:=by rw[Ar,nextslicecap_zero AJ,hz2];omega
  have hg:=run_append_grow (P:=tP) w tS o.type tE i0 z hu hi hz0 ⟨B,0,aS⟩ 0 0 [] AL (λj v hv=>by simp at hv) ⟨b,off,aS⟩ n c (zs.map (Value.int aZ)) (by simp[hz1,hl]) hnews AJ AJ hfit;obtain⟨v',w',hr,h2,h3,h4⟩:=run_append_own (P:=tP) w S tS o.type tE i0 z size bytes hu hi hz0 hz1 hz2 hzs hsz _ 0 [] hown ⟨b,off,aS⟩ n c (zs.map (Value.int aZ)) (by simp[hl]) hnews (Az _ _) (by unfold maxLen;omega) (by rw[Ar];omega) hSw;have he:=hr.symm.trans hg;injection he with e1 e2
  have hBl:Below w.heap.size w w':=by rw[e2];exact Cf.drew.alloc Ch _
  have hk:=h v' w' (by simpa using h2) hBl;unfold Oper.wp execOp;simp only[hop,resolve,invoke,builtin,Sem.run_bind,Sem.run_pure,Result.andThen_ok,List.map_toArray,List.map_cons,List.map_nil,hs,hx,hr];exact hk
theorem Mr (tS tE:TypeId) (z:aX) (size bytes:Nat) (hinfo:(tP.info? tE).map (λi=>(i.zero,i.size,i.bytes))=aR (aR z,size,bytes)) (hu:tP.underlying tS=aR (.slice tE)) (hzs:z.cells.size=size) (hsz:0<size) (hby:bytes<=64)
  (w:aV) {ops:Array Oper} {rest:List Oper} {o:Oper} {a:Act} {Q:Exit->Act->aV->Prop} (hgd:o.guard=aS) (s x:Operand) (hop:o.op=Op.call { callee:=Callee.builtin Builtin.append,args:=#[s,x],argTypes:=#[tS,tS] })
  (S:Nat) (v:aX) (hs:a.eval s=v) (hem:JC S tE w v) (xa:Option Addr) (n c:Nat) (zs:List Int) (hx:a.eval x=aM xa n c) (hl:zs.length=n*size) (hA:At aZ w xa zs) (hb:n<=1048576) (hSw:S<=w.heap.size)
  (h:∀ v' w',w'.ownsRow S tE size v' n (zs.map (Value.int aZ))->Below w.heap.size w w'->wpList tP ops Q rest (a.put o.dst v') w'):wpList tP ops Q (o::rest) a w:=
 wpList_plain hgd λ_ hK=>Hp tS tE z size bytes hinfo hu hzs hsz hby w s x hop S v hs hem xa n c zs hx hl hA hb hSw λv' w' h1 h2=>hK _ _ (h v' w' h1 h2)
def Cj (B:Nat) (w:aV) (v:aX) (T:List Int) (n:Nat):Prop:=w.ownsRow B 70 2 v n (T.map (Value.int aZ))
theorem Ms (t tE:TypeId) (hu:tP.underlying t=aR (.slice tE)) (w:aV) (a:Option Addr) (n c:Nat):(binOp .eql t (aM a n c) (aM aS 0 0)).run tP w=.ok (.bool a.isNone) w:=by
 have h:∀ d,(Op.equalIn (d+1) t (aM a n c) (aM aS 0 0)).run tP w=.ok a.isNone w:=λd=>by
  cases a<;>simp[Op.equalIn,run_underlying hu]
 have h':(Op.equal t (aM a n c) (aM aS 0 0)).run tP w=.ok a.isNone w:=h 9999;simp only[binOp];simp[h']
theorem K5 (a:Option Addr) (n cap:Nat) (xs:List Int) (w:aV) (hn:xs.length=n*2) (hm:n<=1048576) (ha:At aZ w a xs) :
  Calls tP 45 #[aM a n cap] w λe w'=>∃ v,e=.returned v/\Cj w.heap.size w' v xs n/\Below w.heap.size w w':=by
 have E:=Ms 24 70 underlying24 w a n cap;cases a with
 |none=>
  have hx:xs=[]:=by rcases ha with h|⟨b,o,e,_⟩;exact h;cases e
  have HP:AO (Cj w.heap.size w (aM aS 0 0) xs n):=by
   subst hx;obtain rfl:n=0:=by simp at hn;omega
   exact⟨rfl,.inl ⟨rfl,rfl⟩⟩
  clear hn ha hm hx;go_enter func45,ntmps45;go_wp2
  go_ret
  exact⟨_,rfl,HP.o,A8 _ _⟩
 |some ad=>
  have bb:Below w.heap.size w (w.alloc (aa #[] 70)):=Cf.alloc Ch _;have HA:AO (At aZ (w.alloc (aa #[] 70)) (aR ad) xs/\JC w.heap.size 70 (w.alloc (aa #[] 70)) (aM (aR ⟨w.heap.size,0,aS⟩) 0 0)):=⟨ha.below bb,JC.new _ w Ch⟩
  have HB:=GZ bb;have HN:=GZ (Al hn hm);clear hn ha hm bb;go_enter func45,ntmps45;go_wp2_with (first
   |(refine wpList_plain rfl λK hK=>Hp 24 70 (af #[aO aZ 0,aO aZ 0]) 2 16 Tryz.infoTap underlying24 rfl AK AK _ (.tmp 5) (.tmp 6) rfl w.heap.size _ rfl HA.o.2 (aR ad) n cap xs rfl HN.o.1 HA.o.1 HN.o.2 AL λv' w3 ho hb=>hK _ _ ?_)
   |fail)
  have HF:AO (Cj w.heap.size w3 v' xs n/\Below w.heap.size w w3):=⟨by first|exact ho|(unfold Cj;rw[HN.o.1];exact ho),HB.o.trans (hb.mono HB.o.size)⟩
  clear ho hb HA HB HN;go_wp2
  go_ret
  exact⟨_,rfl,HF.o.1,HF.o.2⟩
theorem Qb (off:Nat) (vs:List aX) (n:Nat) (cs:Array aX):((vs.zipIdx n).foldl (λcs (x:aX×Nat)=>cs.setIfInBounds (off+x.2) x.1) cs).size=cs.size:=by
 induction vs generalizing n cs with
 |nil=>rfl
 |cons v vs ih=>rw[List.zipIdx_cons,List.foldl_cons,ih];simp
theorem SV (off:Nat) (vs:List aX) (n:Nat) (cs:Array aX) (h:off+n+vs.length<=cs.size) (i:Nat) :
  ((vs.zipIdx n).foldl (λcs (x:aX×Nat)=>cs.setIfInBounds (off+x.2) x.1) cs)[i]?=if off+n<=i/\i<off+n+vs.length then vs[i-(off+n)]? else cs[i]?:=by
 induction vs generalizing n cs with
 |nil=>rw[AQ AL];rfl
 |cons v vs ih=>
  simp only[List.length_cons] at h;rw[List.zipIdx_cons,List.foldl_cons,ih (n+1) _ (by simp;omega)];by_cases h1:off+(n+1)<=i/\i<off+(n+1)+vs.length
  ·rw[AP h1,AP (by simp only[List.length_cons];omega),show i-(off+n)=(i-(off+(n+1)))+1 by omega,List.getElem?_cons_succ]
  ·rw[AQ h1];by_cases h2:i=off+n
   {subst h2;rw[AP (by simp only[List.length_cons];omega),Nat.sub_self,List.getElem?_cons_zero,Array.getElem?_setIfInBounds_self_of_lt AJ]};{rw[AQ (by simp only[List.length_cons];omega),Bs AJ]}
def F9 (d u:List Int) (k:Int) (v:aX):Array aX:=(d.map (Value.int aP)++u.map (Value.int aP)++[aO aZ k,v]).toArray
theorem Ik {d u:List Int} (hd:d.length=32) (hu:u.length=32) (k:Int) (v:aX):(F9 d u k v).size=66:=by unfold F9;simp[hd,hu]
theorem PN (d u:List Int) (k:Int) {v:aX} (hv:v.oneCell'=true):(F9 d u k v).all (λx=>x.oneCell')=true:=by
 unfold F9;rw[List.all_toArray];simp only[List.all_append,List.all_map,List.all_cons,List.all_nil,hv];simp[Function.comp_def,Value.oneCell']
def Ki (off:Nat) (vs cs:Array aX):Array aX:=vs.zipIdx.foldl (λcs (x:aX×Nat)=>cs.setIfInBounds (off+x.2) x.1) cs
theorem SY (off:Nat) (vs cs:Array aX):Ki off vs cs=((vs.toList.zipIdx 0).foldl (λcs (x:aX×Nat)=>cs.setIfInBounds (off+x.2) x.1) cs):=by
 unfold Ki;rw[<-Array.foldl_toList];simp
theorem KG (off:Nat) (vs cs:Array aX):(Ki off vs cs).size=cs.size:=by rw[SY];exact Qb _ _ _ _
theorem Jk (off:Nat) (vs cs:Array aX) (h:off+vs.size<=cs.size) (i:Nat):(Ki off vs cs)[i]?=if off<=i/\i<off+vs.size then vs[i-off]? else cs[i]?:=by
 rw[SY,SV off vs.toList 0 cs (by simpa using h) i];simp
theorem Hq (places:Nat->Option (Nat×Nat)) (cs:Array aX) (i off size:Nat) (v:aX) (rest:List (Nat×aX)) (hp:places i=aR (off,size)) (hs:v.cells.size=size) (hc:off+size<=cs.size) :
  Instr.fill places cs ((i,v)::rest)=Instr.fill places (Ki off v.cells cs) rest:=by
 rw[Instr.fill,hp];simp only[];rw[AQ (by simp[hs];omega)];rfl
theorem YP (places:Nat->Option (Nat×Nat)) (p0:places 0=aR (0,32)) (p1:places 1=aR (32,32)) (p2:places 2=aR (64,1)) (p3:places 3=aR (65,1)) (z:Array aX) (hz:z.size=66) (d u:List Int) (hd:d.length=32) (hu:u.length=32) (k:Int) (v:aX) (hv:v.cells=#[v]) :
  Instr.fill places z [(0,af (d.map (Value.int aP)).toArray),(1,af (u.map (Value.int aP)).toArray),(2,aO aZ k),(3,v)]=aR (F9 d u k v):=by
 have sd:((d.map (Value.int aP)).toArray).size=32:=by simp[hd]
 have su:((u.map (Value.int aP)).toArray).size=32:=by simp[hu]
 have s1:(Ki 0 (d.map (Value.int aP)).toArray z).size=66:=by rw[KG];exact hz
 have s2:(Ki 32 (u.map (Value.int aP)).toArray (Ki 0 (d.map (Value.int aP)).toArray z)).size=66:=by rw[KG];exact s1
 have s3:(Ki 64 #[aO aZ k] (Ki 32 (u.map (Value.int aP)).toArray (Ki 0 (d.map (Value.int aP)).toArray z))).size=66:=by rw[KG];exact s2
 have key:Ki 65 #[v] (Ki 64 #[aO aZ k] (Ki 32 (u.map (Value.int aP)).toArray (Ki 0 (d.map (Value.int aP)).toArray z)))=F9 d u k v:=by
  apply Array.ext_getElem?;intro i;rw[Jk _ _ _ (by rw[s3];simp),Jk _ _ _ (by rw[s2];simp),Jk _ _ _ (by rw[s1,su];omega),Jk _ _ _ (by rw[hz,sd];omega),sd,su];have e:(F9 d u k v)[i]?=(d.map (Value.int aP)++u.map (Value.int aP)++[aO aZ k,v])[i]?:=by unfold F9;simp
  rw[e];simp only[List.size_toArray,List.length_cons,List.length_nil];by_cases h0:i<32
  ·rw[AQ AJ,AQ AJ,AQ AJ,AP AJ];rw[BJ (by simp[hd,hu];omega),BJ (by simp[hd];omega)];simp
  ·by_cases h1:i<64
   ·rw[AQ AJ,AQ AJ,AP AJ];rw[BJ (by simp[hd,hu];omega),BA (by simp[hd];omega)];simp[hd]
   ·by_cases h2:i=64
    ·subst h2;rw[AQ AJ,AP AJ,BA (by simp[hd,hu])];simp[hd,hu]
    ·by_cases h3:i=65
     {subst h3;rw[AP AJ,BA (by simp[hd,hu])];simp[hd,hu]};{rw[AQ AJ,AQ AJ,AQ AJ,AQ AJ,Array.getElem?_eq_none AJ,BP (by simp[hd,hu];omega)]}
 rw[Hq places z 0 0 32 (af (d.map (Value.int aP)).toArray) _ p0 sd AJ];rw[Hq places _ 1 32 32 (af (u.map (Value.int aP)).toArray) _ p1 su (by show _<=(Ki 0 (d.map (Value.int aP)).toArray z).size;omega)];rw[Hq places _ 2 64 1 (aO aZ k) _ p2 rfl (by show _<=(Ki 32 (u.map (Value.int aP)).toArray (Ki 0 (d.map (Value.int aP)).toArray z)).size;omega)];rw[Hq places _ 3 65 1 v _ p3 (by rw[hv];rfl) (by show _<=(Ki 64 #[aO aZ k] (Ki 32 (u.map (Value.int aP)).toArray (Ki 0 (d.map (Value.int aP)).toArray z))).size;omega)];rw[hv,Instr.fill];exact congrArg aR key
def ZU:Array aX:=#[aO aP 0,aO aP 0,aO aP 0,aO aP 0,aO aP 0,aO aP 0,aO aP 0,aO aP 0,aO aP 0,aO aP 0,aO aP 0,aO aP 0,aO aP 0,aO aP 0,aO aP 0,aO aP 0,aO aP 0,aO aP 0,aO aP 0,aO aP 0,aO aP 0,aO aP 0,aO aP 0,aO aP 0,aO aP 0,aO aP 0,aO aP 0,aO aP 0,aO aP 0,aO aP 0,aO aP 0,aO aP 0,aO aP 0,aO aP 0,aO aP 0,aO aP 0,aO aP 0,aO aP 0,aO aP 0,aO aP 0,aO aP 0,aO aP 0,aO aP 0,aO aP 0,aO aP 0,aO aP 0,aO aP 0,aO aP 0,aO aP 0,aO aP 0,aO aP 0,aO aP 0,aO aP 0,aO aP 0,aO aP 0,aO aP 0,aO aP 0,aO aP 0,aO aP 0,aO aP 0,aO aP 0,aO aP 0,aO aP 0,aO aP 0,aO aZ 0,aM aS 0 0]
theorem Tryz.infoBook:(tP.info? 61).map (λi=>i.zero)=aR (aR (af ZU)):=AM
theorem Tryz.sizeBook:(tP.info? 61).map (·.size)=aR 66:=AM
theorem Tryz.placesBook:((tP.underlying 61).bind λd=>match d with|.struct fs=>fs.toList.mapM (λf=>(tP.info? f.type).map λi=>(f.offset,i.size))|_=>aS)=aR [(0,32),(32,32),(64,1),(65,1)]:=AM
theorem Ww (d u:List Int) (hd:d.length=32) (hu:u.length=32) (k:Int) (v:aX) (hv:v.cells=#[v]) :
  tP.built 61 [(0,af (d.map (Value.int aP)).toArray),(1,af (u.map (Value.int aP)).toArray),(2,aO aZ k),(3,v)]=aR (F9 d u k v):=by
 have hb:∃ places z,(places 0=aR (0,32)/\places 1=aR (32,32)/\places 2=aR (64,1)/\places 3=aR (65,1))/\z.size=66/\∀ parts,tP.built 61 parts=Instr.fill places z parts:=by
  have h1:=Tryz.infoBook;have h2:=Tryz.placesBook;obtain⟨F,hF⟩:∃ F,tP.underlying 61=aR (.struct F):=⟨_,underlying61⟩
  rw[hF] at h2;have h2':F.toList.mapM (λf=>(tP.info? f.type).map λi=>(f.offset,i.size))=aR [(0,32),(32,32),(64,1),(65,1)]:=h2;cases hi:tP.info? 61 with
  |none=>rw[hi] at h1;cases h1
  |some it=>
   rw[hi] at h1;have hz:it.zero=aR (af ZU):=by simpa using h1
   refine⟨λi=>[(0,32),(32,32),(64,1),(65,1)].toArray[i]?,ZU,⟨rfl,rfl,rfl,rfl⟩,rfl,λparts=>?_⟩;simp only[Program.built,hi,hF,hz,h2'];rfl
 obtain⟨places,z,⟨p0,p1,p2,p3⟩,hz,h⟩:=hb;rw[h];exact YP places p0 p1 p2 p3 z hz d u hd hu k v hv
end Go.Proofs.YtncomnkdlpoelaaGreatDoor
