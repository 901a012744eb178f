import Derived.Test.YtjdhhgaelgemcaaGreatDoorMReg
import Derived.Test.YtjdhhgaelgemcaaGreatDoorMOwnB
open Go.Proofs.Tryz
open Go.Value renaming int->Z8
open Option renaming some->aE
open Go renaming World->aC,Value->aB
set_option maxHeartbeats 400000
namespace Go.Proofs.YtjdhhgaelgemcaaGreatDoor
open Go.ChangeShapes Go.WideShapes Go.ChangeAt Go.RowKit
set_option linter.unusedVariables false
theorem dN (w:aC) (q p:Nat):(w.drewN q).drewN p=w.drewN (q+p):=by simp[World.drewN,Nat.add_assoc]
theorem EG {B:Nat} {a w:aC} (h:Below B a w) (n:Nat):Below B a (w.drewN n):=⟨h.os,h.tape,h.output,h.size,h.block⟩
theorem Tryz.infoTap:(Tryz.prog.info? 77).map (λi=>(i.zero,i.size,i.bytes))=aE (aE (.agg #[Z8 .i64 0,Z8 .i64 0]),2,16):=AM
def Zd (left:Int) (n:Nat):Int:=if left<n then -1 else left-n
theorem Tv (a:Option Addr) (n cap:Nat) (left:Int) (w:aC) (h0:0<=left) (h1:left<=1048576) (hn:n<=9223372036854775807) :
  Calls Tryz.prog 22 #[.slice a n cap,Z8 .i64 left] w λe w'=>e=.returned (Z8 .i64 (Zd left n))/\w'=w:=by
 have HZ:AO (Zd left n=if left<n then -1 else left-n):=rfl;by_cases h:left<n
 ·have t:left-(n:Int)<0:=AJ
  go_enter func22,ntmps22;go_wp2
  go_ret
  exact⟨DS (by rw[HZ.o,AP h]),rfl⟩
 ·have t:¬ (left-(n:Int)<0):=AJ
  go_enter func22,ntmps22;go_wp2
  go_ret
  exact⟨DS (by rw[HZ.o,AQ AJ]),rfl⟩
theorem Q0 {w:aC} {B g n:Nat} {zs:List Int} {e:TypeId} (h:w.ownsRow B e 1 (.slice (aE ⟨g,0,none⟩) n n) n (zs.map (Value.int .u8))):w.heap[g]?=aE (.cells (zs.map (Value.int .u8)).toArray e (0,0)):=by
 obtain⟨h1,⟨h2,_⟩|⟨g',cap,cur,hv,hb,hh,hc,hm,hs,ht⟩⟩:=h
 ·cases h2
 ·cases hv;rw[Ad (by simp;omega)] at ht;rw[hh,<-ht]
theorem Q1 (w:aC) {o:Oper} {a:Act} {K:Act->aC->Prop} {Q:Exit->Act->aC->Prop}
  (s x:Operand) (hop:o.op=Op.call { callee:=Callee.builtin Builtin.append,args:=#[s,x],argTypes:=#[26,26] })
  (B:Nat) (v:aB) (xs:List Int) (hs:a.eval s=v) (hown:DM w B v xs) (ad:Addr) (m c:Nat) (news:List Int) (hx:a.eval x=.slice (aE ad) m c) (hl:news.length=m)
  (hnews:∀ j,j<m->w.cell? (ad.add j)=aE (Z8 .u8 (news.getD j 0))) (hb:xs.length+m<=1099511627776) (hB:B<=w.heap.size)
  (hK:∀ v' w',DM w' B v' (xs++news)->Below B w w'->w.grownBy w' v.ownBlock->K (a.put o.dst v') w') :
  o.wp Tryz.prog a w K Q:=by
 obtain⟨i0,hi,hz0,hz1,hz2⟩:=Bh Tryz.infoU8';have hbase:=hown.base;refine wp_append_own w s x 26 hop B 5 i0 (Z8 .u8 0) 1 1 underlying26 hi hz0 hz1 hz2 rfl AK v xs.length _ hs hown.1 ad m c (news.map (Value.int .u8)) hx (by simp[hl]) ?_ (Aw _ _) (by unfold maxLen;omega) AJ hB ?_
 ·intro j u hu;have hj:j<news.length:=by have:=(Ao.1 hu).1;simpa using this
  rw[hnews j AJ];simp[hj] at hu;simp[hj,hu]
 ·intro v' w' h1 h2 h3;obtain⟨g,c0,hv,hBg,_,_⟩:=hbase;have hbel:Below B w w':=Cg.grown h2 hB (λk hk=>by rw[hv] at hk;simp[Value.ownBlock] at hk;omega);refine hK v' w' ⟨?_,?_⟩ hbel h2
  ·rw[BS,Ak,hl];exact h1
  ·rcases h1.2 with⟨h',_⟩|⟨g',c',cur,h',_⟩
   ·exact absurd (h3.1 h').1 (by rw[hv];simp)
   ·exact⟨g',c',by rw[h',Ak,hl]⟩
theorem Ck (w:aC) (o:Obj):Below w.heap.size w (w.alloc o):=Cg.alloc Cl _
theorem DM.grow2 {w w':aC} {B:Nat} {v:aB} {zs:List Int} (h:DM w B v zs) (hb:Below w.heap.size w w'):DM w' B v zs:=by
 refine⟨⟨h.1.1,?_⟩,h.2⟩;rcases h.1.2 with h'|⟨g,c,cur,h1,h2,h3,h4⟩
 ·exact .inl h'
 ·exact .inr ⟨g,c,cur,h1,h2,by rw[hb.block g (AR.1 h3).1];exact h3,h4⟩
def Xb (B:Nat) (u2:aB) (gy cyy k:Nat) (d:Int) (bs:List Int):Nat->(Nat->Bool)->aC->aB->Prop
 |0,_,_,v=>v=u2
 |1,_,_,v=>v=.slice (aE ⟨gy,0,none⟩) 16 cyy
 |2,_,_,v=>v=Z8 .i64 k
 |3,_,_,v=>v=.pointer (aE ⟨gy,k,none⟩)
 |4,_,_,v=>v=Z8 .i64 d
 |5,_,_,v=>v=Z8 .i64 (d%256)
 |6,_,_,v=>v=Z8 .u8 (d%256)
 |7,_,_,v=>v=.slice (aE ⟨gy,0,none⟩) 16 cyy
 |8,_,_,v=>v=Z8 .i64 k
 |9,_,_,v=>v=.pointer (aE ⟨gy,k,none⟩)
 |10,_,_,v=>v=Z8 .i64 d
 |11,_,_,v=>v=Z8 .i64 (d/256)
 |12,_,_,v=>v=Z8 .u8 (d/256)
 |13,L,w,v=>L 14=false->∃ g',v=.slice (aE ⟨g',0,none⟩) 2 2/\g'<w.heap.size/\w.cell? ⟨g',0,none⟩=aE (Z8 .u8 (d%256))/\w.cell? ⟨g',1,none⟩=aE (Z8 .u8 (d/256))
 |14,_,w,v=>DM w B v (bs++[d%256,d/256])
 |_,_,_,_=>True
theorem Lq (B:Nat) (u2:aB) (gy cyy k:Nat) (d:Int) (bs:List Int) (j:Nat) (L:Nat->Bool) (w w':aC) (i:Nat) (v:aB) (hm:i≠14->Below w.heap.size w w') (hij:i≠j) (hL:L i=false) (h:Xb B u2 gy cyy k d bs j L w v):Xb B u2 gy cyy k d bs j (Cf L i) w' v:=by
 unfold Xb at *;split at h<;>try exact h
 ·intro h14;have hi:i≠14:=λe=>by subst e;simp[Cf] at h14
  have hL14:L 14=false:=by simpa[Cf,Ne.symm hi] using h14
  obtain⟨g',e,hg,c0,c1⟩:=h hL14;have hb:=hm hi;exact⟨g',e,AG hb.size,by rw[hb.cell (p:=⟨g',0,none⟩) hg];exact c0,by rw[hb.cell (p:=⟨g',1,none⟩) hg];exact c1⟩
 ·exact h.grow2 (hm (λe=>hij e))
section
variable {P:Program} {ops:Array Oper} {Q:Exit->Act->aC->Prop} {md:Region.Mode}
theorem Ec (M:Nat->aC->aC->Prop) (frame:(Nat->aB)->Act) (Ext:(Nat->Bool)->(Nat->aB)->aC->Prop) (Good:Nat->(Nat->Bool)->aC->aB->Prop)
  (hstab:∀ j L w w' i v,M i w w'->i≠j->L i=false->Good j L w v->Good j (Cf L i) w' v)
  (hback:(List.range ops.size).all (λi=>((ops[i]?).map (λo=>o.after.all (λe=>decide (e.on<i)))).getD false)=true)
  (hop:∀(i:Nat) (o:Oper) (L:Nat->Bool) (u:Nat->aB) (w:aC),ops[i]?=aE o->L i=false->Ext L u w->(∀ e∈o.after,Region.binds md e=true->Good e.on L w (u e.on))->
   ∀ K:Act->aC->Prop,(∀ w' v,Good i (Cf L i) w' v->Ext (Cf L i) (Ce u i v) w'->M i w w'->K (frame (Ce u i v)) w')->(if Region.wanted o (yielded ops (frame u).tmps)=true then Oper.wp P o (frame u) w K Q else K ((frame u).put o.dst undef) w))
  (hdone:∀ L u w,Ext L u w->(∀ i,i<ops.size->Good i L w (u i))->Q .normal (frame u) w) :
  ∀(fuel:Nat) (listed:Array Bool) (u:Nat->aB) (w:aC),listed.size=ops.size->Ext (λn=>listed.getD n false) u w->(∀ i,i<ops.size->listed.getD i false=true->Good i (λn=>listed.getD n false) w (u i))->
   (listed.toList.filter (!·)).length<=fuel->wpAny P md ops Q fuel listed (frame u) w:=by
 have hb:∀(i:Nat) (o:Oper),ops[i]?=aE o->∀ e∈o.after,e.on<i:=λi o ho e he=>by
  have hi:i<ops.size:=(AR.1 ho).1;have:=BI.1 hback i (BF.2 hi);rw[ho] at this;simp at this;obtain⟨k,hk,rfl⟩:=BZ.1 he;exact this k hk
 have hfin:∀(listed:Array Bool) (u:Nat->aB) (w:aC),listed.size=ops.size->Ext (λn=>listed.getD n false) u w->(∀ i,i<ops.size->listed.getD i false=true->Good i (λn=>listed.getD n false) w (u i))->Region.ready md ops listed=[]->Q .normal (frame u) w:=by
  intro listed u w hs he hgd hr;refine hdone _ u w he λi hi=>hgd i hi ?_
  have hall:∀ n i,i<n->i<ops.size->listed.getD i false=true:=by
   intro n
   induction n with
   |zero=>intro i h;omega
   |succ n ih=>
    intro i hin hi;by_cases hlt:i<n
    ·exact ih i hlt hi
    ·cases hl:listed.getD i false with
     |true=>rfl
     |false=>
      exfalso
      have hl':listed.getD i true=false:=by
       have hil:i<listed.size:=AJ
       simp[hil] at hl |-;exact hl
      have:i∈Region.ready md ops listed:=Cz.2 ⟨hi,hl',ops[i],by simp[hi],λe hee _=>ih e.on (by have:=hb i ops[i] (by simp[hi]) e hee;omega) (by have:=hb i ops[i] (by simp[hi]) e hee;omega)⟩;rw[hr] at this;cases this
  exact hall (i+1) i AJ hi
 intro fuel
 induction fuel with
 |zero=>
  intro listed u w hs he hgd hc;have hr:Region.ready md ops listed=[]:=by
   apply BN.2;intro i hi;obtain⟨h1,h2,_⟩:=Cz.1 hi;have hil:i<listed.size:=AJ
   have h3:listed[i]=false:=by simpa[hil] using h2
   have:listed[i]∈listed.toList.filter (!·):=by
    rw[Be];exact⟨AL,by rw[h3];rfl⟩
   have:=Bm this;omega
  exact⟨hr,hfin listed u w hs he hgd hr⟩
 |succ fuel ih=>
  intro listed u w hs he hgd hc;refine⟨λhr=>hfin listed u w hs he hgd hr,λi hi=>?_⟩;obtain⟨h1,h2,o,ho,h3⟩:=Cz.1 hi;refine wpOp_step ho λK hK=>?_
  have hil:i<listed.size:=AJ
  have hnl:listed.getD i false=false:=by simp[hil] at h2 |-;exact h2
  have hupd:(λn=>(listed.setIfInBounds i true).getD n false)=Cf (λn=>listed.getD n false) i:=by
   funext n;rw[DV listed i n hil];rfl
  refine hop i o (λn=>listed.getD n false) u w ho hnl he (λe hee hbd=>hgd e.on (AG (hb i o ho e hee)) (h3 e hee hbd)) K λw' v hgv hext hm=>hK _ _ ?_
  refine ih _ _ w' (by simpa using hs) (by rw[hupd];exact hext) (λj hj hlj=>?_) ?_
  ·rw[DV listed i j hil] at hlj;unfold Ce;by_cases hji:j=i
   ·subst hji;rw[hupd];simpa using hgv
   ·rw[AQ hji] at hlj;rw[AQ hji,hupd];exact hstab j _ w w' i _ hm (BA hji) hnl (hgd j hj hlj)
  ·have:listed.toList[i]?=aE false:=by simp[hil] at h2;simp[hil,h2]
   have:=Eo listed.toList i this;rw[Bc];omega
end
end Go.Proofs.YtjdhhgaelgemcaaGreatDoor
