import Derived.Test.YthmeoilbmfdhfaaGreatMSvP
import Derived.Test.YthmeoilbmfdhfaaGreatMStp
import Derived.Test.YthmeoilbmfdhfaaGreatMDevRd
namespace Go.Proofs.YthmeoilbmfdhfaaGreat
open Go.ChangeShapes Go.WideShapes Go.ChangeAt Go.RowKit
set_option linter.unusedVariables false
section
variable {P:Program} {ops:Array Oper} {Q:Exit→Act→World→Prop} {md:Region.Mode}
end
section
variable {P:Program} {ops:Array Oper} {Q:Exit→Act→World→Prop} {md:Region.Mode}
def waits (md:Region.Mode) (ops:Array Oper) (i j:Nat):Bool:=((ops[i]?).map (fun o=>o.after.any (fun e=>Region.binds md e && decide (e.on=j)))).getD false
theorem waits_ex {i j:Nat} (h:waits md ops i j=true):∃ o,ops[i]?=some o∧∃ e∈o.after,Region.binds md e=true∧e.on=j:=by
 unfold waits at h
 cases ho:ops[i]? with
 |none=>rw[ho] at h;simp at h
 |some o=>
  rw[ho] at h;have h2:o.after.any (fun e=>Region.binds md e && decide (e.on=j))=true:=by simpa using h
  obtain⟨e,he,h3⟩:=Array.any_eq_true'.1 h2;simp at h3;exact⟨o,rfl,e,he,h3⟩
theorem wpAny_slotsJ (last:Nat) (M:Nat→World→World→Prop) (frame:(Nat→Value)→Act) (Ext:(Nat→Bool)→World→Prop) (Good:Nat→(Nat→Bool)→World→Value→Prop)
  (hlast:ops.size=last+1)
  (hwait:(List.range last).all (fun j=>waits md ops last j || (List.range last).any (fun k=>waits md ops last k && waits md ops k j))=true)
  (hstab:∀ j L w w' i v,M i w w'→i≠j→L i=false→Good j L w v→Good j (updK L i) w' v)
  (hguard:ops.all (fun o=>o.guard.isNone)=true)
  (hback:(List.range ops.size).all (fun i=>((ops[i]?).map (fun o=>o.after.all (fun e=>decide (e.on<i)))).getD false)=true)
  (hop:∀(i:Nat) (o:Oper) (L:Nat→Bool) (u:Nat→Value) (w:World),i<last→ops[i]?=some o→L i=false→Ext L w→(∀ e∈o.after,Region.binds md e=true→Good e.on L w (u e.on))→
   ∀ K:Act→World→Prop,(∀ w' v,Good i (updK L i) w' v→Ext (updK L i) w'→M i w w'→K (frame (upd u i v)) w')→Oper.wp P o (frame u) w K Q)
  (hend:∀(o:Oper) (L:Nat→Bool) (u:Nat→Value) (w:World),ops[last]?=some o→Ext L w→(∀ i,i<last→Good i L w (u i))→
   ∀ K:Act→World→Prop,(∀ a w',Q .normal a w'→K a w')→Oper.wp P o (frame u) w K Q) :
  ∀(fuel:Nat) (listed:Array Bool) (u:Nat→Value) (w:World),listed.size=ops.size→listed.getD last false=false→Ext (fun n=>listed.getD n false) w→(∀ i,i<last→listed.getD i false=true→Good i (fun n=>listed.getD n false) w (u i))→
   (∀(i:Nat) (o:Oper),ops[i]?=some o→listed.getD i false=true→∀ e∈o.after,Region.binds md e=true→listed.getD e.on false=true)→(listed.toList.filter (!·)).length≤fuel→wpAny P md ops Q fuel listed (frame u) w:=by
 have hb:∀(i:Nat) (o:Oper),ops[i]?=some o→∀ e∈o.after,e.on<i:=fun i o ho e he=>by
  have hi:i<ops.size:=(Array.getElem?_eq_some_iff.1 ho).1;have:=List.all_eq_true.1 hback i (List.mem_range.2 hi);rw[ho] at this;simp at this;obtain⟨k,hk,rfl⟩:=Array.mem_iff_getElem.1 he;exact this k hk
 have hg:∀(i:Nat) (o:Oper),ops[i]?=some o→o.guard=none:=fun i o ho=>by
  have:=Array.all_eq_true_iff_forall_mem.1 hguard o (Array.mem_of_getElem? ho);simpa using this
 have hno:∀(listed:Array Bool),listed.size=ops.size→listed.getD last false=false→Region.ready md ops listed≠[]:=by
  intro listed hs hl0 hr;have hall:∀ n i,i<n→i<ops.size→listed.getD i false=true:=by
   intro n
   induction n with
   |zero=>intro i h;omega
   |succ n ih=>
    intro i hin hi;by_cases hlt:i<n
    ·exact ih i hlt hi
    ·cases hl:listed.getD i false with
     |true=>rfl
     |false=>
      exfalso
      have hl':listed.getD i true=false:=by
       have hil:i<listed.size:=by omega
       simp[hil] at hl ⊢;exact hl
      have:i∈Region.ready md ops listed:=mem_ready.2 ⟨hi,hl',ops[i],by simp[hi],fun e hee _=>ih e.on (by have:=hb i ops[i] (by simp[hi]) e hee;omega) (by have:=hb i ops[i] (by simp[hi]) e hee;omega)⟩;rw[hr] at this;cases this
  have:=hall (last+1) last (by omega) (by omega);rw[hl0] at this;cases this
 intro fuel
 induction fuel with
 |zero=>
  intro listed u w hs hl0 he hgd hcl hc
  exfalso
  have hil:last<listed.size:=by omega
  have h3:listed[last]=false:=by simpa[hil] using hl0
  have:listed[last]∈listed.toList.filter (!·):=by
   rw[List.mem_filter];exact⟨by simp,by rw[h3];rfl⟩
  have:=List.length_pos_of_mem this;omega
 |succ fuel ih=>
  intro listed u w hs hl0 he hgd hcl hc;refine⟨fun hr=>absurd hr (hno listed hs hl0),fun i hi=>?_⟩;obtain⟨h1,h2,o,ho,h3⟩:=mem_ready.1 hi;refine wpOp_step ho fun K hK=>?_
  have hwn:Region.wanted o (yielded ops (frame u).tmps)=true:=by simp[Region.wanted,hg i o ho]
  rw[if_pos hwn];have hil:i<listed.size:=by omega
  by_cases hi':i<last
  ·have hnl:listed.getD i false=false:=by simp[hil] at h2 ⊢;exact h2
   have hupd:(fun n=>(listed.setIfInBounds i true).getD n false)=updK (fun n=>listed.getD n false) i:=by
    funext n;rw[getD_set listed i n hil];rfl
   refine hop i o (fun n=>listed.getD n false) u w hi' ho hnl he (fun e hee hbd=>hgd e.on (by have:=hb i o ho e hee;omega) (h3 e hee hbd)) K fun w' v hgv hext hm=>hK _ _ ?_
   refine ih _ _ w' (by simpa using hs) ?_ (by rw[hupd];exact hext) (fun j hj hlj=>?_) (fun j oj hoj hlj e hee hbd=>?_) ?_
   ·rw[getD_set listed i last hil,if_neg (by omega)];exact hl0
   ·rw[getD_set listed i j hil] at hlj;unfold upd;by_cases hji:j=i
    ·subst hji;rw[hupd];simpa using hgv
    ·rw[if_neg hji] at hlj;rw[if_neg hji,hupd];exact hstab j _ w w' i _ hm (Ne.symm hji) hnl (hgd j hj hlj)
   ·rw[getD_set listed i e.on hil];rw[getD_set listed i j hil] at hlj;split
    ·rfl
    ·by_cases hji:j=i
     ·subst hji;have:oj=o:=by rw[ho] at hoj;exact(Option.some.inj hoj).symm
      subst this;exact h3 e hee hbd
     ·rw[if_neg hji] at hlj;exact hcl j oj hoj hlj e hee hbd
   ·have:listed.toList[i]?=some false:=by simp[hil] at h2;simp[hil,h2]
    have:=count_set listed.toList i this;rw[Array.toList_setIfInBounds];omega
  ·have hie:i=last:=by omega
   subst hie;have hdir:∀ k,waits md ops i k=true→listed.getD k false=true:=fun k hk=>by
    obtain⟨o',ho',e,hee,hbd,rfl⟩:=waits_ex hk;have:o'=o:=by rw[ho] at ho';exact(Option.some.inj ho').symm
    subst this;exact h3 e hee hbd
   have hlst:∀ j,j<i→listed.getD j false=true:=fun j hj=>by
    have h5:=List.all_eq_true.1 hwait j (List.mem_range.2 hj);rw[Bool.or_eq_true] at h5;rcases h5 with h5|h5
    ·exact hdir j h5
    ·obtain⟨k,_,h6⟩:=List.any_eq_true.1 h5;rw[Bool.and_eq_true] at h6;obtain⟨ok,hok,e,hee,hbd,rfl⟩:=waits_ex h6.2;exact hcl k ok hok (hdir k h6.1) e hee hbd
   refine hend o (fun n=>listed.getD n false) u w ho he (fun j hj=>hgd j hj (hlst j hj)) K fun a w' hq=>hK _ _ (wpAny_end ?_ hq)
   apply List.eq_nil_iff_forall_not_mem.2;intro j hj;obtain⟨g1,g2,_⟩:=mem_ready.1 hj;have hjl:j<listed.size:=by omega
   have g3:(listed.setIfInBounds i true).getD j false=false:=by
    have:j<(listed.setIfInBounds i true).size:=by simpa using hjl
    rw[Array.getD_eq_getD_getElem?,Array.getElem?_eq_getElem this] at g2 ⊢;exact g2
   rw[getD_set listed i j hil] at g3;by_cases hji:j=i
   ·rw[if_pos hji] at g3;cases g3
   ·rw[if_neg hji,hlst j (by omega)] at g3;cases g3
end
structure WR (D:Nat) (r:Option Nat) (w w':World):Prop where
 os:w'.os=w.os
 tape:w'.tape=w.tape
 output:w'.output=w.output
 size:w.heap.size≤w'.heap.size
 block:∀ k,k<w.heap.size→k≠D→some k≠r→w'.heap[k]?=w.heap[k]?
theorem WR.trans {D:Nat} {r:Option Nat} {a b c:World} (h:WR D r a b) (k:WR D r b c):WR D r a c:=
 ⟨k.os.trans h.os,k.tape.trans h.tape,k.output.trans h.output,Nat.le_trans h.size k.size,fun i hi h1 h2=>(k.block i (by have:=h.size;omega) h1 h2).trans (h.block i hi h1 h2)⟩
theorem WR.of_wr {D:Nat} {r:Option Nat} {a b:World} (h:Wr D a b):WR D r a b:=⟨h.os,h.tape,h.output,by rw[h.size];exact Nat.le_refl _,fun k _ h1 _=>h.block k h1⟩
theorem WR.of_below {D:Nat} {r:Option Nat} {a b:World} (h:Below a.heap.size a b):WR D r a b:=⟨h.os,h.tape,h.output,h.size,fun k hk _ _=>h.block k hk⟩
theorem WR.of_grown {D:Nat} {r:Option Nat} {a b:World} (h:a.grownBy b r):WR D r a b:=⟨h.os,h.tape,h.output,h.size,fun k hk _ hr=>h.block k hk hr⟩
theorem POwn.keepD {w w':World} {B:Nat} {v:Value} {qs:List Q1} (h:POwn w B v qs) (hk:∀(k:Nat) (cur:Array Value) (t:TypeId),w.heap[k]?=some (Obj.cells cur t (0,0))→t≠40→w'.heap[k]?=w.heap[k]?):POwn w' B v qs:=by
 refine⟨ownsRow_keep h.row (fun k e=>?_),fun i q hi=>(h.each i q hi).keep (fun k e=>?_),h.ord⟩
 ·obtain⟨_,_,cur,h2⟩:=ownsRow_lt h.row k e;exact hk k cur _ h2 (by decide)
 ·obtain⟨_,_,cur,t,h2,_,h3⟩:=(h.each i q hi).lt k e;exact hk k cur t h2 h3
def GV (D S E bx:Nat) (cv:Value) (qs:List Q1) (s:Int) (z:List Int):Nat→(Nat→Bool)→World→Value→Prop
 |0,_,_,v=>v=.pointer (some ⟨D,0,none⟩)
 |1,_,_,v=>v=.pointer (some ⟨D,0,none⟩)
 |2,_,_,v=>v=.pointer (some ⟨D,0,none⟩)
 |3,_,_,v=>v=.pointer (some ⟨D,1,none⟩)
 |4,_,_,v=>v=cv
 |5,_,_,v=>v=.int .i64 s
 |6,_,_,v=>v=.slice (some ⟨bx,0,none⟩) 64 64
 |7,_,_,v=>v=.agg #[.int .i64 s,.slice (some ⟨bx,0,none⟩) 64 64]
 |8,_,w,v=>∃ K,v=.slice (some ⟨K,0,none⟩) 1 1∧S≤K∧w.heap[K]?=some (.cells #[.int .i64 s,.slice (some ⟨bx,0,none⟩) 64 64] 106 (0,0))
 |9,_,w,v=>∃ q:Q1,q.s=s∧q.z=z∧POwn w E v (qs++[q])
 |10,_,_,v=>v=.pointer (some ⟨D,0,none⟩)
 |_,_,_,v=>v=.pointer (some ⟨D,1,none⟩)
theorem GV_stab (D S E bx:Nat) (cv:Value) (qs:List Q1) (s:Int) (z:List Int) (hr:∀ k,cv.ownBlock=some k→k<S) (j:Nat) (L:Nat→Bool) (w w':World) (i:Nat) (v:Value)
  (hM:(i≠9→Below w.heap.size w w')∧w.grownBy w' cv.ownBlock) (hij:i≠j) (hL:L i=false) (h:GV D S E bx cv qs s z j L w v):GV D S E bx cv qs s z j (updK L i) w' v:=by
 have hg:=hM.2
 unfold GV at *
 split at h
 all_goals first
  |exact h
  |(obtain⟨K,e,h1,h2⟩:=h;exact⟨K,e,h1,by rw[hg.block _ (Array.getElem?_eq_some_iff.1 h2).1 (fun er=>by have:=hr K er.symm;omega)];exact h2⟩)
  |(obtain⟨q,e1,e2,h⟩:=h;exact⟨q,e1,e2,h.below (hM.1 hij)⟩)
def WrPost (w w':World) (D E:Nat) (dv cv:Value) (qs:List Q1) (f s:Int) (z:List Int):Prop:=
 ∃ cv' q,q.s=s∧q.z=z∧w'.heap[D]?=some (.cells #[dv,cv',.int .i64 (stF f),.bool false] 40 (0,0))∧POwn w' E cv' (qs++[q])∧WR D cv.ownBlock w w'
set_option maxHeartbeats 1000000 in
set_option maxRecDepth 100000 in
theorem write_yes (D E:Nat) (dv cv:Value) (qs:List Q1) (f s:Int) (z:List Int) (w:World) (h:w.heap[D]?=some (.cells #[dv,cv,.int .i64 f,.bool false] 40 (0,0))) (hP:POwn w E cv qs) (hE:E≤w.heap.size) (hz:z.length=64) (hf:f=-1∨0<f) (hf2:f≤9223372036854775807) (hql:qs.length≤1048576) :
  Calls Tryz.prog 107 #[.pointer (some ⟨D,0,none⟩),.int .i64 s,secV z] w fun e w'=>e=.returned (.tuple #[])∧WrPost w w' D E dv cv qs f s z:=by
 unfold secV
 have hb:=(Below.refl w.heap.size w).alloc (Nat.le_refl _) (.cells (z.map (Value.int .u8)).toArray 122)
 have hD:=(Array.getElem?_eq_some_iff.1 h).1
 have HB:Hid _:=burn_yes D dv cv f false (w.alloc (.cells (z.map (Value.int .u8)).toArray 122)) (by rw[hb.block _ hD];exact h) hf hf2
 have hrow:Row (w.alloc (.cells (z.map (Value.int .u8)).toArray 122)) w.heap.size 122 z:=heap_alloc_new w _
 have HROW:Hid (Row (w.alloc (.cells (z.map (Value.int .u8)).toArray 122)) w.heap.size 122 z):=hrow
 have HP1:Hid (POwn (w.alloc (.cells (z.map (Value.int .u8)).toArray 122)) E cv qs):=hP.below hb
 have HD1:Hid ((w.alloc (.cells (z.map (Value.int .u8)).toArray 122)).heap[D]?=some (.cells #[dv,cv,.int .i64 f,.bool false] 40 (0,0))):=by unfold Hid;rw[hb.block _ hD];exact h
 have HLT:Hid (∀(i:Nat) (p:Q1) (k:Nat),qs[i]?=some p→p.v.ownBlock=some k→k<w.heap.size):=fun i p k hp e=>((hP.each i p hp).lt k e).2.1
 have hcS:∀ k,cv.ownBlock=some k→k<w.heap.size:=fun k e=>(ownsRow_lt hP.row k e).2.1
 have HCS:Hid _:=hcS
 have HBB:Hid (Below w.heap.size w (w.alloc (.cells (z.map (Value.int .u8)).toArray 122))):=hb
 have HZ:Hid (z.length=64):=hz
 clear hb h hP hz hrow hcS
 go_enter Tryz.func107,Tryz.ntmps107
 go_wp2_with fail
 refine(show Calls _ _ _ _ _ from HB.out).mono ?_
 clear HB
 rintro e w1 ⟨rfl,hr1,hw1⟩
 obtain⟨F,hF⟩:∃ F,stF f=F:=⟨_,rfl⟩
 rw[hF] at hr1
 have HF:Hid (stF f=F):=hF
 clear hF
 have hsz1:w.heap.size<w1.heap.size:=by rw[hw1.size];exact HROW.out.lt
 have HR1:Hid (w1.heap[D]?=some (.cells #[dv,cv,.int .i64 F,.bool false] 40 (0,0))):=hr1
 have HROW1:Hid (Row w1 w.heap.size 122 z):=by unfold Hid Row;rw[hw1.block _ (by omega)];exact HROW.out
 have HP2:Hid (POwn w1 E cv qs):=POwn.keepD HP1.out (fun k cur t hh ht=>hw1.block k (fun e=>by rw[e,HD1.out] at hh;simp at hh;exact ht hh.2.symm))
 have HW1:Hid (WR D cv.ownBlock w w1):=(WR.of_below HBB.out).trans (WR.of_wr hw1)
 clear hr1 hw1 HROW HP1 HD1 HBB
 have hDc:∀ k,cv.ownBlock=some k→k≠D:=fun k e ek=>by
  obtain⟨_,_,cur,h3⟩:=ownsRow_lt (POwn.row HP2.out) k e;rw[ek,HR1.out] at h3;simp at h3
 have HDC:Hid _:=hDc
 clear hDc
 have hD1:D<w1.heap.size:=by omega
 go_wp2_with fail
 refine wp_region_any (by kernel_rfl) ?_
 refine wpAny_slotsJ 12 (fun i w w'=>(i≠9→Below w.heap.size w w')∧w.grownBy w' cv.ownBlock) (frame:=(fun (a b c d e f g h:Value)=>fun (t:Nat→Value)=>({ tmps:=List.toArray [a,b,c,d,e,f,g,h,t 0,t 1,t 2,t 3,t 4,t 5,t 6,t 7,t 8,t 9,t 10,t 11],defers:=[] }:Act)) _ _ _ _ _ _ _ _)
  (Ext:=fun Ls w'=>w1.grownBy w' cv.ownBlock∧(Ls 9=false→Below w1.heap.size w1 w')) (Good:=GV D w.heap.size E w.heap.size cv qs s z) (by rfl) (by kernel_rfl) (GV_stab _ _ _ _ _ _ _ _ HCS.out) (by kernel_rfl) (by kernel_rfl) ?hop ?hend _ _ ((fun (x0 x1 x2 x3 x4 x5 x6 x7 x8 x9 x10 x11:Value)=>fun (i:Nat)=>if i=0 then x0 else if i=1 then x1 else if i=2 then x2 else if i=3 then x3 else if i=4 then x4 else if i=5 then x5 else if i=6 then x6 else if i=7 then x7 else if i=8 then x8 else if i=9 then x9 else if i=10 then x10 else if i=11 then x11 else undef) _ _ _ _ _ _ _ _ _ _ _ _) _ (by simp) (by simp) ?ext ?start ?clo (by simp)
 case clo=>intro i o ho h;exact absurd h (by rw[Array.getD_eq_getD_getElem?,Array.getElem?_replicate];split<;>simp)
 case start=>intro i hi h;exact absurd h (by rw[Array.getD_eq_getD_getElem?,Array.getElem?_replicate];split<;>simp)
 case ext=>exact⟨grown_of_below (Below.refl _ _).drew,fun _=>(Below.refl _ _).drew⟩
 case hop=>
  intro i o Ls t w' hil ho hLi hx hdep K hK;obtain⟨hxg,hx9⟩:=hx;have h9:∀(j:Nat) (ww:World),j≠9→Below w'.heap.size w' ww→updK Ls j 9=false→Below w1.heap.size w1 ww:=fun j ww hj hb hL=>by
   have hL':Ls 9=false:=by simpa[updK,Ne.symm hj] using hL
   exact(hx9 hL').trans (hb.mono hxg.size)
  have haf:w'.heap[D]?=some (.cells #[dv,cv,.int .i64 F,.bool false] 40 (0,0)):=by
   rw[hxg.block D hD1 (fun e=>HDC.out D e.symm rfl)];exact HR1.out
  obtain⟨a0,a1,a2,a3⟩:=row4 haf;have REF:Hid (∀ j,j≠9→(w1.grownBy w' cv.ownBlock∧(updK Ls j 9=false→Below w1.heap.size w1 w'))):=fun j hj=>⟨hxg,h9 j w' hj (Below.refl _ _)⟩
  have RM:Hid (∀ j,(j≠9→Below w'.heap.size w' w')∧w'.grownBy w' cv.ownBlock):=fun j=>⟨fun _=>Below.refl _ _,grown_of_below (Below.refl _ _)⟩
  have hs9:=hxg.size;have H9:Hid _:=h9;have HX9:Hid _:=hx9;have HXG:Hid _:=hxg;clear h9 hx9 hxg haf;obtain rfl|rfl|rfl|rfl|rfl|rfl|rfl|rfl|rfl|rfl|rfl|rfl:i=0∨i=1∨i=2∨i=3∨i=4∨i=5∨i=6∨i=7∨i=8∨i=9∨i=10∨i=11:=by omega
  all_goals(simp at ho;subst ho)
  ·clear hdep;go_simp;exact hK w' (.pointer (some ⟨D,0,none⟩)) rfl (REF.out 0 (by decide)) (RM.out 0)
  ·clear hdep;go_simp;exact hK w' (.pointer (some ⟨D,0,none⟩)) rfl (REF.out 1 (by decide)) (RM.out 1)
  ·have d1:t 1=_:=hdep ⟨1,.data⟩ (by simp) rfl;clear hdep;go_simp;simpa[upd,d1] using hK w' (.pointer (some ⟨D,0,none⟩)) rfl (REF.out 2 (by decide)) (RM.out 2)
  ·have d2:t 2=_:=hdep ⟨2,.data⟩ (by simp) rfl;clear hdep;go_simp;simpa[upd,d2] using hK w' (.pointer (some ⟨D,1,none⟩)) rfl (REF.out 3 (by decide)) (RM.out 3)
  ·have d3:t 3=_:=hdep ⟨3,.data⟩ (by simp) rfl;clear hdep;go_simp;simpa[upd,d3] using hK w' (cv) rfl (REF.out 4 (by decide)) (RM.out 4)
  ·clear hdep;go_simp;exact hK w' (.int .i64 s) rfl (REF.out 5 (by decide)) (RM.out 5)
  ·clear hdep;go_simp;exact hK w' (.slice (some ⟨w.heap.size,0,none⟩) 64 64) rfl (REF.out 6 (by decide)) (RM.out 6)
  ·have d5:t 5=_:=hdep ⟨5,.data⟩ (by simp) rfl;have d6:t 6=_:=hdep ⟨6,.data⟩ (by simp) rfl;clear hdep;go_simp;simpa[upd,d5,d6] using hK w' (.agg #[.int .i64 s,.slice (some ⟨w.heap.size,0,none⟩) 64 64]) rfl (REF.out 7 (by decide)) (RM.out 7)
  ·have d7:t 7=_:=hdep ⟨7,.data⟩ (by simp) rfl;clear hdep;have hb9:=(Below.refl w'.heap.size w').alloc (Nat.le_refl _) (.cells #[.int .i64 s,.slice (some ⟨w.heap.size,0,none⟩) 64 64] 106);have hK':=hK (w'.alloc (.cells #[.int .i64 s,.slice (some ⟨w.heap.size,0,none⟩) 64 64] 106)) (.slice (some ⟨w'.heap.size,0,none⟩) 1 1) ⟨w'.heap.size,rfl,by omega,heap_alloc_new w' _⟩ ⟨grown_trans HXG.out (grown_of_below hb9),H9.out 8 _ (by decide) hb9⟩ ⟨fun _=>hb9,grown_of_below hb9⟩;clear hK hb9;go_simp;simpa[upd,d7] using hK'
  ·have d4:t 4=_:=hdep ⟨4,.data⟩ (by simp) rfl;obtain⟨B,e8,hB,hbB⟩:=hdep ⟨8,.data⟩ (by simp) rfl;clear hdep;have hbl:=HX9.out hLi;have hP9:=POwn.below HP2.out hbl;have e64:(Value.slice (some ⟨w.heap.size,0,none⟩) 64 64)=.slice (some ⟨w.heap.size,0,none⟩) z.length 64:=by rw[HZ.out]
   rw[e64] at hbB;have hRw:Row w' w.heap.size 122 z:=by unfold Row;rw[hbl.block _ (by omega)];exact HROW1.out
   refine wp_appP w' (.tmp 12) (.tmp 16) rfl E w.heap.size cv qs ⟨s,some ⟨w.heap.size,0,none⟩,64,z⟩ d4 hP9 HLT.out B e8 hbB (.inr ⟨w.heap.size,by unfold Q1.v;rw[HZ.out],Nat.le_refl _,HZ.out,hRw⟩) hE (by omega) hql ?_;intro v9 w9 hP9' hg9;exact hK w9 v9 ⟨_,rfl,rfl,hP9'⟩ ⟨grown_trans HXG.out hg9,fun h=>by simp[updK] at h⟩ ⟨fun h=>absurd rfl h,hg9⟩
  ·have d0:t 0=_:=hdep ⟨0,.data⟩ (by simp) rfl;clear hdep;go_simp;simpa[upd,d0] using hK w' (.pointer (some ⟨D,0,none⟩)) rfl (REF.out 10 (by decide)) (RM.out 10)
  ·have d10:t 10=_:=hdep ⟨10,.data⟩ (by simp) rfl;clear hdep;go_simp;simpa[upd,d10] using hK w' (.pointer (some ⟨D,1,none⟩)) rfl (REF.out 11 (by decide)) (RM.out 11)
 case hend=>
  intro o Ls t w' ho hx hg K hK;simp at ho;subst ho;obtain⟨hxg,_⟩:=hx;obtain⟨q',hq1,hq2,hP9⟩:=hg 9 (by decide);have h11:t 11=_:=hg 11 (by decide);clear hg;obtain⟨na,nc,e9,_⟩:=hP9.mine;obtain⟨n9,hn9⟩:∃ n9,(qs++[q']).length=n9:=⟨_,rfl⟩
  rw[hn9] at e9;clear hn9;rw[e9] at hP9;have haf:w'.heap[D]?=some (.cells #[dv,cv,.int .i64 F,.bool false] 40 (0,0)):=by
   rw[hxg.block D hD1 (fun e=>HDC.out D e.symm rfl)];exact HR1.out
  obtain⟨a0,a1,a2,a3⟩:=row4 haf;have f1:=frozen_of_row w' D 1 _ _ haf;have hA9:=row_setCell (i:=1) (.slice na n9 nc) haf rfl;have hwr:Wr D w' (w'.setCell ⟨D,1,none⟩ (.slice na n9 nc)):=(Wr.refl D w').setCell 1 _;have hPn:POwn (w'.setCell ⟨D,1,none⟩ (.slice na n9 nc)) E (.slice na n9 nc) (qs++[q']):=hP9.keepD (fun k cur t hh ht=>hwr.block k (fun e=>by rw[e,haf] at hh;simp at hh;exact ht hh.2.symm));have HFIN:Hid (WrPost w (w'.setCell ⟨D,1,none⟩ (.slice na n9 nc)) D E dv cv qs f s z):=by
   refine⟨.slice na n9 nc,q',hq1,hq2,by rw[HF.out];exact hA9,hPn,?_⟩;exact((show WR D cv.ownBlock w w1 from HW1.out).trans (WR.of_grown hxg)).trans (WR.of_wr hwr)
  clear hPn hA9 haf hP9 hxg hwr a0 a2 a3 hq1 hq2;go_simp;apply hK;clear e9 h11;go_wp2
  first|go_end0|go_ret
  exact⟨rfl,HFIN.out⟩
end Go.Proofs.YthmeoilbmfdhfaaGreat
