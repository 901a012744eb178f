import Derived.Test.YtapejbpgdjbjjaaGreatDoorMICd
import Derived.Test.YtapejbpgdjbjjaaGreatDoorMRtM
import Derived.Test.YtapejbpgdjbjjaaGreatDoorSDc
import Derived.Test.YtapejbpgdjbjjaaGreatDoorMIMu
import Derived.Test.YtapejbpgdjbjjaaGreatDoorMU8i
import Derived.Test.YtapejbpgdjbjjaaGreatDoorMVal
namespace Go.Proofs.YtapejbpgdjbjjaaGreatDoor
open Go.ChangeShapes Go.WideShapes Go.ChangeAt Go.RowKit
set_option linter.unusedVariables false
def ptQ (zs:List Int):Q4:=(mX zs mdD,mY zs,1%fp,mX zs mdD*mY zs%fp)
theorem mB_len2 {zs:List Int} (h:mB zs mdD=true):zs.length=32∧mY zs<fp:=by
 unfold mB at h
 simp only[Bool.and_eq_true] at h
 exact⟨by simpa using h.1.1.1,by simpa using h.1.1.2⟩
def bB:List Int:=[88,102,102,102,102,102,102,102,102,102,102,102,102,102,102,102,102,102,102,102,102,102,102,102,102,102,102,102,102,102,102,102]
theorem bB_len:bB.length=32:=rfl
theorem bB_val:val 256 bB=baseY:=by decide +kernel
theorem bB_byte:Byte bB:=by unfold Byte bB;decide
theorem bB_ok:mB bB mdD=true:=by decide +kernel
theorem bB_of {bs:List Int} (hb:Byte bs) (hl:bs.length=32) (hv:val 256 bs=baseY):bs=bB:=
 val_inj (B:=256) (by decide) hb bB_byte (by rw[hl,bB_len]) (by rw[hv,bB_val])
end Go.Proofs.YtapejbpgdjbjjaaGreatDoor
namespace Go.Proofs.YtapejbpgdjbjjaaGreatDoor
open Go.ChangeShapes Go.WideShapes Go.ChangeAt Go.RowKit
set_option linter.unusedVariables false
open Classical in
noncomputable def muZ (ks zs:List Int):List Int:=if h:∃ rs:List Int,(ks.length=32∧mB zs mdD=true)∧Byte rs∧rs.length=32∧val 256 rs=muV (val 256 ks) (ptQ zs) then h.choose else []
theorem muZ_eq {ks zs rs:List Int} (hn:ks.length=32∧mB zs mdD=true) (hb:Byte rs) (hl:rs.length=32) (hv:val 256 rs=muV (val 256 ks) (ptQ zs)):muZ ks zs=rs:=by
 have hex:∃ rs:List Int,(ks.length=32∧mB zs mdD=true)∧Byte rs∧rs.length=32∧val 256 rs=muV (val 256 ks) (ptQ zs):=⟨rs,hn,hb,hl,hv⟩
 unfold muZ
 rw[dif_pos hex]
 obtain⟨h0,h1,h2,h3⟩:=hex.choose_spec
 exact val_inj (B:=256) (by decide) h1 hb (by omega) (by rw[h3,hv])
theorem muZ_no {ks zs:List Int} (hn:¬ (ks.length=32∧mB zs mdD=true)):muZ ks zs=[]:=by
 unfold muZ;rw[dif_neg];rintro⟨rs,h,_⟩;exact hn h
theorem muZ_len (ks zs:List Int):(muZ ks zs).length≤32:=by
 unfold muZ;split
 ·next h=>exact Nat.le_of_eq h.choose_spec.2.2.1
 ·simp
def PmuP (w:World) (ks zs:List Int) (e:Ending) (w':World):Prop:=∃ v,e=.returned v∧ResO w.heap.size w' v (muZ ks zs)∧Below w.heap.size w w'
def SmP (w:World) (ks zs:List Int) (e:Ending) (w':World):Prop:=∃ b o c,e=.returned (.slice (some ⟨b,o,none⟩) (muZ ks zs).length c)∧b<w'.heap.size∧At .u8 w' (some ⟨b,o,none⟩) (muZ ks zs)∧Below w.heap.size w w'
set_option maxRecDepth 100000 in
set_option maxHeartbeats 4000000 in
theorem imul_any (q p:Option Addr) (m cap' n cap:Nat) (ks zs:List Int) (w:World) (hn':ks.length=m) (hm':m≤1048576) (ha':At .u8 w q ks) (hy:Byte ks) (hn:zs.length=n) (hm:n≤1048576) (ha:At .u8 w p zs) (hz:Byte zs) :
  Calls Tryz.prog 11 #[.slice q m cap',.slice p n cap] w (PmuP w ks zs):=by
 have HB0:Below w.heap.size w (w.alloc (.cells #[.int .u64 0,.int .u64 0,.int .u64 0,.int .u64 0,.int .u64 0,.int .u64 0,.int .u64 0,.int .u64 0,.int .u64 0,.int .u64 0,.int .u64 0,.int .u64 0,.int .u64 0,.int .u64 0,.int .u64 0,.int .u64 0,.int .u64 0,.int .u64 0,.int .u64 0,.int .u64 0] 54)):=below_new3 _ _
 have HP1:Pt (w.alloc (.cells #[.int .u64 0,.int .u64 0,.int .u64 0,.int .u64 0,.int .u64 0,.int .u64 0,.int .u64 0,.int .u64 0,.int .u64 0,.int .u64 0,.int .u64 0,.int .u64 0,.int .u64 0,.int .u64 0,.int .u64 0,.int .u64 0,.int .u64 0,.int .u64 0,.int .u64 0,.int .u64 0] 54)) w.heap.size [0,0,0,0,0] [0,0,0,0,0] [0,0,0,0,0] [0,0,0,0,0]:=⟨heap_alloc_new w _,zero_ok,zero_ok,zero_ok,zero_ok⟩
 have ha1:=ha.below HB0
 have HNO:(¬ (ks.length=32∧mB zs mdD=true))→∀ wz,Below w.heap.size w wz→Hid (PmuP w ks zs (.returned (.slice none 0 0)) wz):=fun h wz hb=>by
  show PmuP _ _ _ _ _
  unfold PmuP;rw[muZ_no h];exact⟨_,rfl,⟨none,0,rfl,.inl rfl,.inl rfl,fun ad h=>by cases h⟩,hb⟩
 by_cases hm32:m=32
 ·subst hm32;go_enter Tryz.func11,Tryz.ntmps11;go_wp2_with fail;generalize w.alloc (.cells #[.int .u64 0,.int .u64 0,.int .u64 0,.int .u64 0,.int .u64 0,.int .u64 0,.int .u64 0,.int .u64 0,.int .u64 0,.int .u64 0,.int .u64 0,.int .u64 0,.int .u64 0,.int .u64 0,.int .u64 0,.int .u64 0,.int .u64 0,.int .u64 0,.int .u64 0,.int .u64 0] 54)=w0 at *;refine(decode_any w.heap.size _ _ _ _ p n cap zs _ hn hm ha1 hz HP1).mono ?_;rintro e w1 ⟨x1,y1,z1,t1,P1,hw1,rfl,hv1⟩;have HB1:Hid (Below w.heap.size w w1):=HB0.trans (hw1.below w.heap.size (Nat.le_refl _) HB0.size);have HA1:Hid (At .u8 w1 q ks):=ha'.below HB1.out;have HP1':Hid (Pt w1 w.heap.size x1 y1 z1 t1):=P1;have HV1:Hid (dcR zs=true→ev x1=dcX zs∧ev y1=dcY zs∧ev z1=1∧ev t1=dcX zs*dcY zs%fp):=hv1;clear hw1 HP1 HB0 ha1 P1 hv1 ha ha';have HDS:Hid (dcR zs=mB zs mdD):=dec_same zs hz;rw[HDS.out];cases hb:mB zs mdD with
  |false=>
   have H:=HNO (by rw[hb];simp) w1 HB1.out;clear HNO HB1 HA1 HP1' HV1;go_wp2
   go_ret
   exact H.out
  |true=>
   obtain⟨e1,e2,e3,e4⟩:=HV1.out (by rw[HDS.out];exact hb);have q1:=decX_same zs (mB_len2 hb).1 hz (mB_len2 hb).2;have HE:Hid (((ev x1,ev y1,ev z1,ev t1):Q4)=ptQ zs):=by
    show _=_
    unfold ptQ;rw[e1,q1,e2,e3,e4,q1];rfl
   clear e1 e2 e3 e4 q1 HV1 HNO;go_wp2_with fail;refine(nof_any q 32 cap' ks _ hn' (by decide) (by decide) HA1.out hy).mono ?_;rintro e w2 ⟨ms,hl,hw,hv,rfl,b2⟩;rw[List.take_of_length_le (by omega)] at hv;have HB2:Hid (Below w.heap.size w w2):=HB1.out.trans (b2.mono HB1.out.size);have HP2:Hid (Pt w2 w.heap.size x1 y1 z1 t1):=HP1'.out.below b2 HP1'.out.row.lt;have CM:=multiply_any w.heap.size x1 y1 z1 t1 ms w2 HP2.out hl hw;rw[HE.out,hv] at CM;have hrd:Rd (ptQ zs):=by rw[←HE.out];exact⟨ev_bd _,ev_bd _,ev_bd _,ev_bd _⟩
   have HMV:Hid (cdV (pS (val 256 ks) (ptQ zs) 256).1 (pS (val 256 ks) (ptQ zs) 256).2.1 (pS (val 256 ks) (ptQ zs) 256).2.2.1=muV (val 256 ks) (ptQ zs)):=muV_prog _ _ hrd;clear b2 HB1 HA1 HP1' hl hw hv HE hrd;go_wp2_with fail;refine CM.mono ?_;rintro e w3 ⟨x,y,z,t,P3,hw3,rfl,hq⟩;have HB3:Hid (Below w.heap.size w w3):=HB2.out.trans (hw3.below w.heap.size (Nat.le_refl _) HB2.out.size);have HP3:Hid (Pt w3 w.heap.size x y z t):=P3;have HCV:Hid (cdV (ev x) (ev y) (ev z)=muV (val 256 ks) (ptQ zs)):=by
    show _=_
    rw[←HMV.out,←hq]
   clear P3 hw3 HB2 HP2 CM hq HMV;go_wp2_with fail;refine(pcode_any w.heap.size x y z t _ HP3.out).mono ?_;rintro e w4 ⟨ms,hl,hw,hv,rfl,b4⟩;rw[HCV.out] at hv;have HB4:Hid (Below w.heap.size w w4):=HB3.out.trans (b4.mono HB3.out.size)
   match ms,hl with
   |[n0,n1,n2,n3],_=>
   have HN:Hid (RowW (w4.alloc (.cells #[.int .u64 n0,.int .u64 n1,.int .u64 n2,.int .u64 n3] 57)) w4.heap.size 57 [n0,n1,n2,n3]):=heap_alloc_new w4 _;have HB5:Hid (Below w.heap.size w (w4.alloc (.cells #[.int .u64 n0,.int .u64 n1,.int .u64 n2,.int .u64 n3] 57))):=HB4.out.trans ((below_new3 _ _).mono HB4.out.size);have HW:Hid (Wrd [n0,n1,n2,n3]∧val 18446744073709551616 [n0,n1,n2,n3]=muV (val 256 ks) (ptQ zs)):=⟨hw,hv⟩
   clear b4 HB3 HP3 hw hv HCV HB4;simp only[List.map_cons,List.map_nil];go_wp2_with fail;generalize w4.alloc (.cells #[.int .u64 n0,.int .u64 n1,.int .u64 n2,.int .u64 n3] 57)=w5 at *;refine(text_any w4.heap.size [n0,n1,n2,n3] _ rfl HN.out HW.out.1).mono ?_;rintro e w6 ⟨bs,hbl,hbb,hbv,rfl,O,b6⟩;have HF:Hid (PmuP w ks zs (.returned (.slice (some ⟨w5.heap.size,0,none⟩) 32 32)) w6):=by
    show PmuP _ _ _ _ _
    unfold PmuP;rw[muZ_eq ⟨hn',hb⟩ hbb hbl (by rw[hbv];exact HW.out.2)];have R:=own_res O;obtain⟨a,c,e,r1,r2,r3⟩:=R;exact⟨_,rfl,⟨a,c,e,r1,r2,fun ad h=>Nat.le_trans HB5.out.size (r3 ad h)⟩,HB5.out.trans (b6.mono HB5.out.size)⟩
   clear hbl hbb hbv O b6 HN HW HB5;go_wp2
   go_ret
   exact HF.out
 ·have H:=HNO (fun h=>hm32 (by omega)) _ HB0;have hm33:¬ ((m:Int)=32):=by omega
  have hm34:((m:Int) != 32)=true:=by simpa using hm33
  clear HNO HP1 ha1 HB0;go_enter Tryz.func11,Tryz.ntmps11;go_wp2
  go_ret
  exact H.out
end Go.Proofs.YtapejbpgdjbjjaaGreatDoor
namespace Go.Proofs.YtapejbpgdjbjjaaGreatDoor
open Go.ChangeShapes Go.WideShapes Go.ChangeAt Go.RowKit
set_option linter.unusedVariables false
section
variable {P:Program} {ops:Array Oper} {Q:Exit→Act→World→Prop} {md:Region.Mode}
theorem wpAny_slotsU (M:Nat→World→World→Prop) (frame:(Nat→Value)→Act) (Ext:(Nat→Bool)→(Nat→Value)→World→Prop) (Good:Nat→(Nat→Bool)→World→Value→Prop)
  (hstab:∀ j L w w' i v,M i w w'→i≠j→L i=false→Good j L w v→Good j (updK L i) w' v)
  (hback:(List.range ops.size).all (fun i=>((ops[i]?).map (fun o=>o.after.all (fun e=>decide (e.on<i)))).getD false)=true)
  (hop:∀(i:Nat) (o:Oper) (L:Nat→Bool) (u:Nat→Value) (w:World),ops[i]?=some o→L i=false→Ext L u w→(∀ e∈o.after,Region.binds md e=true→L e.on=true∧Good e.on L w (u e.on))→
   ∀ K:Act→World→Prop,(∀ w' v,Good i (updK L i) w' v→Ext (updK L i) (upd u i v) w'→M i w w'→K (frame (upd u i v)) w')→(if Region.wanted o (yielded ops (frame u).tmps)=true then Oper.wp P o (frame u) w K Q else K ((frame u).put o.dst undef) w))
  (hdone:∀ L u w,Ext L u w→(∀ i,i<ops.size→Good i L w (u i))→Q .normal (frame u) w) :
  ∀(fuel:Nat) (listed:Array Bool) (u:Nat→Value) (w:World),listed.size=ops.size→Ext (fun n=>listed.getD n false) u w→(∀ i,i<ops.size→listed.getD i false=true→Good i (fun n=>listed.getD n false) w (u i))→
   (listed.toList.filter (!·)).length≤fuel→wpAny P md ops Q fuel listed (frame u) w:=by
 have hb:∀(i:Nat) (o:Oper),ops[i]?=some o→∀ e∈o.after,e.on<i:=fun i o ho e he=>by
  have hi:i<ops.size:=(Array.getElem?_eq_some_iff.1 ho).1;have:=List.all_eq_true.1 hback i (List.mem_range.2 hi);rw[ho] at this;simp at this;obtain⟨k,hk,rfl⟩:=Array.mem_iff_getElem.1 he;exact this k hk
 have hfin:∀(listed:Array Bool) (u:Nat→Value) (w:World),listed.size=ops.size→Ext (fun n=>listed.getD n false) u w→(∀ i,i<ops.size→listed.getD i false=true→Good i (fun n=>listed.getD n false) w (u i))→Region.ready md ops listed=[]→Q .normal (frame u) w:=by
  intro listed u w hs he hgd hr;refine hdone _ u w he fun i hi=>hgd i hi ?_
  have hall:∀ n i,i<n→i<ops.size→listed.getD i false=true:=by
   intro n
   induction n with
   |zero=>intro i h;omega
   |succ n ih=>
    intro i hin hi;by_cases hlt:i<n
    ·exact ih i hlt hi
    ·cases hl:listed.getD i false with
     |true=>rfl
     |false=>
      exfalso
      have hl':listed.getD i true=false:=by
       have hil:i<listed.size:=by omega
       simp[hil] at hl ⊢;exact hl
      have:i∈Region.ready md ops listed:=mem_ready.2 ⟨hi,hl',ops[i],by simp[hi],fun e hee _=>ih e.on (by have:=hb i ops[i] (by simp[hi]) e hee;omega) (by have:=hb i ops[i] (by simp[hi]) e hee;omega)⟩;rw[hr] at this;cases this
  exact hall (i+1) i (by omega) hi
 intro fuel
 induction fuel with
 |zero=>
  intro listed u w hs he hgd hc;have hr:Region.ready md ops listed=[]:=by
   apply List.eq_nil_iff_forall_not_mem.2;intro i hi;obtain⟨h1,h2,_⟩:=mem_ready.1 hi;have hil:i<listed.size:=by omega
   have h3:listed[i]=false:=by simpa[hil] using h2
   have:listed[i]∈listed.toList.filter (!·):=by
    rw[List.mem_filter];exact⟨by simp,by rw[h3];rfl⟩
   have:=List.length_pos_of_mem this;omega
  exact⟨hr,hfin listed u w hs he hgd hr⟩
 |succ fuel ih=>
  intro listed u w hs he hgd hc;refine⟨fun hr=>hfin listed u w hs he hgd hr,fun i hi=>?_⟩;obtain⟨h1,h2,o,ho,h3⟩:=mem_ready.1 hi;refine wpOp_step ho fun K hK=>?_
  have hil:i<listed.size:=by omega
  have hnl:listed.getD i false=false:=by simp[hil] at h2 ⊢;exact h2
  have hupd:(fun n=>(listed.setIfInBounds i true).getD n false)=updK (fun n=>listed.getD n false) i:=by
   funext n;rw[getD_set listed i n hil];rfl
  refine hop i o (fun n=>listed.getD n false) u w ho hnl he (fun e hee hbd=>⟨h3 e hee hbd,hgd e.on (by have:=hb i o ho e hee;omega) (h3 e hee hbd)⟩) K fun w' v hgv hext hm=>hK _ _ ?_
  refine ih _ _ w' (by simpa using hs) (by rw[hupd];exact hext) (fun j hj hlj=>?_) ?_
  ·rw[getD_set listed i j hil] at hlj;unfold upd;by_cases hji:j=i
   ·subst hji;rw[hupd];simpa using hgv
   ·rw[if_neg hji] at hlj;rw[if_neg hji,hupd];exact hstab j _ w w' i _ hm (Ne.symm hji) hnl (hgd j hj hlj)
  ·have:listed.toList[i]?=some false:=by simp[hil] at h2;simp[hil,h2]
   have:=count_set listed.toList i this;rw[Array.toList_setIfInBounds];omega
end
end Go.Proofs.YtapejbpgdjbjjaaGreatDoor
namespace Go.Proofs.YtapejbpgdjbjjaaGreatDoor
open Go.ChangeShapes Go.WideShapes Go.ChangeAt Go.RowKit
set_option linter.unusedVariables false
def Fresh (w w':World) (v:Value):Prop:=∀ k,v.ownBlock=some k→w.heap.size≤k∧k<w'.heap.size
def BlkLt (w:World) (v:Value):Prop:=∀ k,v.ownBlock=some k→k<w.heap.size
def ApV (x y:Value):Prop:=∀ k,x.ownBlock=some k→y.ownBlock≠some k
structure ApX (W:World) (ps:List Nat) (L:Nat→Bool) (u:Nat→Value) (w:World):Prop where
 below:Below W.heap.size W w
 blt:∀ p,p∈ps→L p=true→BlkLt w (u p)
 ap:∀ p,p∈ps→∀ q,q∈ps→p≠q→L p=true→L q=true→ApV (u p) (u q)
theorem ApX.start (W:World) (ps:List Nat) (L:Nat→Bool) (u:Nat→Value) (h:∀ i,L i=false):ApX W ps L u W:=
 ⟨Below.refl _ _,fun p _ hp=>(by rw[h] at hp;cases hp),fun p _ q _ _ hp=>(by rw[h] at hp;cases hp)⟩
theorem ApX.step {W:World} {ps:List Nat} {L:Nat→Bool} {u:Nat→Value} {w w':World} (h:ApX W ps L u w) (i:Nat) (v:Value) (b:Below w.heap.size w w') (hv:i∈ps→Fresh w w' v):ApX W ps (updK L i) (upd u i v) w':=by
 refine⟨h.below.trans (b.mono h.below.size),fun p hp hl=>?_,fun p hp q hq hne hlp hlq=>?_⟩
 ·by_cases e:p=i
  ·subst e;simp only[upd,if_true];exact fun k hk=>(hv hp k hk).2
  ·simp only[updK,if_neg e] at hl;simp only[upd,if_neg e];exact fun k hk=>Nat.lt_of_lt_of_le (h.blt p hp hl k hk) b.size
 ·by_cases e:p=i
  ·subst e;have e2:¬ q=p:=fun h=>hne h.symm
   simp only[updK,if_neg e2] at hlq;simp only[upd,if_true,if_neg e2];intro k hk hk';have h1:=(hv hp k hk).1;have h2:=h.blt q hq hlq k hk';omega
  ·by_cases e2:q=i
   ·subst e2;simp only[updK,if_neg e] at hlp;simp only[upd,if_true,if_neg e];intro k hk hk';have h1:=(hv hq k hk').1;have h2:=h.blt p hp hlp k hk;omega
   ·simp only[updK,if_neg e,if_neg e2] at hlp hlq;simp only[upd,if_neg e,if_neg e2];exact h.ap p hp q hq hne hlp hlq
theorem ApX.drew {W:World} {ps:List Nat} {L:Nat→Bool} {u:Nat→Value} {w:World} (h:ApX W ps L u w):ApX W ps L u w.drew:=⟨⟨h.below.os,h.below.tape,h.below.output,h.below.size,h.below.block⟩,h.blt,h.ap⟩
structure ApS (w:World) (R last:Nat) (T:TypeId) (ZS:Array Value) (Fin:World→Array Value→Prop) (ps:List Nat) (L:Nat→Bool) (u:Nat→Value) (w':World):Prop where
 ax:ApX w ps L u w'
 pre:L last=false→w'.heap[R]?=some (.cells ZS T (0,0))
 fin:L last=true→∃ cs,w'.heap[R]?=some (.cells cs T (0,0))∧Fin w' cs
section
variable {w:World} {R last:Nat} {T:TypeId} {ZS:Array Value} {Fin:World→Array Value→Prop} {ps:List Nat} {L:Nat→Bool} {u:Nat→Value} {w' w'':World}
theorem ApS.lt (h:ApS w R last T ZS Fin ps L u w'):R<w'.heap.size:=by
 cases hl:L last with
 |false=>exact(Array.getElem?_eq_some_iff.1 (h.pre hl)).1
 |true=>obtain⟨cs,h1,_⟩:=h.fin hl;exact(Array.getElem?_eq_some_iff.1 h1).1
theorem ApS.step (h:ApS w R last T ZS Fin ps L u w') (stab:∀ a b cs,Below a.heap.size a b→Fin a cs→Fin b cs) (i:Nat) (hi:i≠last) (v:Value) (b:Below w'.heap.size w' w'') (hv:i∈ps→Fresh w' w'' v):ApS w R last T ZS Fin ps (updK L i) (upd u i v) w'':=by
 have hlt:=h.lt
 have e:updK L i last=L last:=by unfold updK;rw[if_neg (fun h=>hi h.symm)]
 refine⟨h.ax.step i v b hv,fun hl=>?_,fun hl=>?_⟩
 ·rw[b.block R hlt];exact h.pre (e ▸ hl)
 ·obtain⟨cs,h1,h2⟩:=h.fin (e ▸ hl);exact⟨cs,by rw[b.block R hlt];exact h1,stab _ _ _ b h2⟩
theorem ApS.put (h:ApS w R last T ZS Fin ps L u w') (hR:w.heap.size≤R) (hl:last∉ps) (v:Value) {cs:Array Value} (hw:Wr R w' w'') (hr:w''.heap[R]?=some (.cells cs T (0,0))) (hf:Fin w'' cs):ApS w R last T ZS Fin ps (updK L last) (upd u last v) w'':=by
 have hk:∀ p,p∈ps→p≠last:=fun p hp e=>hl (e ▸ hp)
 refine⟨⟨h.ax.below.trans (hw.below hR),fun p hp hlp=>?_,fun p hp q hq hne hlp hlq=>?_⟩,fun hx=>?_,fun _=>⟨cs,hr,hf⟩⟩
 ·simp only[updK,if_neg (hk p hp)] at hlp;simp only[upd,if_neg (hk p hp)];exact fun k hk'=>by rw[hw.size];exact h.ax.blt p hp hlp k hk'
 ·simp only[updK,if_neg (hk p hp)] at hlp;simp only[updK,if_neg (hk q hq)] at hlq;simp only[upd,if_neg (hk p hp),if_neg (hk q hq)];exact h.ax.ap p hp q hq hne hlp hlq
 ·unfold updK at hx;simp at hx
theorem ApS.start {wb:World} (ax:ApX w ps L u wb) (h:∀ i,L i=false) (hr:wb.heap[R]?=some (.cells ZS T (0,0))):ApS w R last T ZS Fin ps L u wb:=⟨ax,fun _=>hr,fun hl=>(by rw[h] at hl;cases hl)⟩
end
end Go.Proofs.YtapejbpgdjbjjaaGreatDoor
