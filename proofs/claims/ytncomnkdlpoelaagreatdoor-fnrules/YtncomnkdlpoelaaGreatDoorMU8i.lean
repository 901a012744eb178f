import Derived.Test.YtncomnkdlpoelaaGreatDoorMBase
import Derived.BigRegion
namespace Go.Proofs.YtncomnkdlpoelaaGreatDoor
open Go.ChangeShapes Go.WideShapes Go.ChangeAt Go.RowKit
set_option linter.unusedVariables false
theorem Tryz.infoU8:(Tryz.prog.info? 5).map (fun i=>(i.zero,i.size,i.bytes))=some (some (.int .u8 0),1,1):=by kernel_rfl
theorem part_u64 (w:World) (xs:List Int) (i:Nat) (hi:i<xs.length):(part 135 (xs.map (Value.int .u64)).toArray i).run Tryz.prog w=.ok (.int .u64 (xs.getD i 0)) w:=by
 have hagg:(isAgg 135).run Tryz.prog w=.ok false w:=by
  unfold isAgg;rw[Sem.run_bind,run_underlying Tryz.underlying135 w];rfl
 simp[part,hagg,hi]
theorem sizeU64 (w:World):(sizeOf 135).run Tryz.prog w=.ok 1 w:=by
 have h:(Tryz.prog.info? 135).map (·.size)=some 1:=by kernel_rfl
 cases hq:Tryz.prog.info? 135 with
 |none=>simp[hq] at h
 |some i=>
  have hs:i.size=1:=by simpa[hq] using h
  simp[sizeOf,typeInfo,hq,hs]
theorem run_eqW (w:World) (d n:Nat) (t:TypeId) (hu:Tryz.prog.underlying t=some (.array n 135)) (xs ys:List Int) (hx:xs.length=n) (hy:ys.length=n) :
  (Op.equalIn (d+2) t (.agg (xs.map (Value.int .u64)).toArray) (.agg (ys.map (Value.int .u64)).toArray)).run Tryz.prog w=.ok (decide (xs=ys)) w:=by
 have key:decide (xs=ys)=(List.range' 0 n).all (fun i=>xs.getD i 0 == ys.getD i 0):=by
  rw[Bool.eq_iff_iff];simp only[decide_eq_true_eq,List.all_eq_true,List.mem_range',beq_iff_eq];constructor
  ·rintro rfl _ _;rfl
  ·intro h;apply List.ext_getElem (by omega);intro i h1 h2;have:=h i ⟨i,by omega,by omega⟩;simpa[h1,h2] using this
 rw[key];unfold Op.equalIn;simp only[Sem.run_bind,run_underlying hu,Result.andThen_ok,sizeU64,Nat.mul_one,Std.Legacy.Range.forIn_eq_forIn_range',Std.Legacy.Range.size,Nat.sub_zero,Nat.add_sub_cancel,Nat.div_one];have hl:∀ i∈List.range' 0 n,i<n:=fun i hi=>by rw[List.mem_range'] at hi;obtain⟨j,_,rfl⟩:=hi;omega
 revert hl;generalize List.range' 0 n=l;intro hl
 induction l with
 |nil=>simp
 |cons i l ih=>
  have hi:=hl i (List.mem_cons_self ..);have ih':=ih (fun j hj=>hl j (List.mem_cons_of_mem _ hj));simp only[List.forIn_cons,Sem.run_bind,part_u64 w xs i (by omega),part_u64 w ys i (by omega),Result.andThen_ok,run_equalIn_int w d 135 .u64 .u64 _ _ Tryz.underlying135,List.all_cons];cases hb:(xs.getD i 0 == ys.getD i 0)
  ·simp
  ·simp only[Bool.not_true,Bool.false_eq_true,if_false,Sem.run_pure,Result.andThen_ok,Bool.true_and];exact ih'
end Go.Proofs.YtncomnkdlpoelaaGreatDoor
namespace Go.Proofs.YtncomnkdlpoelaaGreatDoor
set_option linter.unusedVariables false
/-! Elements of five limbs of 51 bits. -/
def gcy (B:Int) (xs:List Int):Nat→Int
 |0=>0
 |i+1=>(xs.getD i 0+gcy B xs i)/B
theorem gcarry_val (B:Int) (xs:List Int) (n:Nat):val B ((List.range n).map fun i=>(xs.getD i 0+gcy B xs i)%B)+gcy B xs n*B^n=val B ((List.range n).map fun i=>xs.getD i 0):=by
 induction n with
 |zero=>simp[val,gcy]
 |succ n ih=>
  rw[val_range,val_range,←ih,Int.pow_succ];simp only[gcy];have e:(xs.getD n 0+gcy B xs n)%B+B*((xs.getD n 0+gcy B xs n)/B)=xs.getD n 0+gcy B xs n:=Int.emod_add_mul_ediv _ _;have e2:((xs.getD n 0+gcy B xs n)%B+B*((xs.getD n 0+gcy B xs n)/B))*B^n=(xs.getD n 0+gcy B xs n)*B^n:=by rw[e]
  generalize B^n=P at *;generalize (xs.getD n 0+gcy B xs n)/B=q at *;generalize (xs.getD n 0+gcy B xs n)%B=r at *;generalize val B (List.map (fun i=>(xs.getD i 0+gcy B xs i)%B) (List.range n))=v at *
  grind
def B51:Int:=2251799813685248
def sdig (xs:List Int) (k i:Nat):Int:=if i<k then(xs.getD i 0+gcy B51 xs i)%B51 else xs.getD i 0
def sst (xs:List Int) (k:Nat):List Int:=(List.range 5).map (sdig xs k)
theorem sst_len (xs:List Int) (k:Nat):(sst xs k).length=5:=by simp[sst]
theorem rget5 (f:Nat→Int) (i:Nat) (h:i<5):((List.range 5).map f).getD i 0=f i:=by simp[h]
theorem sst_get (xs:List Int) (k i:Nat) (h:i<5):(sst xs k).getD i 0=sdig xs k i:=rget5 _ i h
theorem list5 {a b:List Int} (ha:a.length=5) (hb:b.length=5) (h:∀ i,i<5→a.getD i 0=b.getD i 0):a=b:=by
 apply List.ext_getElem (by omega);intro i h1 h2;have:=h i (by omega);simpa[h1,h2] using this
theorem sst_zero (xs:List Int) (h:xs.length=5):sst xs 0=xs:=by
 apply list5 (sst_len _ _) h;intro i hi;rw[sst_get _ _ _ hi];simp[sdig]
theorem sst_step (xs:List Int) (k:Nat) (h:k<5):(sst xs k).set k ((xs.getD k 0+gcy B51 xs k)%B51)=sst xs (k+1):=by
 apply list5 (by simp[sst_len]) (sst_len _ _);intro i hi;rw[getD_set_eq _ _ _ _ (by simp[sst_len];omega),sst_get _ _ _ hi,sst_get _ _ _ hi];unfold sdig;by_cases h2:i=k
 ·subst h2;simp
 ·have h3:(i<k)↔(i<k+1):=by omega
  simp[h2,h3]
theorem sst_val (xs:List Int) (h:xs.length=5):val B51 (sst xs 5)+gcy B51 xs 5*(fp+19)=val B51 xs:=by
 have e:=gcarry_val B51 xs 5;rw[←val_eq_range B51 xs 5 h] at e;have e1:sst xs 5=(List.range 5).map fun i=>(xs.getD i 0+gcy B51 xs i)%B51:=by
  apply list5 (sst_len _ _) (by simp);intro i hi;rw[sst_get _ _ _ hi,rget5 _ _ hi];simp[sdig,hi]
 have e2:(B51:Int)^5=fp+19:=by decide
 rw[e1,←e2];exact e
def carryE (xs:List Int):List Int:=(sst xs 5).set 0 ((sst xs 5).getD 0 0+19*gcy B51 xs 5)
theorem carryE_len (xs:List Int):(carryE xs).length=5:=by simp[carryE,sst_len]
theorem carryE_val (xs:List Int) (h:xs.length=5):val B51 (carryE xs)=val B51 xs-gcy B51 xs 5*fp:=by
 unfold carryE;rw[val_set _ _ _ _ (by simp[sst_len]),←sst_val xs h];simp only[Int.pow_zero];generalize (sst xs 5).getD 0 0=y;generalize gcy B51 xs 5=c;generalize val B51 (sst xs 5)=v
 grind
def ev (xs:List Int):Int:=val B51 xs%fp
theorem ev_carryE (xs:List Int) (h:xs.length=5):ev (carryE xs)=ev xs:=by
 unfold ev;rw[carryE_val xs h];have:val B51 xs-gcy B51 xs 5*fp=val B51 xs+fp*(-(gcy B51 xs 5)):=by grind
 rw[this,Int.add_mul_emod_self_left]
def EOk (xs:List Int):Prop:=xs.length=5∧(∀ i,0≤xs.getD i 0)∧(∀ i,1≤i→xs.getD i 0<2251799813685248)∧xs.getD 0 0<2251799813685504
theorem sst_bd (xs:List Int) (i:Nat):0≤(sst xs 5).getD i 0∧(sst xs 5).getD i 0<2251799813685248:=by
 by_cases h:i<5
 ·rw[sst_get _ _ _ h];unfold sdig B51;rw[if_pos h];omega
 ·rw[getD_past (by rw[sst_len];omega)];omega
theorem carryE_ok {xs:List Int} (h0:0≤gcy B51 xs 5) (h1:gcy B51 xs 5≤13):EOk (carryE xs):=by
 have hl:0<(sst xs 5).length:=by rw[sst_len];decide
 have hb0:=sst_bd xs 0;refine⟨carryE_len _,fun i=>?_,fun i hi=>?_,?_⟩
 ·unfold carryE;rw[getD_set_eq _ _ _ _ hl];have:=sst_bd xs i;split<;>omega
 ·unfold carryE;rw[getD_set_eq _ _ _ _ hl,if_neg (by omega)];exact(sst_bd xs i).2
 ·unfold carryE;rw[getD_set_eq _ _ _ _ hl,if_pos rfl];omega
theorem gcy_nonneg {xs:List Int} (h:∀ i,0≤xs.getD i 0) (i:Nat):0≤gcy B51 xs i:=by
 induction i with
 |zero=>simp[gcy]
 |succ i ih=>have:=h i;simp only[gcy];unfold B51 at *;omega
theorem gcy_le {xs:List Int} {M C:Int} (h:∀ i,0≤xs.getD i 0∧xs.getD i 0<M) (hC:0≤C) (hM:M+C≤2251799813685248*(C+1)) (i:Nat):0≤gcy B51 xs i∧gcy B51 xs i≤C:=by
 induction i with
 |zero=>simp[gcy];omega
 |succ i ih=>have:=h i;simp only[gcy];unfold B51 at *;omega
end Go.Proofs.YtncomnkdlpoelaaGreatDoor
namespace Go.Proofs.YtncomnkdlpoelaaGreatDoor
open Go.ChangeShapes Go.WideShapes Go.ChangeAt Go.RowKit
set_option linter.unusedVariables false
def U62 (xs:List Int):Prop:=∀ i,0≤xs.getD i 0∧xs.getD i 0<9223372036854775808
structure StS (w:World) (g:Nat) (zs:List Int) (wr:World):Prop where
 row:RowW wr g 141 zs
 wr:Wr g w wr
theorem StS.set {w:World} {g:Nat} {zs:List Int} {wr:World} (h:StS w g zs wr) (k:Nat) (x:Int):StS w g (zs.set k x) ((wr.setCell ⟨g,k,none⟩ (.int .u64 x)).drew):=
 ⟨h.row.set k x,(h.wr.setCell k _).drew⟩
set_option maxHeartbeats 1000000 in
theorem settle_any (g:Nat) (xs:List Int) (w:World) (hl:xs.length=5) (hr:RowW w g 141 xs) (hx:U62 xs) :
  Calls Tryz.prog 148 #[.pointer (some ⟨g,0,none⟩)] w fun e w'=>e=.returned (.int .u64 (gcy B51 xs 5))∧StS w g (sst xs 5) w':=by
 have HC:Hid (∀ i,0≤gcy B51 xs i∧gcy B51 xs i≤4096):=fun i=>gcy_le (M:=9223372036854775808) hx (by decide) (by decide) i
 have HX:=hdI <| hx
 have HS:Hid (StS w g (sst xs 0) w):=⟨by rw[sst_zero xs hl];exact hr,Wr.refl _ _⟩
 clear hx hr;go_enter Tryz.func148,Tryz.ntmps148;go_wp2
 go_loopw [3,5] (fun c i wr=>∃ k:Nat,k≤5∧i=.int .i64 k∧c=.int .u64 (gcy B51 xs k)∧StS w g (sst xs k) wr) (fun _ i _=>5-(intOf i).toNat)
 case atStart=>exact⟨0,by decide,rfl,rfl,HS.out⟩
 case round=>
  clear HS;obtain⟨k,hk,rfl,rfl,hst⟩:=hrel;by_cases hlt:k<5
  ·have hlt':(k:Int)<5:=by omega
   obtain⟨hc0,hc1⟩:=HC.out k;obtain⟨hx0,hx1⟩:=HX.out k;have hget:(sst xs k).getD k 0=xs.getD k 0:=by rw[sst_get _ _ _ hlt];simp[sdig]
   have hlen:=sst_len xs k;have c0:=hst.row.cell k (by omega);have f0:=hst.row.frozen k;rw[hget] at c0;have s1:=hst.set k (xs.getD k 0+gcy B51 xs k);have c1:=s1.row.cell k (by rw[List.length_set];omega);have f1:=s1.row.frozen k;rw[getD_set_eq _ _ _ _ (by omega),if_pos rfl] at c1;have s2:=s1.set k ((xs.getD k 0+gcy B51 xs k)%B51);rw[List.set_set,sst_step xs k hlt] at s2;have HS2:=hdI <| s2
   have HCS:Hid (gcy B51 xs (k+1)=(xs.getD k 0+gcy B51 xs k)/2251799813685248):=rfl;have HAND:Hid (bits .and .u64 (xs.getD k 0+gcy B51 xs k) 2251799813685247=(xs.getD k 0+gcy B51 xs k)%B51):=u64_and_mask _ 51 (by omega) (by omega) _ (by decide) (by decide);clear hget hlen s1 s2 hst;generalize gcy B51 xs k=cc at *;generalize xs.getD k 0=x at *;go_wp2
   go_region
   clear c0 f0;generalize (wr.setCell ⟨g,k,none⟩ (.int .u64 (x+cc))).drew=w1 at *;go_wp2
   go_region
   rw[HAND.out];clear c1 f1;generalize (w1.setCell ⟨g,k,none⟩ (.int .u64 ((x+cc)%B51))).drew=w2 at *;go_wp2;go_roundw
   case rel=>exact⟨k+1,by omega,by go_num,by rw[HCS.out],HS2.out⟩
   case measure=>simp[intOf];omega
  ·obtain rfl:k=5:=by omega
   have HP:=hdI <| hst
   clear hst;go_wp2
   go_ret
   exact⟨rfl,HP.out⟩
set_option maxHeartbeats 400000 in
theorem carryE_any (g:Nat) (xs:List Int) (w:World) (hl:xs.length=5) (hr:RowW w g 141 xs) (hx:U62 xs) :
  Calls Tryz.prog 153 #[.pointer (some ⟨g,0,none⟩)] w fun e w'=>e=.returned (.tuple #[])∧StS w g (carryE xs) w':=by
 have hc:=gcy_le (M:=9223372036854775808) (C:=4096) hx (by decide) (by decide) 5;go_enter Tryz.func153,Tryz.ntmps153;go_wp2_with fail;refine(settle_any g xs _ hl hr hx).mono ?_;rintro e w1 ⟨rfl,st⟩;have hb:=sst_bd xs 0;have c0:=st.row.cell 0 (by rw[sst_len];decide);have f0:=st.row.frozen 0;have HS:Hid (StS w g (carryE xs) ((w1.setCell ⟨g,0,none⟩ (.int .u64 ((sst xs 5).getD 0 0+19*gcy B51 xs 5))).drew)):=st.set 0 _;clear st hr hx;generalize (sst xs 5).getD 0 0=y at *;generalize gcy B51 xs 5=c at *;obtain⟨hc0,hc1⟩:=hc;obtain⟨hb0,hb1⟩:=hb;go_wp2
 go_region
 clear c0 f0;generalize (w1.setCell ⟨g,0,none⟩ (.int .u64 (y+19*c))).drew=w2 at *;go_wp2
 go_end0
 exact⟨rfl,HS.out⟩
section
variable {P:Program} {ops:Array Oper} {Q:Exit→Act→World→Prop} {md:Region.Mode}
theorem wpAny_slotsE (M:Nat→World→World→Prop) (frame:(Nat→Value)→Act) (Ext:(Nat→Bool)→World→Prop) (Good:Nat→(Nat→Bool)→World→Value→Prop)
  (hstab:∀ j L w w' i v,M i w w'→i≠j→L i=false→Good j L w v→Good j (updK L i) w' v)
  (hguard:ops.all (fun o=>o.guard.isNone)=true)
  (hback:(List.range ops.size).all (fun i=>((ops[i]?).map (fun o=>o.after.all (fun e=>decide (e.on<i)))).getD false)=true)
  (hop:∀(i:Nat) (o:Oper) (L:Nat→Bool) (u:Nat→Value) (w:World),ops[i]?=some o→L i=false→Ext L w→(∀ e∈o.after,Region.binds md e=true→Good e.on L w (u e.on))→
   ∀ K:Act→World→Prop,(∀ w' v,Good i (updK L i) w' v→Ext (updK L i) w'→M i w w'→K (frame (upd u i v)) w')→Oper.wp P o (frame u) w K Q)
  (hdone:∀ L u w,Ext L w→(∀ i,i<ops.size→Good i L w (u i))→Q .normal (frame u) w) :
  ∀(fuel:Nat) (listed:Array Bool) (u:Nat→Value) (w:World),listed.size=ops.size→Ext (fun n=>listed.getD n false) w→(∀ i,i<ops.size→listed.getD i false=true→Good i (fun n=>listed.getD n false) w (u i))→
   (listed.toList.filter (!·)).length≤fuel→wpAny P md ops Q fuel listed (frame u) w:=by
 have hb:∀(i:Nat) (o:Oper),ops[i]?=some o→∀ e∈o.after,e.on<i:=fun i o ho e he=>by
  have hi:=(Array.getElem?_eq_some_iff.1 ho).1;have:=List.all_eq_true.1 hback i (List.mem_range.2 hi);rw[ho] at this;simp at this;obtain⟨k,hk,rfl⟩:=Array.mem_iff_getElem.1 he;exact this k hk
 have hg:∀(i:Nat) (o:Oper),ops[i]?=some o→o.guard=none:=fun i o ho=>by
  have:=Array.all_eq_true_iff_forall_mem.1 hguard o (Array.mem_of_getElem? ho);simpa using this
 have hfin:∀(listed:Array Bool) (u:Nat→Value) (w:World),listed.size=ops.size→Ext (fun n=>listed.getD n false) w→(∀ i,i<ops.size→listed.getD i false=true→Good i (fun n=>listed.getD n false) w (u i))→Region.ready md ops listed=[]→Q .normal (frame u) w:=by
  intro listed u w hs he hgd hr;refine hdone _ u w he fun i hi=>hgd i hi ?_
  have hall:∀ n i,i<n→i<ops.size→listed.getD i false=true:=by
   intro n
   induction n with
   |zero=>intro i h;omega
   |succ n ih=>
    intro i hin hi;by_cases hlt:i<n
    ·exact ih i hlt hi
    ·cases hl:listed.getD i false with
     |true=>rfl
     |false=>
      exfalso
      have hl':listed.getD i true=false:=by
       have hil:i<listed.size:=by omega
       simp[hil] at hl ⊢;exact hl
      have:i∈Region.ready md ops listed:=mem_ready.2 ⟨hi,hl',ops[i],by simp[hi],fun e hee _=>ih e.on (by have:=hb i ops[i] (by simp[hi]) e hee;omega) (by have:=hb i ops[i] (by simp[hi]) e hee;omega)⟩;rw[hr] at this;cases this
  exact hall (i+1) i (by omega) hi
 intro fuel
 induction fuel with
 |zero=>
  intro listed u w hs he hgd hc;have hr:Region.ready md ops listed=[]:=by
   apply List.eq_nil_iff_forall_not_mem.2;intro i hi;obtain⟨h1,h2,_⟩:=mem_ready.1 hi;have hil:i<listed.size:=by omega
   have h3:listed[i]=false:=by simpa[hil] using h2
   have:listed[i]∈listed.toList.filter (!·):=by
    rw[List.mem_filter];exact⟨by simp,by rw[h3];rfl⟩
   have:=List.length_pos_of_mem this;omega
  exact⟨hr,hfin listed u w hs he hgd hr⟩
 |succ fuel ih=>
  intro listed u w hs he hgd hc;refine⟨fun hr=>hfin listed u w hs he hgd hr,fun i hi=>?_⟩;obtain⟨h1,h2,o,ho,h3⟩:=mem_ready.1 hi;refine wpOp_step ho fun K hK=>?_
  have hw:Region.wanted o (yielded ops (frame u).tmps)=true:=by simp[Region.wanted,hg i o ho]
  rw[if_pos hw];have hil:i<listed.size:=by omega
  have hnl:listed.getD i false=false:=by simp[hil] at h2 ⊢;exact h2
  have hupd:(fun n=>(listed.setIfInBounds i true).getD n false)=updK (fun n=>listed.getD n false) i:=by
   funext n;rw[getD_set listed i n hil];rfl
  refine hop i o (fun n=>listed.getD n false) u w ho hnl he (fun e hee hbd=>hgd e.on (by have:=hb i o ho e hee;omega) (h3 e hee hbd)) K fun w' v hgv hext hm=>hK _ _ ?_
  refine ih _ _ w' (by simpa using hs) (by rw[hupd];exact hext) (fun j hj hlj=>?_) ?_
  ·rw[getD_set listed i j hil] at hlj;unfold upd;by_cases hji:j=i
   ·subst hji;rw[hupd];simpa using hgv
   ·rw[if_neg hji] at hlj;rw[if_neg hji,hupd];exact hstab j _ w w' i _ hm (Ne.symm hji) hnl (hgd j hj hlj)
  ·have:listed.toList[i]?=some false:=by simp[hil] at h2;simp[hil,h2]
   have:=count_set listed.toList i this;rw[Array.toList_setIfInBounds];omega
end
end Go.Proofs.YtncomnkdlpoelaaGreatDoor
namespace Go.Proofs.YtncomnkdlpoelaaGreatDoor
set_option linter.unusedVariables false
def U62' (xs:List Int):Prop:=∀ i,0≤xs.getD i 0∧xs.getD i 0<9223372036854775808
/-! Products of elements. -/
def loE (a b:List Int) (i:Nat):Int:=cs a b i (i+1)
def hiE (a b:List Int) (i:Nat):Int:=cs a b (5+i) 5
def tl (a b:List Int):List Int:=(List.range 5).map fun i=>loE a b i+19*hiE a b i
theorem tl_len (a b:List Int):(tl a b).length=5:=by simp[tl]
theorem tl_get (a b:List Int) (i:Nat) (h:i<5):(tl a b).getD i 0=loE a b i+19*hiE a b i:=rget5 _ i h
theorem cs_past5 {a b:List Int} (ha:a.length=5) (s:Nat) (d:Nat):cs a b s (5+d)=cs a b s 5:=by
 induction d with
 |zero=>rfl
 |succ d ih=>rw[←Nat.add_assoc,cs,ih,getD_past (xs:=a) (by omega)];omega
theorem cs_zero5 {b:List Int} (a:List Int) (hb:b.length=5) (i n:Nat) (h:n≤i+1):cs a b (5+i) n=0:=by
 induction n with
 |zero=>rfl
 |succ n ih=>rw[cs,ih (by omega),getD_past (xs:=b) (by omega)];omega
theorem tl_val (a b:List Int) (ha:a.length=5) (hb:b.length=5):∃ H,val B51 (tl a b)=val B51 a*val B51 b-H*fp:=by
 have e1:=val_pad B51 (mulP a b) (5+5) (by have:=mulP_len a b;omega);rw[val_split,val_mulP] at e1;refine⟨val B51 ((List.range 5).map fun i=>(mulP a b).getD (5+i) 0),?_⟩;have e2:tl a b=(List.range 5).map fun i=>(mulP a b).getD i 0+19*(mulP a b).getD (5+i) 0:=by
  unfold tl loE hiE
  congr 1;funext i
  rw[mulP_get,mulP_get,show 5+i+1=5+(1+i) by omega,cs_past5 ha]
 rw[e2,val_lin B51 (fun i=>(mulP a b).getD i 0) (fun i=>(mulP a b).getD (5+i) 0) 5 19,←e1];have:(B51:Int)^5=fp+19:=by decide
 rw[this];generalize val B51 (List.map (fun i=>(mulP a b).getD i 0) (List.range 5))=p;generalize val B51 (List.map (fun i=>(mulP a b).getD (5+i) 0) (List.range 5))=q
 grind
theorem ev_tl (a b:List Int) (ha:a.length=5) (hb:b.length=5):ev (tl a b)=ev a*ev b%fp:=by
 obtain⟨H,e⟩:=tl_val a b ha hb;unfold ev;rw[e,←Int.mul_emod];have:val B51 a*val B51 b-H*fp=val B51 a*val B51 b+fp*(-H):=by grind
 rw[this,Int.add_mul_emod_self_left]
theorem EOk.bd {a:List Int} (h:EOk a):Bd 2251799813685504 a∧∀ i,0≤a.getD i 0:=by
 refine⟨fun i=>?_,h.2.1⟩;have h0:=h.2.1 i;rcases Nat.eq_zero_or_pos i with rfl|hi
 ·have:=h.2.2.2;omega
 ·have:=h.2.2.1 i hi;omega
theorem cs_nonneg {a b:List Int} (ha:∀ i,0≤a.getD i 0) (hb:∀ i,0≤b.getD i 0) (s n:Nat):0≤cs a b s n:=by
 induction n with
 |zero=>exact Int.le_refl 0
 |succ n ih=>rw[cs];have:=Int.mul_nonneg (ha n) (hb (s-n));omega
theorem tl_bd {a b:List Int} (ha:EOk a) (hb:EOk b):(∀ s n,n≤5→0≤cs a b s n∧cs a b s n≤40564819207303340847894502572032)∧(∀ i,0≤(tl a b).getD i 0∧(tl a b).getD i 0≤811296384146066816957890051440640)∧(∀ i,0≤gcy B51 (tl a b) i∧gcy B51 (tl a b) i≤1152921504606846976)∧gcy B51 (tl a b) 5≤36028797018963968:=by
 have h1:∀ s n,n≤5→0≤cs a b s n∧cs a b s n≤40564819207303340847894502572032:=fun s n hn=>by
  have h:=(cs_bd ha.bd.1 hb.bd.1 (by decide) s n).2;have h0:=cs_nonneg ha.2.1 hb.2.1 s n;refine⟨h0,?_⟩;have hn':(n:Int)≤5:=by omega
  have:=Int.mul_le_mul_of_nonneg_right hn' (show(0:Int)≤2251799813685504*2251799813685504 by decide);have e:(5:Int)*(2251799813685504*2251799813685504)≤40564819207303340847894502572032:=by decide
  omega
 have h2:∀ i,0≤(tl a b).getD i 0∧(tl a b).getD i 0≤811296384146066816957890051440640:=fun i=>by
  by_cases h:i<5
  ·rw[tl_get _ _ _ h];unfold loE hiE;have p:=h1 i (i+1) (by omega);have q:=h1 (5+i) 5 (by omega);omega
  ·rw[getD_past (by rw[tl_len];omega)];omega
 have h3:∀ i,0≤gcy B51 (tl a b) i∧gcy B51 (tl a b) i≤1152921504606846976:=fun i=>gcy_le (M:=811296384146066816957890051440641) (C:=1152921504606846976) (fun i=>by have:=h2 i;omega) (by decide) (by decide) i
 refine⟨h1,h2,h3,?_⟩;have h4:(tl a b).getD 4 0≤40564819207303340847894502572032:=by
  rw[tl_get _ _ _ (by decide)];have:hiE a b 4=0:=cs_zero5 a hb.1 4 5 (by decide);rw[this];unfold loE;have:=h1 4 (4+1) (by decide);omega
 have h5:=h3 4;show((tl a b).getD 4 0+gcy B51 (tl a b) 4)/B51≤_
 unfold B51 at *;omega
theorem times_ok {a b:List Int} (ha:EOk a) (hb:EOk b):U62' (carryE (tl a b))∧EOk (carryE (carryE (tl a b)))∧ev (carryE (carryE (tl a b)))=ev a*ev b%fp:=by
 obtain⟨h1,h2,h3,h4⟩:=tl_bd ha hb;have g5:=h3 5;have hb1:∀ i,0≤(carryE (tl a b)).getD i 0∧(carryE (tl a b)).getD i 0<1152921504606846976∧(1≤i→(carryE (tl a b)).getD i 0<2251799813685248):=fun i=>by
  unfold carryE;have s:=sst_bd (tl a b) i;have s0:=sst_bd (tl a b) 0;rw[getD_set_eq _ _ _ _ (by rw[sst_len];decide)];split<;>omega
 refine⟨fun i=>by have:=hb1 i;omega,carryE_ok ?_ ?_,?_⟩
 ·exact gcy_nonneg (fun i=>(hb1 i).1) 5
 ·have c1:=(hb1 0);have c2:=(hb1 1);have c3:=hb1 2;have c4:=hb1 3;have c5:=hb1 4;simp only[gcy];unfold B51;omega
 ·rw[ev_carryE _ (carryE_len _),ev_carryE _ (tl_len _ _),ev_tl _ _ ha.1 hb.1]
end Go.Proofs.YtncomnkdlpoelaaGreatDoor
namespace Go.Proofs.YtncomnkdlpoelaaGreatDoor
open Go.ChangeShapes Go.WideShapes Go.ChangeAt Go.RowKit
set_option linter.unusedVariables false
theorem ktI:KT .i64 2 23 8:=⟨by kernel_rfl,Tryz.underlying23,by decide,by decide⟩
abbrev OwnI:=OwnK .i64 2
def FeR (w:World) (zs:List Int) (e:Ending) (w':World):Prop:=
 ∃ g c,e=.returned (.slice (some ⟨g,0,none⟩) 16 c)∧OwnI w' w.heap.size (.slice (some ⟨g,0,none⟩) 16 c) zs∧Below w.heap.size w w'
structure CarS (w:World) (g c:Nat) (zs:List Int) (wr:World):Prop where
 own:OwnI wr w.heap.size (.slice (some ⟨g,0,none⟩) 16 c) zs
 below:Below w.heap.size w wr
set_option maxHeartbeats 1000000 in
theorem carry_any (a:Option Addr) (cap:Nat) (xs:List Int) (w:World) (hx:xs.length=16) (ha:At .i64 w a xs) (M C:Int) (hM:Bd M xs) (hM0:0≤M) (hM1:M≤4611686018427387904) (hC:M≤65535*C) (hC1:C≤140737488355328) :
  Calls Tryz.prog 80 #[.slice a 16 cap] w (FeR w (carryL xs)):=by
 obtain⟨b0,off,rfl,hb0,hc⟩:=ha.get (by omega);have HN:Hid (∀ i,i<16→(w.alloc (.cells #[] 2)).cell? ((⟨b0,off,none⟩:Addr).add i)=some (.int .i64 (xs.getD i 0))):=fun i hi=>by
  rw[Addr.add_lit,((Below.refl w.heap.size w).alloc (Nat.le_refl _) (.cells #[] 2)).cell (p:=⟨b0,off+i,none⟩) hb0];exact hc i (by omega)
 have HX:=hdI <| hx
 have HBD:=hdI <| cy_bd hM hC hM0
 have HM:=hdI <| hM
 clear hc ha hx hM;go_enter Tryz.func80,Tryz.ntmps80;go_wp2_with (at_builtin;refine wpList_appK _ ktI rfl _ _ rfl w.heap.size _ [] rfl (OwnK.empty _ _ (Nat.le_refl _)) ⟨b0,off,none⟩ 16 _ xs rfl HX.out HN.out ?c2 ?c3 ?_)
 case c2=>decide
 case c3=>simp
 intro v' w1 hown' hbel' _;have hB1:=((Below.refl _ _).alloc (Nat.le_refl _) _).trans hbel';obtain⟨g,c,rfl,hg,hg',_⟩:=hown'.at_;rw[HX.out] at hown' ⊢;have HS:Hid (CarS w g c (cst xs 0) w1):=⟨by rw[cst_zero xs HX.out];exact hown',hB1⟩
 clear hown' hB1 hbel' HN;go_wp2
 go_loopw [4] (fun i wr=>∃ k:Nat,k≤16∧i=.int .i64 k∧((k<16∧CarS w g c (cst xs k) wr)∨(k=16∧CarS w g c (carryL xs) wr))) (fun i _=>16-(intOf i).toNat)
 case atStart=>exact⟨0,by decide,rfl,.inl ⟨by decide,HS.out⟩⟩
 case round=>
  clear HS;obtain⟨k,hk,rfl,hst⟩:=hrel;by_cases hlt:k<16
  ·have hst':CarS w g c (cst xs k) wr:=by
    rcases hst with⟨_,h⟩|⟨h,_⟩
    ·exact h
    ·omega
   obtain⟨hown,hbel⟩:=hst';clear hst;obtain⟨hcl,hch⟩:=HBD.out k;obtain⟨hcl',hch'⟩:=HBD.out (k+1);obtain⟨hml,hmh⟩:=HM.out k;obtain⟨hml',hmh'⟩:=HM.out (k+1);have hcs:cy xs (k+1)=(xs.getD k 0+cy xs k)/65536:=rfl;have hget:(cst xs k).getD k 0=xs.getD k 0+cy xs k:=by rw[cst_get _ _ _ hlt];unfold cdig;simp
   obtain⟨c0,f0,o0⟩:=OwnK.set (cst_len xs k) hown k ((xs.getD k 0+cy xs k)%65536) hlt;rw[hget] at c0;by_cases hk15:k<15
   ·have hget2:((cst xs k).set k ((xs.getD k 0+cy xs k)%65536)).getD (k+1) 0=xs.getD (k+1) 0:=by
     rw[getD_set_eq _ _ _ _ (by rw[cst_len];omega),if_neg (by omega),cst_get _ _ _ (by omega)];unfold cdig;rw[if_neg (by omega),if_neg (by omega)]
    obtain⟨c1,f1,o1⟩:=OwnK.set (by rw[List.length_set,cst_len]) o0 (k+1) (xs.getD (k+1) 0+cy xs (k+1)) (by omega);rw[hget2] at c1;rw[cst_step xs k hk15] at o1;have HO:Hid (CarS w g c (cst xs (k+1)) ((wr.setCell ⟨g,k,none⟩ (.int .i64 ((xs.getD k 0+cy xs k)%65536))).setCell ⟨g,k+1,none⟩ (.int .i64 (xs.getD (k+1) 0+cy xs (k+1))))):=⟨o1,(hbel.setCell hg _).setCell hg _⟩
    have HCS:=hdI <| hcs
    clear o0 o1 hget hget2 hown hbel hcs;generalize cy xs (k+1)=c' at *;generalize cy xs k=cc at *;generalize xs.getD k 0=x at *;generalize xs.getD (k+1) 0=x' at *;have hq0:x+cc-(x+cc)/65536*65536=(x+cc)%65536:=by omega
    have hlt':(k:Int)<15:=by omega
    have hcs2:=HCS.out;clear HCS;subst hcs2;go_wp2;exact⟨⟨k+1,by omega,by go_num,.inl ⟨by omega,HO.out⟩⟩,by simp[intOf];omega⟩
   ·have hke:k=15:=by omega
    have hget0:0≤((cst xs 15).set 15 ((xs.getD 15 0+cy xs 15)%65536)).getD 0 0∧((cst xs 15).set 15 ((xs.getD 15 0+cy xs 15)%65536)).getD 0 0<65536:=by
     rw[getD_set_eq _ _ _ _ (by rw[cst_len];decide),if_neg (by decide),cst_get _ _ _ (by decide)];unfold cdig;rw[if_pos (by decide)];omega
    obtain⟨c1,f1,o1⟩:=OwnK.set (by rw[List.length_set,cst_len]) o0 0 (((cst xs k).set k ((xs.getD k 0+cy xs k)%65536)).getD 0 0+38*cy xs (k+1)) (by decide);have hl:=cst_last xs;have e16:cy xs 16=cy xs (k+1):=by rw[hke]
    rw[e16] at hl;have HK:=hdI <| hke
    rw[←hke] at hl hget0;rw[hl] at o1;have HO:Hid (CarS w g c (carryL xs) ((wr.setCell ⟨g,k,none⟩ (.int .i64 ((xs.getD k 0+cy xs k)%65536))).setCell ⟨g,0,none⟩ (.int .i64 (((cst xs k).set k ((xs.getD k 0+cy xs k)%65536)).getD 0 0+38*cy xs (k+1))))):=⟨o1,(hbel.setCell hg _).setCell hg _⟩
    have HCS:=hdI <| hcs
    clear o0 o1 hget hown hbel hcs hl e16 hke;generalize ((cst xs k).set k ((xs.getD k 0+cy xs k)%65536)).getD 0 0=y at *;generalize cy xs (k+1)=c' at *;generalize cy xs k=cc at *;generalize xs.getD k 0=x at *;obtain⟨hy0,hy1⟩:=hget0;have hq0:x+cc-(x+cc)/65536*65536=(x+cc)%65536:=by omega
    have hlt':¬ (k:Int)<15:=by omega
    have hcs2:=HCS.out;clear HCS;subst hcs2;go_wp2;exact⟨⟨k+1,by omega,by go_num,.inr ⟨by have:=HK.out;omega,HO.out⟩⟩,by simp[intOf];omega⟩
  ·have hst':CarS w g c (carryL xs) wr:=by
    rcases hst with⟨_,h⟩|⟨_,h⟩
    ·omega
    ·exact h
   have HP:Hid (FeR w (carryL xs) (.returned (.slice (some ⟨g,0,none⟩) 16 c)) wr):=⟨g,c,rfl,hst'.own,hst'.below⟩
   clear hst hst';go_wp2
   go_ret
   exact HP.out
theorem dN_dN (w:World) (m n:Nat):(w.drewN m).drewN n=w.drewN (m+n):=by
 simp[World.drewN,Nat.add_assoc]
def FeA (w:World) (a:Option Addr) (x:Int):Prop:=∃ zs,At .i64 w a zs∧R zs∧fv zs=x
def FeP (w:World) (x:Int) (e:Ending) (w':World):Prop:=
 ∃ g c,e=.returned (.slice (some ⟨g,0,none⟩) 16 c)∧w.heap.size≤g∧g<w'.heap.size∧FeA w' (some ⟨g,0,none⟩) x∧Below w.heap.size w w'
theorem FeA.below {w w':World} {a:Option Addr} {x:Int} (h:FeA w a x) (hb:Below w.heap.size w w'):FeA w' a x:=by
 obtain⟨zs,h1,h2⟩:=h;exact⟨zs,h1.below hb,h2⟩
theorem FeR.fe {w:World} {zs:List Int} {x:Int} {e:Ending} {w':World} (h:FeR w zs e w') (hR:R zs) (hv:fv zs=x):FeP w x e w':=by
 obtain⟨g,c,he,ho,hb⟩:=h;obtain⟨hA,h1,h2⟩:=ho.atS;exact⟨g,c,he,h1,h2,⟨zs,hA,hR,hv⟩,hb⟩
set_option maxHeartbeats 400000 in
theorem small_any (x:Int) (w:World) (h0:-1048576≤x) (h1:x≤1048576):Calls Tryz.prog 59 #[.int .i64 x] w (FeP w (x%fp)):=by
 obtain⟨t1,t2,t3⟩:=two_R (xs:=smallL x) rfl (smallL_bd (M:=1048576) ⟨h0,h1⟩) (by decide) (by decide);have HT:Hid (R (carryL (carryL (smallL x)))∧fv (carryL (carryL (smallL x)))=x%fp):=⟨t1,by rw[t2];unfold fv;rw[smallL_val]⟩
 have HB2:=hdI <| t3
 have HS:Hid (OwnI (w.alloc (.cells #[.int .i64 x] 2)) w.heap.size (.slice (some ⟨w.heap.size,0,none⟩) 1 1) (x::List.replicate 0 0)):=OwnK.lit w _ [x] (Nat.le_refl _) (by simp);clear t1 t2 t3;go_enter Tryz.func59,Tryz.ntmps59;go_wp2
 go_loopw [3,4] (fun v i wr=>∃ k:Nat,k≤15∧i=.int .i64 ((k:Int)+1)∧OwnI wr w.heap.size v (x::List.replicate k 0)∧Below w.heap.size w wr) (fun _ i _=>16-(intOf i).toNat)
 case atStart=>exact⟨0,by decide,rfl,HS.out,(Below.refl _ _).alloc (Nat.le_refl _) _⟩
 case round=>
  clear HS;obtain⟨k,hk,rfl,hown,hbel⟩:=hrel;by_cases hlt:k<15
  ·have hsz:=hbel.size;have hlt':(k:Int)+1<16:=by omega
   go_wp2_with (at_builtin;refine wpList_appK _ ktI rfl _ _ rfl w.heap.size _ _ rfl (hown.alloc _) ⟨wr.heap.size,0,none⟩ 1 1 [0] rfl rfl ?c1 ?c2 ?c3 ?_);all_goals first|(intro j hj;obtain rfl:j=0:=by omega
                                                                                                                                                                          simp[Addr.add];done)|skip
   case c2=>simp;omega
   case c3=>first|omega|(rw[World.size_alloc];omega)
   intro v' w1 hown' hbel' _;have HO:Hid (OwnI w1 w.heap.size v' (x::List.replicate (k+1) 0)):=by rw[List.replicate_succ'];exact hown'
   have HB:=hdI <| (hbel.alloc (by omega) _).trans hbel'
   clear hown hown' hbel hbel';go_wp2;go_roundw
   case rel=>exact⟨k+1,by omega,by go_num,HO.out,HB.out⟩
   case measure=>simp[intOf];omega
  ·have hk15:k=15:=by omega
   have ho:OwnI wr w.heap.size u3 (smallL x):=by rw[hk15] at hown;exact hown
   obtain⟨g,c,rfl,hg,hg',hA⟩:=ho.at_;have hl:(smallL x).length=16:=rfl;rw[hl];clear ho hown;have hlt':¬ (k:Int)+1<16:=by omega
   go_wp2_with fail;refine(carry_any _ c (smallL x) _ rfl hA 1048576 17 (smallL_bd ⟨h0,h1⟩) (by decide) (by decide) (by decide) (by decide)).mono ?_;rintro e w1 ⟨g1,c1,rfl,o1,b1⟩;obtain⟨hA1,_,_⟩:=o1.atS;have s1:=b1.size;have hB1:Below w.heap.size w w1:=hbel.trans (b1.mono hbel.size);clear hA o1 b1 hbel hk15;go_wp2_with fail;refine(carry_any _ c1 (carryL (smallL x)) _ (carryL_len _) hA1 20401160191 311304 HB2.out (by decide) (by decide) (by decide) (by decide)).mono ?_;rintro e w2 h2;have HP:Hid (FeP w (x%fp) e w2):=by
    obtain⟨g2,c2,rfl,p1,p2,p3,p4⟩:=h2.fe HT.out.1 HT.out.2;exact⟨g2,c2,rfl,by have:=hB1.size;omega,p2,p3,hB1.trans (p4.mono hB1.size)⟩
   obtain⟨g2,c2,rfl,_⟩:=h2;clear hA1 hB1;go_wp2
   go_ret
   exact HP.out
set_option maxHeartbeats 1000000 in
theorem fmul_any (a a':Option Addr) (cap cap':Nat) (x y:Int) (w:World) (ha:FeA w a x) (ha':FeA w a' y) :
  Calls Tryz.prog 57 #[.slice a 16 cap,.slice a' 16 cap'] w (FeP w (x*y%fp)):=by
 obtain⟨xs,hA,hR,rfl⟩:=ha;obtain⟨ys,hA',hR',rfl⟩:=ha';obtain⟨b0,off,rfl,hb0,hc⟩:=hA.get (by have:=hR.1;omega);obtain⟨b1,off',rfl,hb1,hc'⟩:=hA'.get (by have:=hR'.1;omega);obtain⟨t1,t2,t3⟩:=two_R (mulL_len xs ys) (mulL_bd hR hR') (by decide) (by decide);have HT:Hid (R (carryL (carryL (mulL xs ys)))∧fv (carryL (carryL (mulL xs ys)))=fv xs*fv ys%fp):=⟨t1,by rw[t2,fv_mulL _ _ hR.1 hR'.1]⟩
 have HB2:=hdI <| t3
 have HB1:=hdI <| mulL_bd hR hR'
 have HC:Hid (∀ i,i<16→w.cell? ⟨b0,off+i,none⟩=some (.int .i64 (xs.getD i 0))):=fun i hi=>hc i (by have:=hR.1;omega)
 have HC':Hid (∀ i,i<16→w.cell? ⟨b1,off'+i,none⟩=some (.int .i64 (ys.getD i 0))):=fun i hi=>hc' i (by have:=hR'.1;omega)
 have HS:Hid (∀ s n:Nat,n≤16→-69063840000≤cs xs ys s n∧cs xs ys s n≤69063840000):=fun s n hn=>by
  have:=cs_bd hR.2 hR'.2 (by decide) s n;omega
 have HR:Hid (R xs∧R ys):=⟨hR,hR'⟩
 clear t1 t2 t3 hc hc' hA hA' hR hR';go_enter Tryz.func57,Tryz.ntmps57;go_wp2
 go_loopw [5,6] (fun v i wr=>∃ k:Nat,k≤16∧i=.int .i64 k∧OwnI wr w.heap.size v ((mulL xs ys).take k)∧Below w.heap.size w wr) (fun _ i _=>16-(intOf i).toNat)
 case atStart=>exact⟨0,by decide,rfl,OwnK.empty _ _ (Nat.le_refl _),(Below.refl _ _).alloc (Nat.le_refl _) _⟩
 case round=>
  obtain⟨k,hk,rfl,hown,hbel⟩:=hrel;by_cases hlt:k<16
  ·have hlt':(k:Int)<16:=by omega
   have HO:=hdI <| hown
   have HBE:=hdI <| hbel
   clear hown hbel;obtain⟨w5,hw5⟩:∃ x,x=wr:=⟨_,rfl⟩
   subst hw5;go_wp2
   go_loopw [7,9] (fun l i wq=>∃(n q:Nat),n≤k+1∧i=.int .i64 n∧l=.int .i64 (cs xs ys k n)∧wq=w5.drewN q) (fun _ i _=>17-(intOf i).toNat)
   case atStart=>exact⟨0,0,Nat.zero_le _,rfl,rfl,rfl⟩
   case round=>
    obtain⟨n,q,hn,rfl,rfl,rfl⟩:=hrel;by_cases hnk:n≤k
    ·have hnk':(n:Int)≤(k:Int):=by omega
     have hx:=(HR.out.1).2 n;have hy:=(HR.out.2).2 (k-n);have c0:w5.cell? ⟨b0,off+n,none⟩=some (.int .i64 (xs.getD n 0)):=by
      rw[HBE.out.cell (p:=⟨b0,off+n,none⟩) hb0];exact HC.out n (by omega)
     have c1:w5.cell? ⟨b1,off'+(k-n),none⟩=some (.int .i64 (ys.getD (k-n) 0)):=by
      rw[HBE.out.cell (p:=⟨b1,off'+(k-n),none⟩) hb1];exact HC'.out (k-n) (by omega)
     have hsn:=HS.out k n (by omega);have hsn1:=HS.out k (n+1) (by omega);have hcs:cs xs ys k (n+1)=cs xs ys k n+xs.getD n 0*ys.getD (k-n) 0:=rfl;obtain⟨pr,hpr⟩:∃ pr,pr=xs.getD n 0*ys.getD (k-n) 0:=⟨_,rfl⟩
     rw[←hpr] at hcs;have hw1:wrap64 (xs.getD n 0*ys.getD (k-n) 0)=pr:=by rw[←hpr];unfold wrap64;omega
     have hsub:((k:Int)-(n:Int))=((k-n:Nat):Int):=by omega
     have hkn16:((k-n:Nat):Int)<16:=by omega
     have hn16:(n:Int)<16:=by omega
     rw[hcs] at hsn1;have HCS:=hdI <| hcs
     clear hcs hpr hlt';generalize xs.getD n 0=x at *;generalize ys.getD (k-n) 0=y at *;generalize cs xs ys k n=S at *;obtain⟨s0,s1⟩:=hsn;obtain⟨s2,s3⟩:=hsn1;obtain⟨x0,x1⟩:=hx;obtain⟨y0,y1⟩:=hy;go_wp2
     go_quiet (fail)
     rw[dN_dN];clear c0 c1 hw1 hsub hkn16 x0 x1 y0 y1;go_wp2;go_roundw
     case rel=>exact⟨n+1,q+nq,by omega,by go_num,by rw[HCS.out],rfl⟩
     case measure=>simp[intOf];omega
    ·have hnk':¬ (n:Int)≤(k:Int):=by omega
     obtain rfl:n=k+1:=by omega
     have HL:Hid (cs xs ys k (k+1)=loS xs ys k):=rfl;rw[HL.out];have HLB:Hid (-69063840000≤loS xs ys k∧loS xs ys k≤69063840000):=HS.out k (k+1) (by omega);generalize hlo:loS xs ys k=lo at *;have HLO:Hid (loS xs ys k=lo):=hlo;clear hlo HL;have O5:OwnI (w5.drewN q) w.heap.size u5 ((mulL xs ys).take k):=HO.out;have B5:Below w.heap.size w (w5.drewN q):=⟨HBE.out.os,HBE.out.tape,HBE.out.output,HBE.out.size,HBE.out.block⟩
     have HO6:Hid (OwnI (w5.drewN q) w.heap.size u5 ((mulL xs ys).take k)):=O5;have HBE6:Hid (Below w.heap.size w (w5.drewN q)):=B5;clear HO HBE O5 B5;generalize w5.drewN q=w6 at *;have hk1:((k+1:Nat):Int)=(k:Int)+1:=by omega
     rw[hk1];clear hk1;go_wp2
     go_loopw [8,10] (fun l i wq=>∃(n q:Nat),k+1≤n∧n≤16∧i=.int .i64 n∧l=.int .i64 (cs xs ys (16+k) n)∧wq=w6.drewN q) (fun _ i _=>16-(intOf i).toNat)
     case atStart=>exact⟨k+1,0,Nat.le_refl _,by omega,by go_num,by rw[cs_zero_from HR.out.2.1 k (k+1) (Nat.le_refl _)],rfl⟩
     case round=>
      obtain⟨n,q,hnl,hnh,rfl,rfl,rfl⟩:=hrel;by_cases hn16:n<16
      ·have hx:=(HR.out.1).2 n;have hy:=(HR.out.2).2 (16+k-n);have c0:w6.cell? ⟨b0,off+n,none⟩=some (.int .i64 (xs.getD n 0)):=by
        rw[HBE6.out.cell (p:=⟨b0,off+n,none⟩) hb0];exact HC.out n (by omega)
       have c1:w6.cell? ⟨b1,off'+(16+k-n),none⟩=some (.int .i64 (ys.getD (16+k-n) 0)):=by
        rw[HBE6.out.cell (p:=⟨b1,off'+(16+k-n),none⟩) hb1];exact HC'.out (16+k-n) (by omega)
       have hsn:=HS.out (16+k) n (by omega);have hsn1:=HS.out (16+k) (n+1) (by omega);have hcs:cs xs ys (16+k) (n+1)=cs xs ys (16+k) n+xs.getD n 0*ys.getD (16+k-n) 0:=rfl;obtain⟨pr,hpr⟩:∃ pr,pr=xs.getD n 0*ys.getD (16+k-n) 0:=⟨_,rfl⟩
       rw[←hpr] at hcs;have hw1:wrap64 (xs.getD n 0*ys.getD (16+k-n) 0)=pr:=by rw[←hpr];unfold wrap64;omega
       have hsub:(16+(k:Int)-(n:Int))=((16+k-n:Nat):Int):=by omega
       have hkn16:((16+k-n:Nat):Int)<16:=by omega
       have hn16':(n:Int)<16:=by omega
       rw[hcs] at hsn1;have HCS:Hid (cs xs ys (16+k) (n+1)=cs xs ys (16+k) n+pr):=hcs;clear hcs hpr hlt';generalize xs.getD n 0=x at *;generalize ys.getD (16+k-n) 0=y at *;generalize cs xs ys (16+k) n=S at *;obtain⟨s0,s1⟩:=hsn;obtain⟨s2,s3⟩:=hsn1;obtain⟨x0,x1⟩:=hx;obtain⟨y0,y1⟩:=hy;go_wp2
       go_quiet (fail)
       rw[dN_dN];clear c0 c1 hw1 hsub hkn16 x0 x1 y0 y1;go_wp2;go_roundw
       case rel=>exact⟨n+1,q+nq,by omega,by omega,by go_num,by rw[HCS.out],rfl⟩
       case measure=>simp[intOf];omega
      ·obtain rfl:n=16:=by omega
       rw[←hiS_eq HR.out.1.1 k,show((16:Nat):Int)=16 from rfl];have HHB:Hid (-69063840000≤hiS xs ys k∧hiS xs ys k≤69063840000):=by
        rw[hiS_eq HR.out.1.1 k];exact HS.out (16+k) 16 (by omega)
       have HTK:Hid ((mulL xs ys).take (k+1)=(mulL xs ys).take k++[lo+38*hiS xs ys k]):=by
        show _=_
        have e:(mulL xs ys).getD k 0=lo+38*hiS xs ys k:=by rw[←HLO.out];exact rget _ k hlt
        rw[←e,List.take_succ_eq_append_getElem (by rw[mulL_len];exact hlt),List.getD_eq_getElem?_getD,List.getElem?_eq_getElem (by rw[mulL_len];exact hlt)];rfl
       have HTL:Hid (((mulL xs ys).take k).length=k):=by show _=_;rw[List.length_take,mulL_len];omega
       have O7:OwnI (w6.drewN q) w.heap.size u5 ((mulL xs ys).take k):=HO6.out;have B7:Below w.heap.size w (w6.drewN q):=⟨HBE6.out.os,HBE6.out.tape,HBE6.out.output,HBE6.out.size,HBE6.out.block⟩
       clear HO6 HBE6;generalize w6.drewN q=w7 at *;generalize hiS xs ys k=hi at *;obtain⟨l0,l1⟩:=HLB.out;obtain⟨h0,h1⟩:=HHB.out;have hsz:=B7.size;go_wp2_with (at_builtin;refine wpList_appK _ ktI rfl _ _ rfl w.heap.size _ _ rfl (O7.alloc _) ⟨w7.heap.size,0,none⟩ 1 1 [lo+38*hi] rfl rfl ?c1 ?c2 ?c3 ?_);all_goals first|(intro j hj;obtain rfl:j=0:=by omega
                                                                                                                                                                                                                                                                                                                               simp[Addr.add];done)|skip
       case c2=>rw[HTL.out];omega
       case c3=>first|omega|(rw[World.size_alloc];omega)
       intro v' w8 hown' hbel' _;have HO8:Hid (OwnI w8 w.heap.size v' ((mulL xs ys).take (k+1))):=by rw[HTK.out];exact hown'
       have HB8:=hdI <| (B7.alloc (by omega) _).trans hbel'
       clear hown' hbel' O7 B7;go_wp2;go_roundw
       case rel=>exact⟨k+1,by omega,by go_num,HO8.out,HB8.out⟩
       case measure=>simp[intOf];omega
  ·have hk16:k=16:=by omega
   have ho:OwnI wr w.heap.size u5 (mulL xs ys):=by rw[hk16,List.take_of_length_le (by rw[mulL_len];decide)] at hown;exact hown
   obtain⟨g,c,rfl,hg,hg',hA⟩:=ho.at_;rw[mulL_len];clear ho hown;have hlt':¬ (k:Int)<16:=by omega
   go_wp2_with fail;refine(carry_any _ c (mulL xs ys) _ (mulL_len _ _) hA 17592186044416 536870912 HB1.out (by decide) (by decide) (by decide) (by decide)).mono ?_;rintro e w1 ⟨g1,c1,rfl,o1,b1'⟩;obtain⟨hA1,_,_⟩:=o1.atS;have hB1:=hbel.trans (b1'.mono hbel.size);clear hA o1 b1' hbel hk16;go_wp2_with fail;refine(carry_any _ c1 (carryL (mulL xs ys)) _ (carryL_len _) hA1 20401160191 311304 HB2.out (by decide) (by decide) (by decide) (by decide)).mono ?_;rintro e w2 h2;have HP:Hid (FeP w (fv xs*fv ys%fp) e w2):=by
    obtain⟨g2,c2,rfl,p1,p2,p3,p4⟩:=h2.fe HT.out.1 HT.out.2;exact⟨g2,c2,rfl,by have:=hB1.size;omega,p2,p3,hB1.trans (p4.mono hB1.size)⟩
   obtain⟨g2,c2,rfl,_⟩:=h2;clear hA1 hB1;go_wp2
   go_ret
   exact HP.out
end Go.Proofs.YtncomnkdlpoelaaGreatDoor
namespace Go.Proofs.YtncomnkdlpoelaaGreatDoor
set_option linter.unusedVariables false
theorem least_dig {xs:List Int} (h:R xs):∀ i,0≤(carryL (carryL xs)).getD i 0∧(carryL (carryL xs)).getD i 0<65536:=by
 have hc:=cy_bd (C:=2) h.2 (by decide) (by decide) 16;obtain⟨b1,b2⟩:=carry_bd (xs:=xs) (by decide) hc;have h0:=carryL_get xs 0 (by decide);rw[if_pos rfl] at h0;have h0':-76≤(carryL xs).getD 0 0∧(carryL xs).getD 0 0≤65611:=by rw[h0];omega
 clear h0 hc;have h0:=h0';generalize hy:carryL xs=ys at *;have hch:∀ i,(-1≤cy ys (i+1)∧cy ys (i+1)≤1)∧(cy ys (i+1)=1→65536≤ys.getD 0 0)∧(cy ys (i+1)=-1→ys.getD 0 0<0):=by
  intro i
  induction i with
  |zero=>simp only[cy];omega
  |succ i ih=>
   have:=b2 (i+1) (by omega);rw[show i+1+1=(i+1)+1 from rfl,cy];omega
 have h16:=hch 15;intro i;by_cases hi:i<16
 ·rw[carryL_get _ _ hi];by_cases hi0:i=0
  ·subst hi0;rw[if_pos rfl,show cy ys 0=0 from rfl];generalize cy ys 16=c at *;omega
  ·rw[if_neg hi0];omega
 ·rw[getD_past (by rw[carryL_len];omega)];omega
theorem carry_id {ys:List Int} (hl:ys.length=16) (h:∀ i,0≤ys.getD i 0∧ys.getD i 0<65536):carryL ys=ys:=by
 have hc:∀ i,cy ys i=0:=fun i=>by
  induction i with
  |zero=>rfl
  |succ i ih=>have:=h i;simp only[cy,ih];omega
 apply list16 (carryL_len _) hl;intro i hi;rw[carryL_get _ _ hi,hc,hc];have:=h i;split<;>omega
theorem dig_of_get {B:Int} {xs:List Int} (h:∀ i,0≤xs.getD i 0∧xs.getD i 0<B):Dig B xs:=by
 intro z hz;obtain⟨i,hi,rfl⟩:=List.mem_iff_getElem.1 hz;have:=h i;simpa[hi] using this
def pD:List Int:=[65517,65535,65535,65535,65535,65535,65535,65535,65535,65535,65535,65535,65535,65535,65535,32767]
theorem pD_val:val 65536 pD=fp:=by decide
theorem pD_dig:∀ i,0≤pD.getD i 0∧pD.getD i 0<65536:=by
 intro i;by_cases h:i<16
 ·have:i=0∨i=1∨i=2∨i=3∨i=4∨i=5∨i=6∨i=7∨i=8∨i=9∨i=10∨i=11∨i=12∨i=13∨i=14∨i=15:=by omega
  rcases this with rfl|rfl|rfl|rfl|rfl|rfl|rfl|rfl|rfl|rfl|rfl|rfl|rfl|rfl|rfl|rfl<;>decide
 ·rw[getD_past (by simp[pD];omega)];decide
theorem pD_get (i:Nat) (h:i<16):pD.getD i 0=if i=0 then 65517 else if i=15 then 32767 else 65535:=by
 have:i=0∨i=1∨i=2∨i=3∨i=4∨i=5∨i=6∨i=7∨i=8∨i=9∨i=10∨i=11∨i=12∨i=13∨i=14∨i=15:=by omega
 rcases this with rfl|rfl|rfl|rfl|rfl|rfl|rfl|rfl|rfl|rfl|rfl|rfl|rfl|rfl|rfl|rfl<;>decide
theorem sub_step16 (B p q z P x y b x' b':Int) (h:p-q=z-b*P) (hx:x'-b'*B=x-y-b):(p+x*P)-(q+y*P)=(z+x'*P)-b'*(P*B):=by
 have:(x'-b'*B)*P=(x-y-b)*P:=by rw[hx]
 grind
def pbit (low nb i:Nat):Bool:=decide (nb≤i) || decide (low/2^i%2=1)
def pstep (x:Int) (b:Bool) (s:Int):Int:=if b then s*s%fp*x%fp else s*s%fp
def pwF (x:Int) (low nb top:Nat):Nat→Int
 |0=>1
 |k+1=>pstep x (pbit low nb (top-k)) (pwF x low nb top k)
def fpN:Nat:=57896044618658097711785492504343953926634992332820282019728792003956564819949
def pstepN (x:Nat) (b:Bool) (s:Nat):Nat:=if b then s*s%fpN*x%fpN else s*s%fpN
def pwN (x low nb top:Nat):Nat→Nat
 |0=>1
 |k+1=>pstepN x (pbit low nb (top-k)) (pwN x low nb top k)
theorem fp_fpN:fp=(fpN:Int):=rfl
theorem pwF_N (x low nb top k:Nat):pwF (x:Int) low nb top k=(pwN x low nb top k:Nat):=by
 induction k with
 |zero=>rfl
 |succ k ih=>
  simp only[pwF,pwN,ih,pstep,pstepN,fp_fpN];split<;>simp only[Int.natCast_emod,Int.natCast_mul]
end Go.Proofs.YtncomnkdlpoelaaGreatDoor
namespace Go.Proofs.YtncomnkdlpoelaaGreatDoor
open Go.ChangeShapes Go.WideShapes Go.ChangeAt Go.RowKit
set_option linter.unusedVariables false
theorem Own.at2 {w:World} {B:Nat} {v:Value} {zs:List Int} (h:Own w B v zs):∃ g c,v=.slice (some ⟨g,0,none⟩) zs.length c∧B≤g∧g<w.heap.size∧At .u8 w (some ⟨g,0,none⟩) zs:=by
 obtain⟨g,c,rfl,hb,hg,hc⟩:=h.base;exact⟨g,c,rfl,hb,hg,.inr ⟨g,0,rfl,hg,fun i hi=>by rw[Nat.zero_add,h.1.cellAt i (by omega)];simp[hi]⟩⟩
section
variable {P:Program} {ops:Array Oper} {Q:Exit→Act→World→Prop} {md:Region.Mode}
theorem wpAny_slotsV (M:Nat→World→World→Prop) (frame:(Nat→Value)→Act) (Ext:(Nat→Bool)→(Nat→Value)→World→Prop) (Good:Nat→(Nat→Bool)→World→Value→Prop)
  (hstab:∀ j L w w' i v,M i w w'→i≠j→L i=false→Good j L w v→Good j (updK L i) w' v)
  (hback:(List.range ops.size).all (fun i=>((ops[i]?).map (fun o=>o.after.all (fun e=>!Region.binds md e || decide (e.on<i)))).getD false)=true)
  (hop:∀(i:Nat) (o:Oper) (L:Nat→Bool) (u:Nat→Value) (w:World),ops[i]?=some o→L i=false→Ext L u w→(∀ e∈o.after,Region.binds md e=true→L e.on=true∧Good e.on L w (u e.on))→
   ∀ K:Act→World→Prop,(∀ w' v,Good i (updK L i) w' v→Ext (updK L i) (upd u i v) w'→M i w w'→K (frame (upd u i v)) w')→(if Region.wanted o (yielded ops (frame u).tmps)=true then Oper.wp P o (frame u) w K Q else K ((frame u).put o.dst undef) w))
  (hdone:∀ L u w,Ext L u w→(∀ i,i<ops.size→Good i L w (u i))→Q .normal (frame u) w) :
  ∀(fuel:Nat) (listed:Array Bool) (u:Nat→Value) (w:World),listed.size=ops.size→Ext (fun n=>listed.getD n false) u w→(∀ i,i<ops.size→listed.getD i false=true→Good i (fun n=>listed.getD n false) w (u i))→
   (listed.toList.filter (!·)).length≤fuel→wpAny P md ops Q fuel listed (frame u) w:=by
 have hb:∀(i:Nat) (o:Oper),ops[i]?=some o→∀ e∈o.after,Region.binds md e=true→e.on<i:=fun i o ho e he hbe=>by
  have hi:=(Array.getElem?_eq_some_iff.1 ho).1;have:=List.all_eq_true.1 hback i (List.mem_range.2 hi);rw[ho] at this;simp at this;obtain⟨k,hk,rfl⟩:=Array.mem_iff_getElem.1 he;rcases this k hk with h|h
  ·rw[hbe] at h;cases h
  ·exact h
 have hfin:∀(listed:Array Bool) (u:Nat→Value) (w:World),listed.size=ops.size→Ext (fun n=>listed.getD n false) u w→(∀ i,i<ops.size→listed.getD i false=true→Good i (fun n=>listed.getD n false) w (u i))→Region.ready md ops listed=[]→Q .normal (frame u) w:=by
  intro listed u w hs he hgd hr;refine hdone _ u w he fun i hi=>hgd i hi ?_
  have hall:∀ n i,i<n→i<ops.size→listed.getD i false=true:=by
   intro n
   induction n with
   |zero=>intro i h;omega
   |succ n ih=>
    intro i hin hi;by_cases hlt:i<n
    ·exact ih i hlt hi
    ·cases hl:listed.getD i false with
     |true=>rfl
     |false=>
      exfalso
      have hl':listed.getD i true=false:=by
       have hil:i<listed.size:=by omega
       simp[hil] at hl ⊢;exact hl
      have:i∈Region.ready md ops listed:=mem_ready.2 ⟨hi,hl',ops[i],by simp[hi],fun e hee hbe=>ih e.on (by have:=hb i ops[i] (by simp[hi]) e hee hbe;omega) (by have:=hb i ops[i] (by simp[hi]) e hee hbe;omega)⟩;rw[hr] at this;cases this
  exact hall (i+1) i (by omega) hi
 intro fuel
 induction fuel with
 |zero=>
  intro listed u w hs he hgd hc;have hr:Region.ready md ops listed=[]:=by
   apply List.eq_nil_iff_forall_not_mem.2;intro i hi;obtain⟨h1,h2,_⟩:=mem_ready.1 hi;have hil:i<listed.size:=by omega
   have h3:listed[i]=false:=by simpa[hil] using h2
   have:listed[i]∈listed.toList.filter (!·):=by
    rw[List.mem_filter];exact⟨by simp,by rw[h3];rfl⟩
   have:=List.length_pos_of_mem this;omega
  exact⟨hr,hfin listed u w hs he hgd hr⟩
 |succ fuel ih=>
  intro listed u w hs he hgd hc;refine⟨fun hr=>hfin listed u w hs he hgd hr,fun i hi=>?_⟩;obtain⟨h1,h2,o,ho,h3⟩:=mem_ready.1 hi;refine wpOp_step ho fun K hK=>?_
  have hil:i<listed.size:=by omega
  have hnl:listed.getD i false=false:=by simp[hil] at h2 ⊢;exact h2
  have hupd:(fun n=>(listed.setIfInBounds i true).getD n false)=updK (fun n=>listed.getD n false) i:=by
   funext n;rw[getD_set listed i n hil];rfl
  refine hop i o (fun n=>listed.getD n false) u w ho hnl he (fun e hee hbd=>⟨h3 e hee hbd,hgd e.on (by have:=hb i o ho e hee hbd;omega) (h3 e hee hbd)⟩) K fun w' v hgv hext hm=>hK _ _ ?_
  refine ih _ _ w' (by simpa using hs) (by rw[hupd];exact hext) (fun j hj hlj=>?_) ?_
  ·rw[getD_set listed i j hil] at hlj;unfold upd;by_cases hji:j=i
   ·subst hji;rw[hupd];simpa using hgv
   ·rw[if_neg hji] at hlj;rw[if_neg hji,hupd];exact hstab j _ w w' i _ hm (Ne.symm hji) hnl (hgd j hj hlj)
  ·have:listed.toList[i]?=some false:=by simp[hil] at h2;simp[hil,h2]
   have:=count_set listed.toList i this;rw[Array.toList_setIfInBounds];omega
end
end Go.Proofs.YtncomnkdlpoelaaGreatDoor
