import Derived.Test.YtilpkdnoaldfmaaGreatDoorMBase
import Derived.Test.YtilpkdnoaldfmaaGreatDoorMCatF
import Derived.Lib.AppendZerosOnto
import Derived.Test.YtilpkdnoaldfmaaGreatDoorMSvO
import Derived.Test.YtilpkdnoaldfmaaGreatDoorMMkB
import Derived.Test.YtilpkdnoaldfmaaGreatDoorMArgDev
import Derived.Test.YtilpkdnoaldfmaaGreatDoorMRegU
import Derived.Deep.Cut
namespace Go.Proofs.YtilpkdnoaldfmaaGreatDoor
open Go.ChangeShapes Go.WideShapes Go.ChangeAt Go.RowKit
set_option linter.unusedVariables false
def RowC (w:World) (g C:Nat):Prop:=∃ cur:Array Value,w.heap[g]?=some (.cells cur 5 (0,0))∧cur.size=C
theorem wpList_appZ (w:World) {ops:Array Oper} {rest:List Oper} {o:Oper} {a:Act} {Q:Exit→Act→World→Prop} (hg:o.guard=none) (s x:Operand)
  (hop:o.op=Op.call { callee:=Callee.builtin Builtin.append,args:=#[s,x],argTypes:=#[22,3] }) (hs:a.eval s=.slice none 0 0) (n:Nat) (hx:a.eval x=.int .i64 n) (hn:0<n) (hb:n≤2097152)
  (hK:∀ C w',n≤C→C≤maxLen→RowC w' w.heap.size C→Below w.heap.size w w'→wpList Tryz.prog ops Q rest (a.put o.dst (.slice (some ⟨w.heap.size,0,none⟩) n C)) w') :
  wpList Tryz.prog ops Q (o::rest) a w:=by
 obtain⟨i0,hi,hz0,hz1,hz2⟩:=info_parts Tryz.infoU8';have hfit:Builtin.nextslicecap (0+n) 0*i0.bytes≤281474976710656:=by rw[Nat.zero_add,nextslicecap_zero (by omega),hz2];omega
 have hr:=Go.Lib.run_append_grow_zeros (P:=Tryz.prog) w 22 3 o.type 5 i0 (.int .u8 0) .i64 .i64 Tryz.underlying22 Tryz.underlying3 hi hz0 none 0 0 [] (by rfl) n hn (by omega) (by omega) (by omega) (by rw[hz2];omega) hfit;have hge:=grownCap_ge w (0+n) 0 5;have hle:=grownCap_le_maxLen w (0+n) 0 5 (by unfold maxLen;omega);rw[Nat.zero_add] at hr hge hle;generalize grownCap w n 0 5=C at hr hge hle;refine wpList_plain hg fun K hK'=>?_
 have hk:=hK' _ _ (hK C _ hge hle ⟨_,heap_alloc_new w.drew (.cells ((([]:List Value).toArray++Builtin.zeroCells (Value.int .u8 0).cells n)++Builtin.zeroCells (Value.int .u8 0).cells (C-n)) 5),by simp[Builtin.zeroCells,Value.cells];omega⟩ ((Below.refl _ _).drew.alloc (Nat.le_refl _) _));unfold Oper.wp execOp;simp only[hop,resolve,invoke,builtin,Sem.run_bind,Sem.run_pure,Result.andThen_ok,List.map_toArray,List.map_cons,List.map_nil,hs,hx,hr];exact hk
set_option maxRecDepth 100000 in
set_option maxHeartbeats 1000000 in
theorem grow_any (n:Nat) (w:World) (hn:0<n) (hb:n≤2097152) :
  Calls Tryz.prog 106 #[.slice none 0 0,.int .i64 n] w fun e w'=>∃ v,e=.returned v∧Own w' w.heap.size v []∧Below w.heap.size w w':=by
 have h0:¬ ((n:Int)<0):=by omega
 have h1:(n:Int)>0:=by omega
 go_enter Tryz.func106,Tryz.ntmps106;go_wp2_with (first
  |(refine wpList_appZ _ rfl (.tmp 20) (.tmp 21) rfl rfl n rfl hn hb ?_)
  |fail)
 intro C w1 hC hm hrow hb1;have HF:Hid (Own w1 w.heap.size (.slice (some ⟨w.heap.size,0,none⟩) 0 C) []):=by
  obtain⟨cur,h1,h2⟩:=hrow;exact⟨⟨by simp,.inr ⟨w.heap.size,C,cur,rfl,Nat.le_refl _,h1,by simp,hm,by rw[h2,Nat.mul_one],by simp⟩⟩,_,_,rfl⟩
 have HB:Hid (Below w.heap.size w w1):=hb1;have hC':(0:Int)≤C:=by omega
 have hm':C≤9223372036854775807:=by unfold maxLen at hm;omega
 clear hrow hb1 hm;go_wp2
 go_ret
 exact⟨_,rfl,HF.out,HB.out⟩
def tot (zss:List (List Int)) (k:Nat):Nat:=(zss.take k).flatten.length
theorem tot_succ (zss:List (List Int)) (k:Nat) (h:k<zss.length):tot zss (k+1)=tot zss k+(zss.getD k []).length:=by
 unfold tot;rw[flat_snoc zss k h,List.length_append]
set_option maxRecDepth 100000 in
set_option maxHeartbeats 2000000 in
theorem conc_any (p m cap:Nat) (vs:List Value) (zss:List (List Int)) (w:World) (hm:zss.length=m) (hp:p<w.heap.size) (hc:∀ i,i<m→w.cell? ⟨p,i,none⟩=some (vs.getD i undef))
  (hz:∀ i,i<m→Part w (vs.getD i undef) (zss.getD i [])) (ht:zss.flatten.length≤2097152) (h0:0<zss.flatten.length) (hm':m≤2097152) :
  Calls Tryz.prog 86 #[.slice (some ⟨p,0,none⟩) m cap] w fun e w'=>∃ v,e=.returned v∧Own w' w.heap.size v zss.flatten∧Below w.heap.size w w':=by
 have HM:Hid (zss.length=m):=hm;have HC:Hid (∀ i,i<m→w.cell? ⟨p,i,none⟩=some (vs.getD i undef)):=hc;have HZ:Hid (∀ i,i<m→Part w (vs.getD i undef) (zss.getD i [])):=hz;have HT:Hid (zss.flatten.length≤2097152∧0<zss.flatten.length):=⟨ht,h0⟩
 have HTA:Hid (tot zss m=zss.flatten.length):=by show _=_;unfold tot;rw[List.take_of_length_le (by omega)]
 clear hc hz ht h0 hm;go_enter Tryz.func86,Tryz.ntmps86;go_wp2_with fail
 go_loop [3,11] (fun q i=>∃ k:Nat,k≤m∧i=.int .i64 k∧q=.int .i64 (tot zss k)) (fun _ i=>m-(intOf i).toNat)
 case atStart=>exact⟨0,Nat.zero_le _,rfl,rfl⟩
 case round=>
  obtain⟨k,hk,rfl,rfl⟩:=hrel;by_cases hlt:k<m
  ·have hlt':(k:Int)<m:=by omega
   obtain⟨b,o,c,hv,hb,hcell⟩:=HZ.out k hlt;have hck:w.cell? ⟨p,k,none⟩=some (.slice (some ⟨b,o,none⟩) (zss.getD k []).length c):=by rw[HC.out k hlt,hv]
   have HS:Hid (tot zss (k+1)=tot zss k+(zss.getD k []).length):=tot_succ zss k (by have:=HM.out;omega);have hle:tot zss (k+1)≤2097152:=Nat.le_trans (flat_le zss (k+1)) HT.out.1;rw[HS.out] at hle;clear hcell hv hb;generalize (zss.getD k []).length=z at *;generalize tot zss k=y at *;have hn0:¬ ((y:Int)+z<0):=by omega
   go_wp2
   go_round
   case rel=>exact⟨k+1,by omega,by go_num,by rw[HS.out];go_num⟩
   case measure=>simp[intOf];omega
  ·have hke:k=m:=by omega
   subst hke;obtain⟨N,hN⟩:∃ N,tot zss k=N:=⟨_,rfl⟩
   have CG:=grow_any N w (by rw[←hN,HTA.out];exact HT.out.2) (by rw[←hN,HTA.out];exact HT.out.1);have hNb:N≤2097152:=by rw[←hN,HTA.out];exact HT.out.1
   rw[hN];clear hN HTA;have hlt':¬ ((k:Int)<k):=by omega
   go_wp2_with fail;refine CG.mono ?_;rintro e w1 ⟨v1,rfl,ho1,hb1⟩;have HO1:Hid (Own w1 w.heap.size v1 []):=ho1;have HB1:Hid (Below w.heap.size w w1):=hb1;clear ho1 hb1 hlt' CG;go_wp2_with fail
   go_loopw [6,27] (fun v i wr=>∃(j:Nat) (l:Value),j≤k∧i=.int .i64 j∧l=v∧Own wr w.heap.size l (zss.take j).flatten∧Below w.heap.size w wr) (fun _ i _=>k-(intOf i).toNat)
   case atStart=>exact⟨0,_,Nat.zero_le _,rfl,rfl,HO1.out,HB1.out⟩
   case round=>
    clear HO1 HB1;obtain⟨j,l,hj,rfl,rfl,hown,hbel⟩:=hrel;by_cases hlt:j<k
    ·have hsz:=hbel.size;obtain⟨b,o,c,hv,hb,hcell⟩:=HZ.out j hlt;have hck:wr.cell? ⟨p,j,none⟩=some (.slice (some ⟨b,o,none⟩) (zss.getD j []).length c):=by rw[hbel.cell (p:=⟨p,j,none⟩) hp,HC.out j hlt,hv]
     have HNW:Hid (∀ i,i<(zss.getD j []).length→wr.cell? ((⟨b,o,none⟩:Addr).add i)=some (.int .u8 ((zss.getD j []).getD i 0))):=by
      intro i hi;rw[Addr.add_lit,hbel.cell (p:=⟨b,o+i,none⟩) hb];exact hcell i hi
     have hfl:=flat_snoc zss j (by have:=HM.out;omega);have hle:=flat_le zss (j+1);have HL:Hid ((zss.take j).flatten.length+(zss.getD j []).length≤1099511627776):=by show _≤_;rw[hfl,List.length_append] at hle;have:=HT.out.1;omega
     have HFL:Hid ((zss.take (j+1)).flatten=(zss.take j).flatten++zss.getD j []):=hfl;have HOW:Hid (Own wr w.heap.size l (zss.take j).flatten):=hown;have HBE:Hid (Below w.heap.size w wr):=hbel;clear hcell hv hb hfl hle hown hbel;go_wp2_with (first
      |(at_builtin;refine wpList_app _ rfl (.tmp 31) (.tmp 32) rfl w.heap.size _ _ rfl HOW.out ⟨b,o,none⟩ _ c (zss.getD j []) rfl rfl HNW.out HL.out hsz ?_)
      |fail)
     intro v' w2 hown' hbel' _;have HO2:Hid (Own w2 w.heap.size v' (zss.take (j+1)).flatten):=by show Own _ _ _ _;rw[HFL.out];exact hown'
     have HB2:Hid (Below w.heap.size w w2):=HBE.out.trans hbel';clear hown' hbel' HOW HBE HNW;go_wp2;go_roundw
     case rel=>exact⟨j+1,_,by omega,by go_num,rfl,HO2.out,HB2.out⟩
     case measure=>simp[intOf];omega
    ·have hje:j=k:=by omega
     have hlt':¬ ((j:Int)<k):=by omega
     have HO2:Hid (Own wr w.heap.size l zss.flatten):=by
      have:zss.take j=zss:=List.take_of_length_le (by have:=HM.out;omega);rw[this] at hown;exact hown
     clear hown;go_wp2
     go_ret
     exact⟨_,rfl,HO2.out,hbel⟩
end Go.Proofs.YtilpkdnoaldfmaaGreatDoor
namespace Go.Proofs.YtilpkdnoaldfmaaGreatDoor
set_option linter.unusedVariables false
def Asc (xs:List Int):Prop:=xs.Pairwise (·<·)
theorem asc_ext:∀(xs ys:List Int),Asc xs→Asc ys→(∀ z,z∈xs↔z∈ys)→xs=ys:=by
 intro xs
 induction xs with
 |nil=>
  intro ys _ _ h;cases ys with
  |nil=>rfl
  |cons y ys=>exact absurd ((h y).2 (by simp)) (by simp)
 |cons x xs ih=>
  intro ys hx hy h;cases ys with
  |nil=>exact absurd ((h x).1 (by simp)) (by simp)
  |cons y ys=>
   have hx':=List.pairwise_cons.1 hx;have hy':=List.pairwise_cons.1 hy;have e:x=y:=by
    rcases List.mem_cons.1 ((h x).1 (by simp)) with h1|h1
    ·exact h1
    ·rcases List.mem_cons.1 ((h y).2 (by simp)) with h2|h2
     ·exact h2.symm
     ·have:=hy'.1 x h1;have:=hx'.1 y h2;omega
   subst e;rw[ih ys hx'.2 hy'.2 (fun z=>?_)];constructor
   ·intro hz;rcases List.mem_cons.1 ((h z).1 (List.mem_cons_of_mem _ hz)) with h1|h1
    ·have:=hx'.1 z hz;omega
    ·exact h1
   ·intro hz;rcases List.mem_cons.1 ((h z).2 (List.mem_cons_of_mem _ hz)) with h1|h1
    ·have:=hy'.1 z hz;omega
    ·exact h1
theorem getD_el {xs:List Int} {i:Nat} (h:i<xs.length):xs.getD i 0=xs[i]:=by simp[List.getD,h]
theorem SerP.asc {xs:List Int} (h:SerP xs):Asc xs:=by
 have q:∀ d i,i+d+1<xs.length→xs.getD i 0<xs.getD (i+d+1) 0:=by
  intro d
  induction d with
  |zero=>intro i hi;exact(h (i+0+1) hi).2.2 (by omega)
  |succ d ih=>
   intro i hi;have h1:=ih i (by omega);have h2:=(h (i+(d+1)+1) hi).2.2 (by omega);rw[show i+(d+1)+1-1=i+d+1 by omega] at h2;omega
 refine List.pairwise_iff_getElem.2 (fun i j hi hj hij=>?_);have:=q (j-i-1) i (by omega);rw[show i+(j-i-1)+1=j by omega,getD_el hi,getD_el hj] at this;exact this
theorem SerP.range {xs:List Int} (h:SerP xs) {z:Int} (hz:z∈xs):0≤z∧z<256:=by
 obtain⟨i,hi,rfl⟩:=List.getElem_of_mem hz;have:=h i hi;unfold okI at this;rw[getD_el hi] at this;exact⟨this.1,this.2.1⟩
theorem SerP.of_asc {xs:List Int} (h:Asc xs) (hr:∀ z∈xs,0≤z∧z<256):SerP xs:=by
 intro i hi;have:=hr _ (List.getElem_mem hi);refine⟨by rw[getD_el hi];exact this.1,by rw[getD_el hi];exact this.2,fun h0=>?_⟩;rw[getD_el hi,getD_el (by omega:i-1<xs.length)];exact List.pairwise_iff_getElem.1 h (i-1) i (by omega) hi (by omega)
def upTo (P:Nat→Bool) (k:Nat):List Int:=((List.range k).filter P).map Int.ofNat
theorem upTo_succ (P:Nat→Bool) (k:Nat):upTo P (k+1)=if P k=true then upTo P k++[(k:Int)] else upTo P k:=by
 unfold upTo;rw[List.range_succ,List.filter_append,List.map_append];by_cases h:P k=true
 ·rw[if_pos h];simp[h]
 ·rw[if_neg h];simp[h]
theorem upTo_mem {P:Nat→Bool} {k:Nat} {z:Int}:z∈upTo P k↔∃ v:Nat,v<k∧P v=true∧z=v:=by
 unfold upTo;simp only[List.mem_map,List.mem_filter,List.mem_range];constructor
 ·rintro⟨v,⟨h1,h2⟩,rfl⟩;exact⟨v,h1,h2,rfl⟩
 ·rintro⟨v,h1,h2,rfl⟩;exact⟨v,⟨h1,h2⟩,rfl⟩
theorem upTo_asc (P:Nat→Bool) (k:Nat):Asc (upTo P k):=by
 induction k with
 |zero=>exact List.Pairwise.nil
 |succ k ih=>
  rw[upTo_succ];split
  ·refine List.pairwise_append.2 ⟨ih,List.pairwise_singleton _ _,fun a ha b hb=>?_⟩;obtain⟨v,hv,_,rfl⟩:=upTo_mem.1 ha;rw[List.mem_singleton.1 hb];omega
  ·exact ih
theorem upTo_len (P:Nat→Bool) (k:Nat):(upTo P k).length≤k:=by
 unfold upTo;rw[List.length_map];exact Nat.le_trans (List.length_filter_le _ _) (by rw[List.length_range];exact Nat.le_refl _)
theorem upTo_ser (P:Nat→Bool):SerP (upTo P 256):=SerP.of_asc (upTo_asc P 256) (fun z hz=>by
 obtain⟨v,hv,_,rfl⟩:=upTo_mem.1 hz;omega)
theorem SerP.eq_upTo {xs:List Int} (h:SerP xs) (P:Nat→Bool) (hP:∀ v,v<256→(P v=true↔(v:Int)∈xs)):upTo P 256=xs:=by
 refine asc_ext _ _ (upTo_asc P 256) h.asc (fun z=>?_);rw[upTo_mem];constructor
 ·rintro⟨v,hv,hp,rfl⟩;exact(hP v hv).1 hp
 ·intro hz;have hr:=h.range hz;obtain⟨v,rfl⟩:=Int.eq_ofNat_of_zero_le hr.1;exact⟨v,by omega,(hP v (by omega)).2 hz,rfl⟩
def pop8 (x:Nat):Nat:=((List.range 8).filter (fun j=>x/2^j%2 == 1)).length
def popS (bs:List Int) (k:Nat):Nat:=((List.range k).map (fun i=>pop8 (bs.getD i 0).toNat)).sum
theorem popS_succ (bs:List Int) (k:Nat):popS bs (k+1)=popS bs k+pop8 (bs.getD k 0).toNat:=by
 unfold popS;rw[List.range_succ,List.map_append,List.sum_append];simp
theorem upTo_add (P:Nat→Bool) (k n:Nat):(upTo P (k+n)).length=(upTo P k).length+((List.range n).filter (fun j=>P (k+j))).length:=by
 induction n with
 |zero=>simp
 |succ n ih=>
  rw[←Nat.add_assoc,upTo_succ,List.range_succ,List.filter_append,List.length_append,←Nat.add_assoc,←ih];by_cases h:P (k+n)=true
  ·rw[if_pos h];simp[h]
  ·rw[if_neg h];simp[h]
theorem popS_upTo {bs:List Int} {Q:Nat→Prop} (hs:SetB bs Q) (P:Nat→Bool) (hP:∀ v,v<256→(P v=true↔Q v)) (k:Nat) (hk:k≤32):popS bs k=(upTo P (k*8)).length:=by
 induction k with
 |zero=>rfl
 |succ k ih=>
  rw[popS_succ,ih (by omega),show(k+1)*8=k*8+8 by omega,upTo_add]
  congr 1
  unfold pop8
  congr 1
  refine List.filter_congr (fun j hj=>?_);have hj':=List.mem_range.1 hj;have h3:=hs.2.2 (k*8+j) (by omega);rw[show(k*8+j)/8=k by omega,show(k*8+j)%8=j by omega] at h3;have h0:=(hs.2.1.get k).1;obtain⟨x,hx⟩:=Int.eq_ofNat_of_zero_le h0;rw[hx] at h3;rw[hx,Int.toNat_natCast];have e:((x:Int)/2^j%2=1)↔(x/2^j%2=1):=by
   rw[show((2:Int)^j)=((2^j:Nat):Int) by simp,←Int.natCast_ediv];omega
  rw[e] at h3;have:=h3.trans (hP (k*8+j) (by omega)).symm;by_cases hp:P (k*8+j)=true
  ·rw[hp];simpa using this.2 hp
  ·have h4:¬ (x/2^j%2=1):=fun h=>hp (this.1 h)
   rw[Bool.not_eq_true] at hp;rw[hp];simpa using h4
theorem pop_len {bs D:List Int} (hs:SetB bs (fun v=>(v:Int)∈D)) (hD:SerP D):popS bs 32=D.length:=by
 have h:=popS_upTo hs (fun v=>decide ((v:Int)∈D)) (fun v _=>by simp) 32 (by omega);rw[h,hD.eq_upTo _ (fun v _=>by simp)]
theorem without_ser {D:List Int} (hD:SerP D) (x:Int):SerP (D.filter (fun z=>z != x)):=
 SerP.of_asc (List.Pairwise.filter _ hD.asc) (fun z hz=>hD.range (List.mem_filter.1 hz).1)
end Go.Proofs.YtilpkdnoaldfmaaGreatDoor
namespace Go.Proofs.YtilpkdnoaldfmaaGreatDoor
open Go.ChangeShapes Go.WideShapes Go.ChangeAt Go.RowKit
set_option linter.unusedVariables false
def findL (ps:List PD) (s:Int):Nat→Option (List Int)
 |0=>none
 |k+1=>if(ps.getD k (0,[])).1=s then some (ps.getD k (0,[])).2 else findL ps s k
def rdV (zs:List Int) (ps:List PD) (s:Int):List Int:=(findL ps s ps.length).getD ((zs.drop (s.toNat*64)).take 64)
set_option maxHeartbeats 1000000 in
theorem read_any (g:Nat) (a x:Option Addr) (L c m cx:Nat) (f:Int) (s:Nat) (d:Bool) (zs:List Int) (ps:List PD) (w:World) (h:w.heap[g]?=some (.cells #[.slice a L c,.slice x m cx,.int .i64 f,.bool d] 27 (0,0))) (hL:L≤1048576) (hc:L≤c) (hl:zs.length=L) (hm:ps.length=m) (hm2:m≤1048576) (hs:s*64+64≤L) (hA:At .u8 w a zs) (hP:PAt w x ps) (hok:∀ i,i<m→(ps.getD i (0,[])).2.length=64) :
  Calls Tryz.prog 73 #[.pointer (some ⟨g,0,none⟩),.int .i64 s] w fun e w'=>e=.returned (secV (rdV zs ps s))∧Below w.heap.size w w':=by
 have c1:=cell_of_row w g 1 _ _ _ h;simp at c1;have hg:g<w.heap.size:=(Array.getElem?_eq_some_iff.1 h).1;have hrv:rdV zs ps s=(findL ps s m).getD ((zs.drop (s*64)).take 64):=by unfold rdV;rw[hm];simp
 have HRV:Hid _:=hrv;clear hrv;have HH:Hid _:=h;clear h;go_enter Tryz.func73,Tryz.ntmps73;go_wp2;have hb1:=(Below.refl w.heap.size w).alloc (Nat.le_refl _) (.cells (List.replicate 64 (Value.int .u8 0)).toArray 65);have hN:Row (w.alloc (.cells (List.replicate 64 (Value.int .u8 0)).toArray 65)) w.heap.size 65 (List.replicate 64 0):=heap_alloc_new w _;obtain⟨w1,hw1⟩:∃ w1,w.alloc (.cells (List.replicate 64 (Value.int .u8 0)).toArray 65)=w1:=⟨_,rfl⟩
 rw[hw1] at hb1 hN;refine wp_world (hw1.symm.trans rfl) ?_;have hz1:w.heap.size<w1.heap.size:=hN.lt;have k1:w1.cell? ⟨g,1,none⟩=some (.slice x m cx):=by rw[hb1.cell (p:=⟨g,1,none⟩) hg];exact c1
 have HA1:Hid _:=hA.below hb1;have HP1:Hid _:=hP.below hb1;have HB1:Hid _:=hb1;have HN1:Hid _:=hN;have HH1:Hid (w1.heap[g]?=some (.cells #[.slice a L c,.slice x m cx,.int .i64 f,.bool d] 27 (0,0))):=by unfold Hid;rw[hb1.block g hg];exact HH.out
 have hg1:g<w1.heap.size:=by omega
 clear hw1 hA hP hb1 hN c1 HH;have hend:∀(z:List Int) (w2:World),z.length=64→Below w1.heap.size w1 w2→Row w2 w.heap.size 65 (List.replicate 64 0)∧Below w.heap.size w w2:=fun z w2 hz hb=>
  ⟨by unfold Row;rw[hb.block _ hz1];exact HN1.out,HB1.out.trans (hb.mono (by omega))⟩
 have HEND:Hid _:=hend;clear hend HN1 HB1
 go_loop [5] (fun i=>∃ k:Nat,k≤m∧i=.int .i64 ((k:Int)-1)∧findL ps s m=findL ps s k) (fun i=>(intOf i+1).toNat)
 case atStart=>exact⟨m,Nat.le_refl _,rfl,rfl⟩
 case round=>
  obtain⟨k,hk,rfl,hf⟩:=hrel;cases k with
  |zero=>
   have hres:rdV zs ps s=(zs.drop (s*64)).take 64:=by rw[HRV.out,hf];simp[findL]
   have HF:Hid _:=hres;clear hf hres;go_wp2_with fail;refine(dur_any g a x L c m cx f s d zs w1 HH1.out hL hc hl hs HA1.out).mono ?_;rintro e w2 ⟨rfl,hb2⟩;have hz:((zs.drop (s*64)).take 64).length=64:=by simp;omega
   obtain⟨hr,hB⟩:=HEND.out _ w2 hz hb2;have HZ:Hid _:=hz;have HR:Hid _:=hr;have HB:Hid _:=hB;clear hz hr hB hb2;have e0:=HF.out;generalize (zs.drop (s*64)).take 64=z at *;have HE:Hid _:=e0;have hs1:(Tryz.prog.info? 65).map (·.size)=some ((z.map (Value.int .u8)).toArray).size:=by rw[Tryz.sizeSec];simp[HZ.out]
   have HS1:Hid _:=hs1;clear hs1 e0 HF;go_wp2_with (refine wpList_store_row rfl 65 (.tmp 4) (.tmp 37) rfl w.heap.size ((z.map (Value.int .u8)).toArray) rfl rfl 65 _ HR.out HS1.out (by simp[HZ.out]) (all_oneCell_toArray (ints_oneCell _ _)) ?_);refine bodyPost_ret (v:=.agg (z.map (Value.int .u8)).toArray) (results_cell_row rfl _ _ w.heap.size 65 _ (0,0) _ rfl (setRow_heap _ _ _ _ _ _ HR.out) Tryz.underlying65 rfl HS1.out) rfl ⟨by rw[HE.out];rfl,?_⟩;exact HB.out.trans ((Wr.setRow _ _ _).below (Nat.le_refl _))
  |succ k=>
   obtain⟨b,off,rfl,hbl,hc⟩:=PAt.get HP1.out (by omega);obtain⟨y,cy,g1,g2,g3⟩:=hc k (by omega);have hlz:=hok k (by omega);have hfk:findL ps s (k+1)=if(ps.getD k (0,[])).1=s then some (ps.getD k (0,[])).2 else findL ps s k:=rfl
   rw[←hf] at hfk;have ek:((k+1:Nat):Int)-1=k:=by omega
   rw[ek];generalize (ps.getD k (0,[])).1=t at *;generalize (ps.getD k (0,[])).2=z at *;generalize hzl:z.length=zl at *;have HF:Hid _:=hfk;have HG3:Hid _:=g3;have HLZ:Hid _:=hzl;have HL64:Hid _:=hlz;clear hf hfk g3 hlz hc hzl;by_cases ht:t=(s:Int)
   ·subst ht;have e1:((s:Int) == (s:Int))=true:=by simp
    go_wp2_with fail;refine(sectorOf_any y zl cy z w1 HLZ.out (by have:=HL64.out;omega) HG3.out).mono ?_;rintro e w2 ⟨rfl,hb2⟩;have hz:z.length=64:=HLZ.out.trans HL64.out;have htk:z.take 64=z:=List.take_of_length_le (by omega);rw[htk];obtain⟨hr,hB⟩:=HEND.out _ w2 hz hb2;have HZ:Hid _:=hz;have HR:Hid _:=hr;have HB:Hid _:=hB;clear hz hr hB hb2 htk;have e0:rdV zs ps s=z:=by rw[HRV.out,HF.out];simp
    have HE:Hid _:=e0;have hs1:(Tryz.prog.info? 65).map (·.size)=some ((z.map (Value.int .u8)).toArray).size:=by rw[Tryz.sizeSec];simp[HZ.out]
    have HS1:Hid _:=hs1;clear hs1 e0 HF;go_wp2_with (refine wpList_store_row rfl 65 (.tmp 4) (.tmp 34) rfl w.heap.size ((z.map (Value.int .u8)).toArray) rfl rfl 65 _ HR.out HS1.out (by simp[HZ.out]) (all_oneCell_toArray (ints_oneCell _ _)) ?_);refine bodyPost_ret (v:=.agg (z.map (Value.int .u8)).toArray) (results_cell_row rfl _ _ w.heap.size 65 _ (0,0) _ rfl (setRow_heap _ _ _ _ _ _ HR.out) Tryz.underlying65 rfl HS1.out) rfl ⟨by rw[HE.out];rfl,?_⟩;exact HB.out.trans ((Wr.setRow _ _ _).below (Nat.le_refl _))
   ·have e1:(t == (s:Int))=false:=by simpa using ht
    have hfk:=HF.out;rw[if_neg ht] at hfk;have HF2:Hid _:=hfk;clear hfk HF;go_wp2
    go_round
    case rel=>exact⟨k,by omega,rfl,HF2.out⟩
    case measure=>simp[intOf]
set_option maxHeartbeats 1600000 in
theorem slEqT_any (a b:Option Addr) (n c m c':Nat) (xs ys:List Int) (w:World) (hn:xs.length=n*2) (hm:ys.length=m*2) (hN:n≤1048576) (hM:m≤1048576) (ha:At .i64 w a xs) (hb:At .i64 w b ys) :
  Calls Tryz.prog 63 #[.slice a n c,.slice b m c'] w fun e w'=>e=.returned (.bool (decide (xs=ys)))∧∃ q,w'=w.drewN q:=by
 by_cases hnm:n=m
 ·subst hnm;have h0:((n:Int) != (n:Int))=false:=by simp
  have HL:Hid (xs.length=n*2∧ys.length=n*2):=⟨hn,hm⟩
  have HA:=hid_ofV (And.intro ha hb);clear hn hm ha hb;go_enter Tryz.func63,Tryz.ntmps63;go_wp2
  go_loopw [13] (fun i wr=>∃ k q:Nat,k≤n∧i=.int .i64 k∧wr=w.drewN q∧∀ j,j<k*2→xs.getD j 0=ys.getD j 0) (fun i _=>n-(intOf i).toNat)
  case atStart=>exact⟨0,0,Nat.zero_le _,rfl,rfl,fun j h=>absurd h (by omega)⟩
  case round=>
   obtain⟨k,q,hk,rfl,rfl,hj⟩:=hrel;have HJ:=hid_ofV hj;clear hj;by_cases hlt:k<n
   ·obtain⟨b1,o1,rfl,hb1,hc⟩:=HA.out.1.get (by have:=HL.out;omega);obtain⟨b2,o2,rfl,hb2,hc'⟩:=HA.out.2.get (by have:=HL.out;omega);have e0:=hc (k*2) (by have:=HL.out;omega);have e1:=hc (k*2+1) (by have:=HL.out;omega);have f0:=hc' (k*2) (by have:=HL.out;omega);have f1:=hc' (k*2+1) (by have:=HL.out;omega);rw[←Nat.add_assoc] at e1 f1;have HX:Hid (xs.getD (k*2) 0=ys.getD (k*2) 0∧xs.getD (k*2+1) 0=ys.getD (k*2+1) 0→∀ j,j<(k+1)*2→xs.getD j 0=ys.getD j 0):=fun e j h=>by
     by_cases hjk:j<k*2
     ·exact HJ.out j hjk
     ·obtain rfl|rfl:j=k*2∨j=k*2+1:=by omega
      ·exact e.1
      ·exact e.2
    have HY:Hid (¬ (xs.getD (k*2) 0=ys.getD (k*2) 0∧xs.getD (k*2+1) 0=ys.getD (k*2+1) 0)→decide (xs=ys)=false):=fun e=>decide_eq_false (fun h=>e (by rw[h];exact⟨rfl,rfl⟩))
    generalize xs.getD (k*2) 0=x0 at *;generalize ys.getD (k*2) 0=y0 at *;generalize xs.getD (k*2+1) 0=x1 at *;generalize ys.getD (k*2+1) 0=y1 at *;have hlt':(k:Int)<(n:Int):=by omega
    clear hc hc' HJ HA;by_cases hxy:x0=y0∧x1=y1
    ·have HX2:=hid_ofV (HX.out hxy);clear HX HY;obtain⟨rfl,rfl⟩:=hxy;go_wp2
     go_quiet (fail)
     go_wp2;go_roundw
     case rel=>exact⟨k+1,_,by omega,by go_num,rfl,HX2.out⟩
     case measure=>simp[intOf];omega
    ·have HF:=hid_ofV (HY.out hxy);clear HX HY;by_cases z0:x0=y0
     ·subst z0;by_cases z1:x1=y1
      ·subst z1;exact absurd ⟨rfl,rfl⟩ hxy
      ·have q1:(x1 == y1)=false:=by simpa using z1
       have p1:decide (x1=y1)=false:=by simpa using z1
       go_wp2
       go_quiet (fail)
       go_wp2
       go_ret
       exact⟨by rw[HF.out];rfl,_,World.drewN_drewN _ _ _⟩
     ·have q0:(x0 == y0)=false:=by simpa using z0
      have p0:decide (x0=y0)=false:=by simpa using z0
      go_wp2
      go_quiet (fail)
      go_wp2
      go_ret
      exact⟨by rw[HF.out];rfl,_,World.drewN_drewN _ _ _⟩
   ·have HF:Hid (decide (xs=ys)=true):=decide_eq_true (eq_of_getD (by have:=HL.out;omega) (fun j h=>HJ.out j (by have:=HL.out;omega)));clear HJ;go_wp2
    go_ret
    exact⟨by rw[HF.out];rfl,q,rfl⟩
 ·have h0:((n:Int) != (m:Int))=true:=by simp;omega
  have HF:Hid (decide (xs=ys)=false):=decide_eq_false (ne_of_len (by omega));clear hn hm;have h1:¬ ((n:Int)=(m:Int)):=by omega
  go_enter Tryz.func63,Tryz.ntmps63;go_wp2
  go_ret
  exact⟨by rw[HF.out];rfl,0,rfl⟩
set_option maxHeartbeats 1600000 in
theorem slEqF_any (a b:Option Addr) (n c m c':Nat) (xs ys:List Int) (w:World) (hn:xs.length=n*4) (hm:ys.length=m*4) (hN:n≤1048576) (hM:m≤1048576) (ha:FAt w a xs) (hb:FAt w b ys) :
  Calls Tryz.prog 55 #[.slice a n c,.slice b m c'] w fun e w'=>e=.returned (.bool (decide (xs=ys)))∧∃ q,w'=w.drewN q:=by
 by_cases hnm:n=m
 ·subst hnm;have h0:((n:Int) != (n:Int))=false:=by simp
  have HL:Hid (xs.length=n*4∧ys.length=n*4):=⟨hn,hm⟩
  have HA:=hid_ofV (And.intro ha hb);clear hn hm ha hb;go_enter Tryz.func55,Tryz.ntmps55;go_wp2
  go_loopw [13] (fun i wr=>∃ k q:Nat,k≤n∧i=.int .i64 k∧wr=w.drewN q∧∀ j,j<k*4→xs.getD j 0=ys.getD j 0) (fun i _=>n-(intOf i).toNat)
  case atStart=>exact⟨0,0,Nat.zero_le _,rfl,rfl,fun j h=>absurd h (by omega)⟩
  case round=>
   obtain⟨k,q,hk,rfl,rfl,hj⟩:=hrel;have HJ:=hid_ofV hj;clear hj;by_cases hlt:k<n
   ·obtain⟨b1,o1,rfl,hb1,hc⟩:=HA.out.1.get (by have:=HL.out;omega);obtain⟨b2,o2,rfl,hb2,hc'⟩:=HA.out.2.get (by have:=HL.out;omega);obtain⟨e0,e1,e2,e3⟩:=FAt.four hc k (by have:=HL.out;omega);obtain⟨f0,f1,f2,f3⟩:=FAt.four hc' k (by have:=HL.out;omega);have HX:Hid (xs.getD (k*4) 0=ys.getD (k*4) 0∧xs.getD (k*4+1) 0=ys.getD (k*4+1) 0∧xs.getD (k*4+2) 0=ys.getD (k*4+2) 0∧xs.getD (k*4+3) 0=ys.getD (k*4+3) 0→∀ j,j<(k+1)*4→xs.getD j 0=ys.getD j 0):=fun e j h=>by
     by_cases hjk:j<k*4
     ·exact HJ.out j hjk
     ·obtain rfl|rfl|rfl|rfl:j=k*4∨j=k*4+1∨j=k*4+2∨j=k*4+3:=by omega
      ·exact e.1
      ·exact e.2.1
      ·exact e.2.2.1
      ·exact e.2.2.2
    have HY:Hid (¬ (xs.getD (k*4) 0=ys.getD (k*4) 0∧xs.getD (k*4+1) 0=ys.getD (k*4+1) 0∧xs.getD (k*4+2) 0=ys.getD (k*4+2) 0∧xs.getD (k*4+3) 0=ys.getD (k*4+3) 0)→decide (xs=ys)=false):=fun e=>decide_eq_false (fun h=>e (by rw[h];exact⟨rfl,rfl,rfl,rfl⟩))
    generalize xs.getD (k*4) 0=x0 at *;generalize ys.getD (k*4) 0=y0 at *;generalize xs.getD (k*4+1) 0=x1 at *;generalize ys.getD (k*4+1) 0=y1 at *;generalize xs.getD (k*4+2) 0=x2 at *;generalize ys.getD (k*4+2) 0=y2 at *;generalize xs.getD (k*4+3) 0=x3 at *;generalize ys.getD (k*4+3) 0=y3 at *;have hlt':(k:Int)<(n:Int):=by omega
    clear hc hc' HJ HA;by_cases hxy:x0=y0∧x1=y1∧x2=y2∧x3=y3
    ·have HX2:=hid_ofV (HX.out hxy);clear HX HY;obtain⟨rfl,rfl,rfl,rfl⟩:=hxy;go_wp2
     go_quiet (fail)
     go_wp2;go_roundw
     case rel=>exact⟨k+1,_,by omega,by go_num,rfl,HX2.out⟩
     case measure=>simp[intOf];omega
    ·have HF:=hid_ofV (HY.out hxy);clear HX HY;by_cases z0:x0=y0
     ·subst z0;by_cases z1:x1=y1
      ·subst z1;by_cases z2:x2=y2
       ·subst z2;by_cases z3:x3=y3
        ·subst z3;exact absurd ⟨rfl,rfl,rfl,rfl⟩ hxy
        ·have q3:(x3 == y3)=false:=by simpa using z3
         have p3:decide (x3=y3)=false:=by simpa using z3
         go_wp2
         go_quiet (fail)
         go_wp2
         go_ret
         exact⟨by rw[HF.out];rfl,_,World.drewN_drewN _ _ _⟩
       ·have q2:(x2 == y2)=false:=by simpa using z2
        have p2:decide (x2=y2)=false:=by simpa using z2
        go_wp2
        go_quiet (fail)
        go_wp2
        go_ret
        exact⟨by rw[HF.out];rfl,_,World.drewN_drewN _ _ _⟩
      ·have q1:(x1 == y1)=false:=by simpa using z1
       have p1:decide (x1=y1)=false:=by simpa using z1
       go_wp2
       go_quiet (fail)
       go_wp2
       go_ret
       exact⟨by rw[HF.out];rfl,_,World.drewN_drewN _ _ _⟩
     ·have q0:(x0 == y0)=false:=by simpa using z0
      have p0:decide (x0=y0)=false:=by simpa using z0
      go_wp2
      go_quiet (fail)
      go_wp2
      go_ret
      exact⟨by rw[HF.out];rfl,_,World.drewN_drewN _ _ _⟩
   ·have HF:Hid (decide (xs=ys)=true):=decide_eq_true (eq_of_getD (by have:=HL.out;omega) (fun j h=>HJ.out j (by have:=HL.out;omega)));clear HJ;go_wp2
    go_ret
    exact⟨by rw[HF.out];rfl,q,rfl⟩
 ·have h0:((n:Int) != (m:Int))=true:=by simp;omega
  have HF:Hid (decide (xs=ys)=false):=decide_eq_false (ne_of_len (by omega));clear hn hm;have h1:¬ ((n:Int)=(m:Int)):=by omega
  go_enter Tryz.func55,Tryz.ntmps55;go_wp2
  go_ret
  exact⟨by rw[HF.out];rfl,0,rfl⟩
def cutR (F:List Int) (nF:Nat) (ak nx:Int):Nat→Int→Int
 |0,_=>nx
 |r+1,n=>if F.getD ((nF-(r+1))*4+1) 0=1 then(if ak≤n then F.getD ((nF-(r+1))*4) 0 else cutR F nF ak nx r (n+1)) else cutR F nF ak nx r n
def cutV (ok:Bool) (n:Nat) (F:List Int) (nF:Nat) (ak nx:Int):Int:=if ok=true then cutR F nF ak nx nF n else 0
set_option maxRecDepth 100000 in
set_option maxHeartbeats 2000000 in
theorem ict_any (asD asU aF azD azU azT:Option Addr) (nsD csD nsU csU nF cF nzD czD nzU czU nzT czT:Nat) (sD sU F zD zU zT:List Int) (sgn stl zk nx:Int) (ok:Bool) (w:World) (hF:F.length=nF*4) (mF:nF≤1048576) (mU:nsU≤1048576) (aF':FAt w aF F) :
  Calls Tryz.prog 32 #[.agg #[.bool ok,.int .u32 sgn,.int .u32 stl,.slice asD nsD csD,.slice asU nsU csU,.slice aF nF cF,.slice azD nzD czD,.slice azU nzU czU,.int .i64 zk,.slice azT nzT czT,.int .u32 nx]] w fun e w'=>e=.returned (.int .u32 (cutV ok nsU F nF zk nx))∧Below w.heap.size w w':=by
 have HA:Hid (FAt w aF F):=aF';have HLT:Hid (F.length=nF*4):=hF;have HE0:Hid (OE w 36 #[.bool ok,.int .u32 sgn,.int .u32 stl,.slice asD nsD csD,.slice asU nsU csU,.slice aF nF cF,.slice azD nzD czD,.slice azU nzU czU,.int .i64 zk,.slice azT nzT czT,.int .u32 nx] (w.alloc (.cells #[.bool ok,.int .u32 sgn,.int .u32 stl,.slice asD nsD csD,.slice asU nsU csU,.slice aF nF cF,.slice azD nzD czD,.slice azU nzU czU,.int .i64 zk,.slice azT nzT czT,.int .u32 nx] 36))):=OE.start _ _ _;have HCT:Hid (∀ r n,cutR F nF zk nx (r+1) n=if F.getD ((nF-(r+1))*4+1) 0=1 then(if zk≤n then F.getD ((nF-(r+1))*4) 0 else cutR F nF zk nx r (n+1)) else cutR F nF zk nx r n):=fun _ _=>rfl
 have HC0:Hid (∀ n,cutR F nF zk nx 0 n=nx):=fun _=>rfl
 clear aF' hF;cases ok with
 |false=>
  have HV:Hid (cutV false nsU F nF zk nx=0):=rfl;have HF:Hid (Below w.heap.size w (w.alloc (.cells #[.bool false,.int .u32 sgn,.int .u32 stl,.slice asD nsD csD,.slice asU nsU csU,.slice aF nF cF,.slice azD nzD czD,.slice azU nzU czU,.int .i64 zk,.slice azT nzT czT,.int .u32 nx] 36))):=HE0.out.below;clear HE0;go_enter Tryz.func32,Tryz.ntmps32;go_wp2
  go_ret
  exact⟨ret_int HV.out.symm,HF.out⟩
 |true=>
  have HV:Hid (cutV true nsU F nF zk nx=cutR F nF zk nx nF nsU):=rfl;have HS:Hid (∀ wr,OE w 36 #[.bool true,.int .u32 sgn,.int .u32 stl,.slice asD nsD csD,.slice asU nsU csU,.slice aF nF cF,.slice azD nzD czD,.slice azU nzU czU,.int .i64 zk,.slice azT nzT czT,.int .u32 nx] wr→wr.cell? ⟨w.heap.size,4,none⟩=some (.slice asU nsU csU)∧wr.cell? ⟨w.heap.size,5,none⟩=some (.slice aF nF cF)∧wr.cell? ⟨w.heap.size,8,none⟩=some (.int .i64 zk)∧wr.cell? ⟨w.heap.size,10,none⟩=some (.int .u32 nx)):=fun wr h=>
   ⟨by rw[cell_of_row wr w.heap.size 4 _ _ _ h.b0];rfl,by rw[cell_of_row wr w.heap.size 5 _ _ _ h.b0];rfl,by rw[cell_of_row wr w.heap.size 8 _ _ _ h.b0];rfl,by rw[cell_of_row wr w.heap.size 10 _ _ _ h.b0];rfl⟩
  go_enter Tryz.func32,Tryz.ntmps32;go_wp2_with fail;generalize w.alloc (.cells #[.bool true,.int .u32 sgn,.int .u32 stl,.slice asD nsD csD,.slice asU nsU csU,.slice aF nF cF,.slice azD nzD czD,.slice azU nzU czU,.int .i64 zk,.slice azT nzT czT,.int .u32 nx] 36)=w0 at *
  go_loopw [3,16] (fun q i wr=>∃(k:Nat) (z:Int),k≤nF∧i=.int .i64 k∧q=.int .i64 z∧0≤z∧z≤nsU+k∧cutR F nF zk nx (nF-k) z=cutR F nF zk nx nF nsU∧OE w 36 #[.bool true,.int .u32 sgn,.int .u32 stl,.slice asD nsD csD,.slice asU nsU csU,.slice aF nF cF,.slice azD nzD czD,.slice azU nzU czU,.int .i64 zk,.slice azT nzT czT,.int .u32 nx] wr) (fun _ i _=>nF-(intOf i).toNat)
  case atStart=>exact⟨0,nsU,Nat.zero_le _,rfl,rfl,by omega,by omega,rfl,HE0.out⟩
  case round=>
   clear HE0;obtain⟨k,z,hk,rfl,rfl,z0,z1,hcut,hst⟩:=hrel;have HST:Hid (OE w 36 #[.bool true,.int .u32 sgn,.int .u32 stl,.slice asD nsD csD,.slice asU nsU csU,.slice aF nF cF,.slice azD nzD czD,.slice azU nzU czU,.int .i64 zk,.slice azT nzT czT,.int .u32 nx] wr):=hst;have HCU:Hid (cutR F nF zk nx (nF-k) z=cutR F nF zk nx nF nsU):=hcut;obtain⟨x4,x5,x8,x10⟩:=HS.out wr hst;have hwl:=hst.lt;clear hcut;by_cases hlt:k<nF
   ·have hlt':(k:Int)<nF:=by omega
    have HNE:Hid (cutR F nF zk nx (nF-k) z=if F.getD (k*4+1) 0=1 then(if zk≤z then F.getD (k*4) 0 else cutR F nF zk nx (nF-(k+1)) (z+1)) else cutR F nF zk nx (nF-(k+1)) z):=by
     show _=_
     have e:=HCT.out (nF-(k+1)) z;rw[show nF-(k+1)+1=nF-k by omega,show nF-(nF-k)=k by omega] at e;exact e
    obtain⟨b,off,ea,hb,hc⟩:=(HA.out.below hst.below).get (by have:=HLT.out;omega);obtain⟨t0,t1,t2,t3⟩:=FAt.four hc k (by have:=HLT.out;omega);subst ea;clear hc hst;generalize F.getD (k*4) 0=s at *;generalize F.getD (k*4+1) 0=m at *;generalize F.getD (k*4+2) 0=x at *;generalize F.getD (k*4+3) 0=y at *;have HN:Hid (OE w 36 #[.bool true,.int .u32 sgn,.int .u32 stl,.slice asD nsD csD,.slice asU nsU csU,.slice (some ⟨b,off,none⟩) nF cF,.slice azD nzD czD,.slice azU nzU czU,.int .i64 zk,.slice azT nzT czT,.int .u32 nx] (wr.alloc (.cells #[.int .u32 s,.int .i64 m,.int .u32 x,.int .u32 y] 92))):=HST.out.call ((Below.refl _ _).alloc (Nat.le_refl _) _);by_cases hm:m=1
    ·subst hm;by_cases hz:zk≤z
     ·have HR:Hid (cutR F nF zk nx nF nsU=s):=by show _=_;rw[←HCU.out,HNE.out,if_pos rfl,if_pos hz]
      have HF:Hid (Below w.heap.size w (wr.alloc (.cells #[.int .u32 s,.int .i64 1,.int .u32 x,.int .u32 y] 92))):=HN.out.below;clear HN HST HNE;go_wp2
      go_ret
      exact⟨ret_int (by rw[HV.out,HR.out]),HF.out⟩
     ·have HR:Hid (cutR F nF zk nx (nF-(k+1)) (z+1)=cutR F nF zk nx nF nsU):=by show _=_;rw[←HCU.out,HNE.out,if_pos rfl,if_neg hz]
      clear HST HNE HCU;go_wp2;go_roundw
      case rel=>exact⟨k+1,z+1,by omega,by go_num,by go_num,by omega,by omega,HR.out,HN.out⟩
      case measure=>simp[intOf];omega
    ·have HR:Hid (cutR F nF zk nx (nF-(k+1)) z=cutR F nF zk nx nF nsU):=by show _=_;rw[←HCU.out,HNE.out,if_neg hm]
     have hm':(m == 1)=false:=by simpa using hm
     clear HST HNE HCU hm;go_wp2;go_roundw
     case rel=>exact⟨k+1,z,by omega,by go_num,rfl,by omega,by omega,HR.out,HN.out⟩
     case measure=>simp[intOf];omega
   ·have hke:k=nF:=by omega
    have hlt':¬ ((k:Int)<nF):=by omega
    have HR:Hid (cutR F nF zk nx nF nsU=nx):=by show _=_;rw[←HCU.out,show nF-k=0 by omega,HC0.out]
    have HF:Hid (Below w.heap.size w wr):=HST.out.below;clear hke hst HST;go_wp2
    go_ret
    exact⟨ret_int (by rw[HV.out,HR.out]),HF.out⟩
end Go.Proofs.YtilpkdnoaldfmaaGreatDoor
