import Derived.Test.YthmeoilbmfdhfaaGreatMSvB
import Derived.Test.YthmeoilbmfdhfaaGreatMReg
import Derived.Test.YthmeoilbmfdhfaaGreatMRowB
import Derived.Test.YthmeoilbmfdhfaaGreatMBase
import Derived.Deep.MidRow
import Derived.Laws.Tables
import Derived.Maps.AppendAt
namespace Go.Proofs.YthmeoilbmfdhfaaGreat
set_option linter.unusedVariables false
def Asc (xs:List Int):Prop:=xs.Pairwise (·<·)
theorem asc_ext:∀(xs ys:List Int),Asc xs→Asc ys→(∀ z,z∈xs↔z∈ys)→xs=ys:=by
 intro xs
 induction xs with
 |nil=>
  intro ys _ _ h;cases ys with
  |nil=>rfl
  |cons y ys=>exact absurd ((h y).2 (by simp)) (by simp)
 |cons x xs ih=>
  intro ys hx hy h;cases ys with
  |nil=>exact absurd ((h x).1 (by simp)) (by simp)
  |cons y ys=>
   have hx':=List.pairwise_cons.1 hx;have hy':=List.pairwise_cons.1 hy;have e:x=y:=by
    rcases List.mem_cons.1 ((h x).1 (by simp)) with h1|h1
    ·exact h1
    ·rcases List.mem_cons.1 ((h y).2 (by simp)) with h2|h2
     ·exact h2.symm
     ·have:=hy'.1 x h1;have:=hx'.1 y h2;omega
   subst e;rw[ih ys hx'.2 hy'.2 (fun z=>?_)];constructor
   ·intro hz;rcases List.mem_cons.1 ((h z).1 (List.mem_cons_of_mem _ hz)) with h1|h1
    ·have:=hx'.1 z hz;omega
    ·exact h1
   ·intro hz;rcases List.mem_cons.1 ((h z).2 (List.mem_cons_of_mem _ hz)) with h1|h1
    ·have:=hy'.1 z hz;omega
    ·exact h1
theorem getD_el {xs:List Int} {i:Nat} (h:i<xs.length):xs.getD i 0=xs[i]:=by simp[List.getD,h]
theorem SerP.asc {xs:List Int} (h:SerP xs):Asc xs:=by
 have q:∀ d i,i+d+1<xs.length→xs.getD i 0<xs.getD (i+d+1) 0:=by
  intro d
  induction d with
  |zero=>intro i hi;exact(h (i+0+1) hi).2.2 (by omega)
  |succ d ih=>
   intro i hi;have h1:=ih i (by omega);have h2:=(h (i+(d+1)+1) hi).2.2 (by omega);rw[show i+(d+1)+1-1=i+d+1 by omega] at h2;omega
 refine List.pairwise_iff_getElem.2 (fun i j hi hj hij=>?_);have:=q (j-i-1) i (by omega);rw[show i+(j-i-1)+1=j by omega,getD_el hi,getD_el hj] at this;exact this
theorem SerP.range {xs:List Int} (h:SerP xs) {z:Int} (hz:z∈xs):0≤z∧z<256:=by
 obtain⟨i,hi,rfl⟩:=List.getElem_of_mem hz;have:=h i hi;unfold okI at this;rw[getD_el hi] at this;exact⟨this.1,this.2.1⟩
theorem SerP.of_asc {xs:List Int} (h:Asc xs) (hr:∀ z∈xs,0≤z∧z<256):SerP xs:=by
 intro i hi;have:=hr _ (List.getElem_mem hi);refine⟨by rw[getD_el hi];exact this.1,by rw[getD_el hi];exact this.2,fun h0=>?_⟩;rw[getD_el hi,getD_el (by omega:i-1<xs.length)];exact List.pairwise_iff_getElem.1 h (i-1) i (by omega) hi (by omega)
def upTo (P:Nat→Bool) (k:Nat):List Int:=((List.range k).filter P).map Int.ofNat
theorem upTo_succ (P:Nat→Bool) (k:Nat):upTo P (k+1)=if P k=true then upTo P k++[(k:Int)] else upTo P k:=by
 unfold upTo;rw[List.range_succ,List.filter_append,List.map_append];by_cases h:P k=true
 ·rw[if_pos h];simp[h]
 ·rw[if_neg h];simp[h]
theorem upTo_mem {P:Nat→Bool} {k:Nat} {z:Int}:z∈upTo P k↔∃ v:Nat,v<k∧P v=true∧z=v:=by
 unfold upTo;simp only[List.mem_map,List.mem_filter,List.mem_range];constructor
 ·rintro⟨v,⟨h1,h2⟩,rfl⟩;exact⟨v,h1,h2,rfl⟩
 ·rintro⟨v,h1,h2,rfl⟩;exact⟨v,⟨h1,h2⟩,rfl⟩
theorem upTo_asc (P:Nat→Bool) (k:Nat):Asc (upTo P k):=by
 induction k with
 |zero=>exact List.Pairwise.nil
 |succ k ih=>
  rw[upTo_succ];split
  ·refine List.pairwise_append.2 ⟨ih,List.pairwise_singleton _ _,fun a ha b hb=>?_⟩;obtain⟨v,hv,_,rfl⟩:=upTo_mem.1 ha;rw[List.mem_singleton.1 hb];omega
  ·exact ih
theorem upTo_len (P:Nat→Bool) (k:Nat):(upTo P k).length≤k:=by
 unfold upTo;rw[List.length_map];exact Nat.le_trans (List.length_filter_le _ _) (by rw[List.length_range];exact Nat.le_refl _)
theorem upTo_ser (P:Nat→Bool):SerP (upTo P 256):=SerP.of_asc (upTo_asc P 256) (fun z hz=>by
 obtain⟨v,hv,_,rfl⟩:=upTo_mem.1 hz;omega)
theorem SerP.eq_upTo {xs:List Int} (h:SerP xs) (P:Nat→Bool) (hP:∀ v,v<256→(P v=true↔(v:Int)∈xs)):upTo P 256=xs:=by
 refine asc_ext _ _ (upTo_asc P 256) h.asc (fun z=>?_);rw[upTo_mem];constructor
 ·rintro⟨v,hv,hp,rfl⟩;exact(hP v hv).1 hp
 ·intro hz;have hr:=h.range hz;obtain⟨v,rfl⟩:=Int.eq_ofNat_of_zero_le hr.1;exact⟨v,by omega,(hP v (by omega)).2 hz,rfl⟩
def pop8 (x:Nat):Nat:=((List.range 8).filter (fun j=>x/2^j%2 == 1)).length
def popS (bs:List Int) (k:Nat):Nat:=((List.range k).map (fun i=>pop8 (bs.getD i 0).toNat)).sum
theorem popS_succ (bs:List Int) (k:Nat):popS bs (k+1)=popS bs k+pop8 (bs.getD k 0).toNat:=by
 unfold popS;rw[List.range_succ,List.map_append,List.sum_append];simp
theorem upTo_add (P:Nat→Bool) (k n:Nat):(upTo P (k+n)).length=(upTo P k).length+((List.range n).filter (fun j=>P (k+j))).length:=by
 induction n with
 |zero=>simp
 |succ n ih=>
  rw[←Nat.add_assoc,upTo_succ,List.range_succ,List.filter_append,List.length_append,←Nat.add_assoc,←ih];by_cases h:P (k+n)=true
  ·rw[if_pos h];simp[h]
  ·rw[if_neg h];simp[h]
theorem popS_upTo {bs:List Int} {Q:Nat→Prop} (hs:SetB bs Q) (P:Nat→Bool) (hP:∀ v,v<256→(P v=true↔Q v)) (k:Nat) (hk:k≤32):popS bs k=(upTo P (k*8)).length:=by
 induction k with
 |zero=>rfl
 |succ k ih=>
  rw[popS_succ,ih (by omega),show(k+1)*8=k*8+8 by omega,upTo_add]
  congr 1
  unfold pop8
  congr 1
  refine List.filter_congr (fun j hj=>?_);have hj':=List.mem_range.1 hj;have h3:=hs.2.2 (k*8+j) (by omega);rw[show(k*8+j)/8=k by omega,show(k*8+j)%8=j by omega] at h3;have h0:=(hs.2.1.get k).1;obtain⟨x,hx⟩:=Int.eq_ofNat_of_zero_le h0;rw[hx] at h3;rw[hx,Int.toNat_natCast];have e:((x:Int)/2^j%2=1)↔(x/2^j%2=1):=by
   rw[show((2:Int)^j)=((2^j:Nat):Int) by simp,←Int.natCast_ediv];omega
  rw[e] at h3;have:=h3.trans (hP (k*8+j) (by omega)).symm;by_cases hp:P (k*8+j)=true
  ·rw[hp];simpa using this.2 hp
  ·have h4:¬ (x/2^j%2=1):=fun h=>hp (this.1 h)
   rw[Bool.not_eq_true] at hp;rw[hp];simpa using h4
theorem pop_len {bs D:List Int} (hs:SetB bs (fun v=>(v:Int)∈D)) (hD:SerP D):popS bs 32=D.length:=by
 have h:=popS_upTo hs (fun v=>decide ((v:Int)∈D)) (fun v _=>by simp) 32 (by omega);rw[h,hD.eq_upTo _ (fun v _=>by simp)]
theorem without_ser {D:List Int} (hD:SerP D) (x:Int):SerP (D.filter (fun z=>z != x)):=
 SerP.of_asc (List.Pairwise.filter _ hD.asc) (fun z hz=>hD.range (List.mem_filter.1 hz).1)
end Go.Proofs.YthmeoilbmfdhfaaGreat
namespace Go.Proofs.YthmeoilbmfdhfaaGreat
open Go.ChangeShapes Go.WideShapes Go.ChangeAt Go.RowKit
set_option linter.unusedVariables false
def tapI (U T:List Int) (i:Nat):Prop:=T.getD (i*2) 0∈U∧(0≤T.getD (i*2+1) 0∧T.getD (i*2+1) 0≤4294967295)∧∀ j,j<i→T.getD (j*2) 0≠T.getD (i*2) 0
def TapP (U T:List Int) (n:Nat):Prop:=∀ i,i<n→tapI U T i
open Classical in
noncomputable def tapB (U T:List Int) (n:Nat):Bool:=decide (TapP U T n)
theorem tapB_no {U T:List Int} {n:Nat} (h:¬ TapP U T n):tapB U T n=false:=by unfold tapB;simp[h]
theorem tapB_yes {U T:List Int} {n:Nat} (h:TapP U T n):tapB U T n=true:=by unfold tapB;simp[h]
theorem Row.low {w w':World} {g:Nat} {t:TypeId} {bs:List Int} {B:Nat} (h:Row w g t bs) (b:Below B w w') (hg:g<B):Row w' g t bs:=by unfold Row;rw[b.block g hg];exact h
structure TFS (w:World) (U T:List Int) (k:Nat) (wr:World):Prop where
 below:Below w.heap.size w wr
 set:∃ bs,Row wr w.heap.size 75 bs∧SetB bs (fun v=>(v:Int)∈U∧∀ j,j<k→T.getD (j*2) 0≠(v:Int))
 ok:∀ i,i<k→tapI U T i
open Classical in
set_option maxRecDepth 100000 in
set_option maxHeartbeats 4000000 in
theorem tapsFit_any (a:Option Addr) (n cap:Nat) (U T us:List Int) (w:World) (hn:T.length=n*2) (hm:n≤1048576) (ha:At .i64 w a T) (hU:SerP U) (hs:SetB us (fun v=>(v:Int)∈U)) :
  Calls Tryz.prog 84 #[.slice a n cap,.agg (us.map (Value.int .u8)).toArray] w fun e w'=>e=.returned (.bool (tapB U T n))∧Below w.heap.size w w':=by
 have HS:Hid (TFS w U T 0 (w.alloc (.cells (us.map (Value.int .u8)).toArray 75))):=
  ⟨(Below.refl _ _).alloc (Nat.le_refl _) _,⟨us,heap_alloc_new w _,hs.congr (fun v _=>⟨fun h=>⟨h,fun j hj=>by omega⟩,fun h=>h.1⟩)⟩,fun i hi=>by omega⟩
 have HA:Hid (At .i64 w a T):=ha;have HNX:Hid (T.length=n*2):=hn;have HUR:Hid (∀ z∈U,0≤z∧z<256):=fun z hz=>by
  obtain⟨i,hi,rfl⟩:=List.getElem_of_mem hz;have:=hU i hi;rw[show U[i]=U.getD i 0 by simp[List.getD,hi]];exact⟨this.1,this.2.1⟩
 clear ha hn hs hU;go_enter Tryz.func84,Tryz.ntmps84;go_wp2_with fail;generalize w.alloc (.cells (us.map (Value.int .u8)).toArray 75)=w0 at *
 go_loopw [9] (fun i wr=>∃ k:Nat,k≤n∧i=.int .i64 k∧TFS w U T k wr) (fun i _=>n-(intOf i).toNat)
 case atStart=>exact⟨0,Nat.zero_le _,rfl,HS.out⟩
 case round=>
  clear HS;obtain⟨k,hk,rfl,hst⟩:=hrel;by_cases hlt:k<n
  ·have hlt':(k:Int)<n:=by omega
   obtain⟨b,off,ea,hb,hc⟩:=(HA.out.below hst.below).get (by have:=HNX.out;omega);have c0:=hc (k*2) (by have:=HNX.out;omega);have c1:=hc (k*2+1) (by have:=HNX.out;omega);rw[←Nat.add_assoc] at c1;have HST:Hid (TFS w U T k wr):=hst;subst ea;obtain⟨bs,hrow,hset⟩:=hst.set;have HTI:Hid (tapI U T k↔(T.getD (k*2) 0∈U∧(0≤T.getD (k*2+1) 0∧T.getD (k*2+1) 0≤4294967295)∧∀ j,j<k→T.getD (j*2) 0≠T.getD (k*2) 0)):=Iff.rfl;generalize hs':T.getD (k*2) 0=s at *;generalize hn':T.getD (k*2+1) 0=nw at *;have b1:Below wr.heap.size wr (wr.alloc (.cells #[.int .i64 s,.int .i64 nw] 133)):=(Below.refl _ _).alloc (Nat.le_refl _) _;have hrow1:Row (wr.alloc (.cells #[.int .i64 s,.int .i64 nw] 133)) w.heap.size 75 bs:=hrow.low b1 hrow.lt;have HBT:Hid (BAt (wr.alloc (.cells #[.int .i64 s,.int .i64 nw] 133)) w.heap.size 0 bs):=hrow1.bat hset.1 hset.2.1;have HB1:Hid (Below w.heap.size w (wr.alloc (.cells #[.int .i64 s,.int .i64 nw] 133))):=HST.out.below.trans (b1.mono HST.out.below.size);have HSB:Hid (SetB bs (fun v=>(v:Int)∈U∧∀ j,j<k→T.getD (j*2) 0≠(v:Int))):=hset;have HRW:Hid (Row (wr.alloc (.cells #[.int .i64 s,.int .i64 nw] 133)) w.heap.size 75 bs):=hrow1;have HHQ:Hid (decide (s∈U∧∀ j,j<k→T.getD (j*2) 0≠s)=true↔(0≤s∧s<256∧((s.toNat:Int)∈U∧∀ j,j<k→T.getD (j*2) 0≠(s.toNat:Int)))):=by
    show _↔_
    rw[decide_eq_true_eq];constructor
    ·rintro⟨h1,h2⟩;obtain⟨r0,r1⟩:=HUR.out s h1;have e:(s.toNat:Int)=s:=Int.toNat_of_nonneg r0;rw[e];exact⟨r0,r1,h1,h2⟩
    ·rintro⟨r0,r1,h⟩;have e:(s.toNat:Int)=s:=Int.toNat_of_nonneg r0
     rwa [e] at h
   clear hst hc hb hrow hset hrow1 b1;go_wp2_with fail;generalize hW:wr.alloc (.cells #[.int .i64 s,.int .i64 nw] 133)=w1 at *;have hc10:w1.cell? ⟨wr.heap.size,1,none⟩=some (.int .i64 nw):=by rw[←hW];exact cell_of_row _ _ _ _ _ _ (heap_alloc_new wr _)
   have hc00:w1.cell? ⟨wr.heap.size,0,none⟩=some (.int .i64 s):=by rw[←hW];exact cell_of_row _ _ _ _ _ _ (heap_alloc_new wr _)
   have hwl:w.heap.size<wr.heap.size:=by obtain⟨b',r',_⟩:=HST.out.set;exact r'.lt
   clear hW;refine(hasS_any w.heap.size 0 s bs _ (decide (s∈U∧∀ j,j<k→T.getD (j*2) 0≠s)) _ HBT.out HSB.out HHQ.out).mono ?_;rintro e w2 ⟨rfl,rfl⟩;by_cases hin:s∈U∧∀ j,j<k→T.getD (j*2) 0≠s
   ·rw[decide_eq_true hin];have HIN:Hid (s∈U∧∀ j,j<k→T.getD (j*2) 0≠s):=hin;clear hin HHQ;go_wp2_with fail;refine(isNow_any _ _).mono ?_;rintro e w3 ⟨rfl,rfl⟩;by_cases hno:0≤nw∧nw≤4294967295
    ·have HNO:Hid (nowOk nw=true):=decide_eq_true hno;obtain⟨r0,r1⟩:=HUR.out s HIN.out.1;obtain⟨v,hv⟩:=Int.eq_ofNat_of_zero_le r0;have hv256:v<256:=by omega
     have HN:∀ q,Hid (TFS w U T (k+1) ((w3.setCell ⟨w.heap.size,0+v/8,none⟩ (.int .u8 ((remB bs v).getD (v/8) 0))).drewN q)):=fun q=>by
      have hr2:=HRW.out.set (v/8) ((remB bs v).getD (v/8) 0);have e2:bs.set (v/8) ((remB bs v).getD (v/8) 0)=remB bs v:=by
       unfold remB;rw[getD_set8 _ _ _ _ (by have:=HSB.out.1;omega),if_pos rfl]
      rw[e2] at hr2;have hw:Wr w.heap.size w3 (w3.setCell ⟨w.heap.size,v/8,none⟩ (.int .u8 ((remB bs v).getD (v/8) 0))):=(Wr.refl _ _).setCell _ _;rw[Nat.zero_add];refine⟨?_,⟨remB bs v,hr2,(HSB.out.rem v hv256).congr (fun u hu=>?_)⟩,fun i hi=>?_⟩
      ·have bq:=HB1.out.trans (hw.below (Nat.le_refl _));exact⟨bq.os,bq.tape,bq.output,bq.size,bq.block⟩
      ·constructor
       ·rintro⟨⟨h1,h2⟩,h3⟩;refine⟨h1,fun j hj=>?_⟩;by_cases hjk:j<k
        ·exact h2 j hjk
        ·have:j=k:=by omega
         subst this;rw[hs',hv];intro e;exact h3 (by omega)
       ·rintro⟨h1,h2⟩;refine⟨⟨h1,fun j hj=>h2 j (by omega)⟩,fun e=>?_⟩;have:=h2 k (by omega);rw[hs',hv,e] at this;exact this rfl
      ·by_cases hik:i<k
       ·exact HST.out.ok i hik
       ·have:i=k:=by omega
        subst this;exact HTI.out.2 ⟨HIN.out.1,hno,HIN.out.2⟩
     rw[HNO.out];clear hno r0 r1 HIN;subst hv;go_wp2_with fail;refine(remS_any w.heap.size 0 v bs _ hv256 HBT.out).mono ?_;rintro e w4 ⟨rfl,q,rfl⟩;have H2:=HN q;clear HN HBT HST HRW HSB HB1;generalize (w3.setCell ⟨w.heap.size,0+v/8,none⟩ (.int .u8 ((remB bs v).getD (v/8) 0))).drewN q=w4 at *;go_wp2;go_roundw
     case rel=>exact⟨k+1,by omega,by go_num,H2.out⟩
     case measure=>simp[intOf];omega
    ·have HNO:Hid (nowOk nw=false):=decide_eq_false hno;have HNT:Hid (tapB U T n=false):=tapB_no (fun h=>hno (HTI.out.1 (h k hlt)).2.1);rw[HNO.out];clear hno;go_wp2
     go_ret
     exact⟨by rw[HNT.out];rfl,HB1.out⟩
   ·rw[decide_eq_false hin];have HNT:Hid (tapB U T n=false):=tapB_no (fun h=>hin ⟨(HTI.out.1 (h k hlt)).1,(HTI.out.1 (h k hlt)).2.2⟩);clear hin HHQ;go_wp2
    go_ret
    exact⟨by rw[HNT.out];rfl,HB1.out⟩
  ·have hkn:k=n:=by omega
   have hlt':¬ ((k:Int)<n):=by omega
   have HNT:Hid (tapB U T n=true):=tapB_yes (fun i hi=>hst.ok i (by omega));have HBW:Hid (Below w.heap.size w wr):=hst.below;clear hst;go_wp2
   go_ret
   exact⟨by rw[HNT.out];rfl,HBW.out⟩
section
variable {P:Program} {ops:Array Oper} {Q:Exit→Act→World→Prop} {md:Region.Mode}
theorem wpAny_end {fuel:Nat} {listed:Array Bool} {a:Act} {w:World} (hr:Region.ready md ops listed=[]) (hq:Q .normal a w):wpAny P md ops Q fuel listed a w:=by
 cases fuel with
 |zero=>exact⟨hr,hq⟩
 |succ fuel=>exact⟨fun _=>hq,fun i hi=>by rw[hr] at hi;cases hi⟩
theorem wpAny_slotsL (last:Nat) (M:World→World→Prop) (frame:(Nat→Value)→Act) (Ext:World→Prop) (Good:Nat→World→Value→Prop)
  (hlast:ops.size=last+1)
  (hwait:((ops[last]?).map (fun o=>(List.range last).all (fun j=>o.after.any (fun e=>Region.binds md e && decide (e.on=j))))).getD false=true)
  (hmono:∀ i w w' v,M w w'→Good i w v→Good i w' v)
  (hguard:ops.all (fun o=>o.guard.isNone)=true)
  (hback:(List.range ops.size).all (fun i=>((ops[i]?).map (fun o=>o.after.all (fun e=>decide (e.on<i)))).getD false)=true)
  (hop:∀(i:Nat) (o:Oper) (u:Nat→Value) (w:World),i<last→ops[i]?=some o→Ext w→(∀ e∈o.after,Region.binds md e=true→Good e.on w (u e.on))→
   ∀ K:Act→World→Prop,(∀ w' v,Good i w' v→Ext w'→M w w'→K (frame (upd u i v)) w')→Oper.wp P o (frame u) w K Q)
  (hend:∀(o:Oper) (u:Nat→Value) (w:World),ops[last]?=some o→Ext w→(∀ i,i<last→Good i w (u i))→
   ∀ K:Act→World→Prop,(∀ a w',Q .normal a w'→K a w')→Oper.wp P o (frame u) w K Q) :
  ∀(fuel:Nat) (listed:Array Bool) (u:Nat→Value) (w:World),listed.size=ops.size→listed.getD last false=false→Ext w→(∀ i,i<last→listed.getD i false=true→Good i w (u i))→
   (listed.toList.filter (!·)).length≤fuel→wpAny P md ops Q fuel listed (frame u) w:=by
 have hb:∀(i:Nat) (o:Oper),ops[i]?=some o→∀ e∈o.after,e.on<i:=fun i o ho e he=>by
  have hi:i<ops.size:=(Array.getElem?_eq_some_iff.1 ho).1;have:=List.all_eq_true.1 hback i (List.mem_range.2 hi);rw[ho] at this;simp at this;obtain⟨k,hk,rfl⟩:=Array.mem_iff_getElem.1 he;exact this k hk
 have hg:∀(i:Nat) (o:Oper),ops[i]?=some o→o.guard=none:=fun i o ho=>by
  have:=Array.all_eq_true_iff_forall_mem.1 hguard o (Array.mem_of_getElem? ho);simpa using this
 have hw:∀ o,ops[last]?=some o→∀ j,j<last→∃ e∈o.after,Region.binds md e=true∧e.on=j:=fun o ho j hj=>by
  rw[ho] at hwait;have h1:(List.range last).all (fun j=>o.after.any (fun e=>Region.binds md e && decide (e.on=j)))=true:=by simpa using hwait
  have h2:=List.all_eq_true.1 h1 j (List.mem_range.2 hj);obtain⟨e,he,h3⟩:=Array.any_eq_true'.1 h2;simp at h3;exact⟨e,he,h3⟩
 have hno:∀(listed:Array Bool),listed.size=ops.size→listed.getD last false=false→Region.ready md ops listed≠[]:=by
  intro listed hs hl0 hr;have hall:∀ n i,i<n→i<ops.size→listed.getD i false=true:=by
   intro n
   induction n with
   |zero=>intro i h;omega
   |succ n ih=>
    intro i hin hi;by_cases hlt:i<n
    ·exact ih i hlt hi
    ·cases hl:listed.getD i false with
     |true=>rfl
     |false=>
      exfalso
      have hl':listed.getD i true=false:=by
       have hil:i<listed.size:=by omega
       simp[hil] at hl ⊢;exact hl
      have:i∈Region.ready md ops listed:=mem_ready.2 ⟨hi,hl',ops[i],by simp[hi],fun e hee _=>ih e.on (by have:=hb i ops[i] (by simp[hi]) e hee;omega) (by have:=hb i ops[i] (by simp[hi]) e hee;omega)⟩;rw[hr] at this;cases this
  have:=hall (last+1) last (by omega) (by omega);rw[hl0] at this;cases this
 intro fuel
 induction fuel with
 |zero=>
  intro listed u w hs hl0 he hgd hc
  exfalso
  have hil:last<listed.size:=by omega
  have h3:listed[last]=false:=by simpa[hil] using hl0
  have:listed[last]∈listed.toList.filter (!·):=by
   rw[List.mem_filter];exact⟨by simp,by rw[h3];rfl⟩
  have:=List.length_pos_of_mem this;omega
 |succ fuel ih=>
  intro listed u w hs hl0 he hgd hc;refine⟨fun hr=>absurd hr (hno listed hs hl0),fun i hi=>?_⟩;obtain⟨h1,h2,o,ho,h3⟩:=mem_ready.1 hi;refine wpOp_step ho fun K hK=>?_
  have hwn:Region.wanted o (yielded ops (frame u).tmps)=true:=by simp[Region.wanted,hg i o ho]
  rw[if_pos hwn];have hil:i<listed.size:=by omega
  by_cases hi':i<last
  ·refine hop i o u w hi' ho he (fun e hee hbd=>hgd e.on (by have:=hb i o ho e hee;omega) (h3 e hee hbd)) K fun w' v hgv hext hm=>hK _ _ ?_
   refine ih _ _ w' (by simpa using hs) ?_ hext (fun j hj hlj=>?_) ?_
   ·rw[getD_set listed i last hil,if_neg (by omega)];exact hl0
   ·rw[getD_set listed i j hil] at hlj;unfold upd;by_cases hji:j=i
    ·subst hji;simpa using hgv
    ·rw[if_neg hji] at hlj;rw[if_neg hji];exact hmono j w w' _ hm (hgd j hj hlj)
   ·have:listed.toList[i]?=some false:=by simp[hil] at h2;simp[hil,h2]
    have:=count_set listed.toList i this;rw[Array.toList_setIfInBounds];omega
  ·have hie:i=last:=by omega
   subst hie;have hlst:∀ j,j<i→listed.getD j false=true:=fun j hj=>by
    obtain⟨e,hee,hbd,rfl⟩:=hw o ho j hj;exact h3 e hee hbd
   refine hend o u w ho he (fun j hj=>hgd j hj (hlst j hj)) K fun a w' hq=>hK _ _ (wpAny_end ?_ hq)
   apply List.eq_nil_iff_forall_not_mem.2;intro j hj;obtain⟨g1,g2,_⟩:=mem_ready.1 hj;have hjl:j<listed.size:=by omega
   have g3:(listed.setIfInBounds i true).getD j false=false:=by
    have:j<(listed.setIfInBounds i true).size:=by simpa using hjl
    rw[Array.getD_eq_getD_getElem?,Array.getElem?_eq_getElem this] at g2 ⊢;exact g2
   rw[getD_set listed i j hil] at g3;by_cases hji:j=i
   ·rw[if_pos hji] at g3;cases g3
   ·rw[if_neg hji,hlst j (by omega)] at g3;cases g3
end
section
variable {P:Program} {ops:Array Oper} {Q:Exit→Act→World→Prop} {md:Region.Mode}
def updK (L:Nat→Bool) (i:Nat):Nat→Bool:=fun j=>if j=i then true else L j
theorem wpAny_slotsK (last:Nat) (M:Nat→World→World→Prop) (frame:(Nat→Value)→Act) (Ext:(Nat→Bool)→World→Prop) (Good:Nat→(Nat→Bool)→World→Value→Prop)
  (hlast:ops.size=last+1)
  (hwait:((ops[last]?).map (fun o=>(List.range last).all (fun j=>o.after.any (fun e=>Region.binds md e && decide (e.on=j))))).getD false=true)
  (hstab:∀ j L w w' i v,M i w w'→i≠j→L i=false→Good j L w v→Good j (updK L i) w' v)
  (hguard:ops.all (fun o=>o.guard.isNone)=true)
  (hback:(List.range ops.size).all (fun i=>((ops[i]?).map (fun o=>o.after.all (fun e=>decide (e.on<i)))).getD false)=true)
  (hop:∀(i:Nat) (o:Oper) (L:Nat→Bool) (u:Nat→Value) (w:World),i<last→ops[i]?=some o→L i=false→Ext L w→(∀ e∈o.after,Region.binds md e=true→Good e.on L w (u e.on))→
   ∀ K:Act→World→Prop,(∀ w' v,Good i (updK L i) w' v→Ext (updK L i) w'→M i w w'→K (frame (upd u i v)) w')→Oper.wp P o (frame u) w K Q)
  (hend:∀(o:Oper) (L:Nat→Bool) (u:Nat→Value) (w:World),ops[last]?=some o→Ext L w→(∀ i,i<last→Good i L w (u i))→
   ∀ K:Act→World→Prop,(∀ a w',Q .normal a w'→K a w')→Oper.wp P o (frame u) w K Q) :
  ∀(fuel:Nat) (listed:Array Bool) (u:Nat→Value) (w:World),listed.size=ops.size→listed.getD last false=false→Ext (fun n=>listed.getD n false) w→(∀ i,i<last→listed.getD i false=true→Good i (fun n=>listed.getD n false) w (u i))→
   (listed.toList.filter (!·)).length≤fuel→wpAny P md ops Q fuel listed (frame u) w:=by
 have hb:∀(i:Nat) (o:Oper),ops[i]?=some o→∀ e∈o.after,e.on<i:=fun i o ho e he=>by
  have hi:i<ops.size:=(Array.getElem?_eq_some_iff.1 ho).1;have:=List.all_eq_true.1 hback i (List.mem_range.2 hi);rw[ho] at this;simp at this;obtain⟨k,hk,rfl⟩:=Array.mem_iff_getElem.1 he;exact this k hk
 have hg:∀(i:Nat) (o:Oper),ops[i]?=some o→o.guard=none:=fun i o ho=>by
  have:=Array.all_eq_true_iff_forall_mem.1 hguard o (Array.mem_of_getElem? ho);simpa using this
 have hw:∀ o,ops[last]?=some o→∀ j,j<last→∃ e∈o.after,Region.binds md e=true∧e.on=j:=fun o ho j hj=>by
  rw[ho] at hwait;have h1:(List.range last).all (fun j=>o.after.any (fun e=>Region.binds md e && decide (e.on=j)))=true:=by simpa using hwait
  have h2:=List.all_eq_true.1 h1 j (List.mem_range.2 hj);obtain⟨e,he,h3⟩:=Array.any_eq_true'.1 h2;simp at h3;exact⟨e,he,h3⟩
 have hno:∀(listed:Array Bool),listed.size=ops.size→listed.getD last false=false→Region.ready md ops listed≠[]:=by
  intro listed hs hl0 hr;have hall:∀ n i,i<n→i<ops.size→listed.getD i false=true:=by
   intro n
   induction n with
   |zero=>intro i h;omega
   |succ n ih=>
    intro i hin hi;by_cases hlt:i<n
    ·exact ih i hlt hi
    ·cases hl:listed.getD i false with
     |true=>rfl
     |false=>
      exfalso
      have hl':listed.getD i true=false:=by
       have hil:i<listed.size:=by omega
       simp[hil] at hl ⊢;exact hl
      have:i∈Region.ready md ops listed:=mem_ready.2 ⟨hi,hl',ops[i],by simp[hi],fun e hee _=>ih e.on (by have:=hb i ops[i] (by simp[hi]) e hee;omega) (by have:=hb i ops[i] (by simp[hi]) e hee;omega)⟩;rw[hr] at this;cases this
  have:=hall (last+1) last (by omega) (by omega);rw[hl0] at this;cases this
 intro fuel
 induction fuel with
 |zero=>
  intro listed u w hs hl0 he hgd hc
  exfalso
  have hil:last<listed.size:=by omega
  have h3:listed[last]=false:=by simpa[hil] using hl0
  have:listed[last]∈listed.toList.filter (!·):=by
   rw[List.mem_filter];exact⟨by simp,by rw[h3];rfl⟩
  have:=List.length_pos_of_mem this;omega
 |succ fuel ih=>
  intro listed u w hs hl0 he hgd hc;refine⟨fun hr=>absurd hr (hno listed hs hl0),fun i hi=>?_⟩;obtain⟨h1,h2,o,ho,h3⟩:=mem_ready.1 hi;refine wpOp_step ho fun K hK=>?_
  have hwn:Region.wanted o (yielded ops (frame u).tmps)=true:=by simp[Region.wanted,hg i o ho]
  rw[if_pos hwn];have hil:i<listed.size:=by omega
  by_cases hi':i<last
  ·have hnl:listed.getD i false=false:=by simp[hil] at h2 ⊢;exact h2
   have hupd:(fun n=>(listed.setIfInBounds i true).getD n false)=updK (fun n=>listed.getD n false) i:=by
    funext n;rw[getD_set listed i n hil];rfl
   refine hop i o (fun n=>listed.getD n false) u w hi' ho hnl he (fun e hee hbd=>hgd e.on (by have:=hb i o ho e hee;omega) (h3 e hee hbd)) K fun w' v hgv hext hm=>hK _ _ ?_
   refine ih _ _ w' (by simpa using hs) ?_ (by rw[hupd];exact hext) (fun j hj hlj=>?_) ?_
   ·rw[getD_set listed i last hil,if_neg (by omega)];exact hl0
   ·rw[getD_set listed i j hil] at hlj;unfold upd;by_cases hji:j=i
    ·subst hji;rw[hupd];simpa using hgv
    ·rw[if_neg hji] at hlj;rw[if_neg hji,hupd];exact hstab j _ w w' i _ hm (Ne.symm hji) hnl (hgd j hj hlj)
   ·have:listed.toList[i]?=some false:=by simp[hil] at h2;simp[hil,h2]
    have:=count_set listed.toList i this;rw[Array.toList_setIfInBounds];omega
  ·have hie:i=last:=by omega
   subst hie;have hlst:∀ j,j<i→listed.getD j false=true:=fun j hj=>by
    obtain⟨e,hee,hbd,rfl⟩:=hw o ho j hj;exact h3 e hee hbd
   refine hend o (fun n=>listed.getD n false) u w ho he (fun j hj=>hgd j hj (hlst j hj)) K fun a w' hq=>hK _ _ (wpAny_end ?_ hq)
   apply List.eq_nil_iff_forall_not_mem.2;intro j hj;obtain⟨g1,g2,_⟩:=mem_ready.1 hj;have hjl:j<listed.size:=by omega
   have g3:(listed.setIfInBounds i true).getD j false=false:=by
    have:j<(listed.setIfInBounds i true).size:=by simpa using hjl
    rw[Array.getD_eq_getD_getElem?,Array.getElem?_eq_getElem this] at g2 ⊢;exact g2
   rw[getD_set listed i j hil] at g3;by_cases hji:j=i
   ·rw[if_pos hji] at g3;cases g3
   ·rw[if_neg hji,hlst j (by omega)] at g3;cases g3
end
section
variable {P:Program} {ops:Array Oper} {Q:Exit→Act→World→Prop} {md:Region.Mode}
theorem wpAny_slotsG (M:Nat→World→World→Prop) (frame:(Nat→Value)→Act) (Ext:(Nat→Bool)→World→Prop) (Good:Nat→(Nat→Bool)→World→Value→Prop)
  (hstab:∀ j L w w' i v,M i w w'→i≠j→L i=false→Good j L w v→Good j (updK L i) w' v)
  (hback:(List.range ops.size).all (fun i=>((ops[i]?).map (fun o=>o.after.all (fun e=>decide (e.on<i)))).getD false)=true)
  (hop:∀(i:Nat) (o:Oper) (L:Nat→Bool) (u:Nat→Value) (w:World),ops[i]?=some o→L i=false→Ext L w→(∀ e∈o.after,Region.binds md e=true→Good e.on L w (u e.on))→
   ∀ K:Act→World→Prop,(∀ w' v,Good i (updK L i) w' v→Ext (updK L i) w'→M i w w'→K (frame (upd u i v)) w')→(if Region.wanted o (yielded ops (frame u).tmps)=true then Oper.wp P o (frame u) w K Q else K ((frame u).put o.dst undef) w))
  (hdone:∀ L u w,Ext L w→(∀ i,i<ops.size→Good i L w (u i))→Q .normal (frame u) w) :
  ∀(fuel:Nat) (listed:Array Bool) (u:Nat→Value) (w:World),listed.size=ops.size→Ext (fun n=>listed.getD n false) w→(∀ i,i<ops.size→listed.getD i false=true→Good i (fun n=>listed.getD n false) w (u i))→
   (listed.toList.filter (!·)).length≤fuel→wpAny P md ops Q fuel listed (frame u) w:=by
 have hb:∀(i:Nat) (o:Oper),ops[i]?=some o→∀ e∈o.after,e.on<i:=fun i o ho e he=>by
  have hi:i<ops.size:=(Array.getElem?_eq_some_iff.1 ho).1;have:=List.all_eq_true.1 hback i (List.mem_range.2 hi);rw[ho] at this;simp at this;obtain⟨k,hk,rfl⟩:=Array.mem_iff_getElem.1 he;exact this k hk
 have hfin:∀(listed:Array Bool) (u:Nat→Value) (w:World),listed.size=ops.size→Ext (fun n=>listed.getD n false) w→(∀ i,i<ops.size→listed.getD i false=true→Good i (fun n=>listed.getD n false) w (u i))→Region.ready md ops listed=[]→Q .normal (frame u) w:=by
  intro listed u w hs he hgd hr;refine hdone _ u w he fun i hi=>hgd i hi ?_
  have hall:∀ n i,i<n→i<ops.size→listed.getD i false=true:=by
   intro n
   induction n with
   |zero=>intro i h;omega
   |succ n ih=>
    intro i hin hi;by_cases hlt:i<n
    ·exact ih i hlt hi
    ·cases hl:listed.getD i false with
     |true=>rfl
     |false=>
      exfalso
      have hl':listed.getD i true=false:=by
       have hil:i<listed.size:=by omega
       simp[hil] at hl ⊢;exact hl
      have:i∈Region.ready md ops listed:=mem_ready.2 ⟨hi,hl',ops[i],by simp[hi],fun e hee _=>ih e.on (by have:=hb i ops[i] (by simp[hi]) e hee;omega) (by have:=hb i ops[i] (by simp[hi]) e hee;omega)⟩;rw[hr] at this;cases this
  exact hall (i+1) i (by omega) hi
 intro fuel
 induction fuel with
 |zero=>
  intro listed u w hs he hgd hc;have hr:Region.ready md ops listed=[]:=by
   apply List.eq_nil_iff_forall_not_mem.2;intro i hi;obtain⟨h1,h2,_⟩:=mem_ready.1 hi;have hil:i<listed.size:=by omega
   have h3:listed[i]=false:=by simpa[hil] using h2
   have:listed[i]∈listed.toList.filter (!·):=by
    rw[List.mem_filter];exact⟨by simp,by rw[h3];rfl⟩
   have:=List.length_pos_of_mem this;omega
  exact⟨hr,hfin listed u w hs he hgd hr⟩
 |succ fuel ih=>
  intro listed u w hs he hgd hc;refine⟨fun hr=>hfin listed u w hs he hgd hr,fun i hi=>?_⟩;obtain⟨h1,h2,o,ho,h3⟩:=mem_ready.1 hi;refine wpOp_step ho fun K hK=>?_
  have hil:i<listed.size:=by omega
  have hnl:listed.getD i false=false:=by simp[hil] at h2 ⊢;exact h2
  have hupd:(fun n=>(listed.setIfInBounds i true).getD n false)=updK (fun n=>listed.getD n false) i:=by
   funext n;rw[getD_set listed i n hil];rfl
  refine hop i o (fun n=>listed.getD n false) u w ho hnl he (fun e hee hbd=>hgd e.on (by have:=hb i o ho e hee;omega) (h3 e hee hbd)) K fun w' v hgv hext hm=>hK _ _ ?_
  refine ih _ _ w' (by simpa using hs) (by rw[hupd];exact hext) (fun j hj hlj=>?_) ?_
  ·rw[getD_set listed i j hil] at hlj;unfold upd;by_cases hji:j=i
   ·subst hji;rw[hupd];simpa using hgv
   ·rw[if_neg hji] at hlj;rw[if_neg hji,hupd];exact hstab j _ w w' i _ hm (Ne.symm hji) hnl (hgd j hj hlj)
  ·have:listed.toList[i]?=some false:=by simp[hil] at h2;simp[hil,h2]
   have:=count_set listed.toList i this;rw[Array.toList_setIfInBounds];omega
end
theorem dN (w:World) (q p:Nat):(w.drewN q).drewN p=w.drewN (q+p):=by simp[World.drewN,Nat.add_assoc]
theorem below_dq {B:Nat} {a w:World} (h:Below B a w) (n:Nat):Below B a (w.drewN n):=⟨h.os,h.tape,h.output,h.size,h.block⟩
theorem Tryz.infoTap:(Tryz.prog.info? 133).map (fun i=>(i.zero,i.size,i.bytes))=some (some (.agg #[.int .i64 0,.int .i64 0]),2,16):=by kernel_rfl
def TapO (B:Nat) (w:World) (v:Value) (T:List Int) (n:Nat):Prop:=w.ownsRow B 133 2 v n (T.map (Value.int .i64))
theorem run_nilT (w:World) (a:Option Addr) (n c:Nat):(binOp .eql 32 (.slice a n c) (.slice none 0 0)).run Tryz.prog w=.ok (.bool a.isNone) w:=by
 have h:∀ d,(Op.equalIn (d+1) 32 (.slice a n c) (.slice none 0 0)).run Tryz.prog w=.ok a.isNone w:=fun d=>by
  cases a<;>simp[Op.equalIn,run_underlying Tryz.underlying32]
 have h':(Op.equal 32 (.slice a n c) (.slice none 0 0)).run Tryz.prog w=.ok a.isNone w:=h 9999;simp only[binOp];simp[h']
def ClT (w:World) (T:List Int) (n:Nat) (e:Ending) (w':World):Prop:=∃ v,e=.returned v∧TapO w.heap.size w' v T n∧v.oneCell'=true∧Below w.heap.size w w'
theorem wpList_appT (w:World) {ops:Array Oper} {rest:List Oper} {o:Oper} {a:Act} {Q:Exit→Act→World→Prop} (hg:o.guard=none) (sx x:Operand)
  (hop:o.op=Op.call { callee:=Callee.builtin Builtin.append,args:=#[sx,x],argTypes:=#[32,32] }) (B:Nat) (v:Value) (xs:List Value) (hs:a.eval sx=v) (hown:w.ownsRow B 133 2 v 0 xs)
  (ad:Addr) (n c:Nat) (T:List Int) (hx:a.eval x=.slice (some ad) n c) (hl:(T.map (Value.int .i64)).length=n*2) (hnews:∀ j u,(T.map (Value.int .i64))[j]?=some u→w.cell? (ad.add j)=some u) (hm:n≤1048576) (hB:B≤w.heap.size)
  (hK:∀ v' w',w'.ownsRow B 133 2 v' n (xs++T.map (Value.int .i64))→w.grownBy w' v.ownBlock→wpList Tryz.prog ops Q rest (a.put o.dst v') w') :
  wpList Tryz.prog ops Q (o::rest) a w:=by
 obtain⟨i0,hi,hz0,hz1,hz2⟩:=info_parts Tryz.infoTap;refine wpList_append_own_at w hg sx x 32 hop B 133 i0 (.agg #[.int .i64 0,.int .i64 0]) 2 16 Tryz.underlying32 hi hz0 hz1 hz2 rfl (by decide) v 0 xs hs hown ad n c (T.map (Value.int .i64)) hx hl hnews (ints_oneCell _ _) (by unfold maxLen;omega) (by omega) hB ?_;intro v' w' h1 h2 _ _;rw[Nat.zero_add] at h1;exact hK v' w' h1 h2
set_option maxRecDepth 100000 in
set_option maxHeartbeats 1000000 in
theorem clnT_any (a:Option Addr) (n cap:Nat) (T:List Int) (w:World) (hn:T.length=n*2) (hm:n≤1048576) (ha:At .i64 w a T) (hnil:a=none→n=0∧cap=0) :
  Calls Tryz.prog 85 #[.slice a n cap] w (ClT w T n):=by
 cases a with
 |none=>
  obtain⟨rfl,rfl⟩:=hnil rfl;have hT:T=[]:=List.eq_nil_of_length_eq_zero (by omega);subst hT;have HP:Hid (ClT w [] 0 (.returned (.slice none 0 0)) w):=⟨_,rfl,⟨by simp,.inl ⟨rfl,rfl⟩⟩,rfl,Below.refl _ _⟩
  have E:=run_nilT w none 0 0;clear hn ha hnil hm;go_enter Tryz.func85,Tryz.ntmps85;go_wp2
  go_ret
  exact HP.out
 |some ad=>
  have HNW:Hid (∀ j u,(T.map (Value.int .i64))[j]?=some u→(w.alloc (.cells #[] 133)).cell? (ad.add j)=some u):=by
   intro j u hu;have hj:j<T.length:=by have:=(List.getElem?_eq_some_iff.1 hu).1;simpa using this
   obtain⟨b,off,e,hb,hc⟩:=ha.get (by omega);cases e;rw[Addr.add_lit,World.cell?_alloc_old _ _ _ (by show b≠w.heap.size;omega),hc j hj];simp[hj] at hu;simp[hj,hu]
  have HO:Hid ((w.alloc (.cells #[] 133)).ownsRow w.heap.size 133 2 (.slice (some ⟨w.heap.size,0,none⟩) 0 0) 0 []):=
   ⟨by simp,.inr ⟨w.heap.size,0,#[],rfl,Nat.le_refl _,heap_alloc_new w _,Nat.le_refl _,by simp[maxLen],rfl,rfl⟩⟩
  have HL:Hid ((T.map (Value.int .i64)).length=n*2∧n≤1048576):=⟨by simp[hn],hm⟩
  have E:=run_nilT w (some ad) n cap;clear hn ha hnil hm;go_enter Tryz.func85,Tryz.ntmps85;go_wp2_with (first
   |(refine wpList_appT _ rfl (.tmp 5) (.tmp 6) rfl w.heap.size _ [] rfl HO.out ad n cap T rfl HL.out.1 HNW.out HL.out.2 (by simp) ?_)
   |fail)
  intro v' w3 ho hgr;have HF:Hid (ClT w T n (.returned v') w3):=by
   have hB:Below w.heap.size (w.alloc (.cells #[] 133)) w3:=(Below.refl _ _).grown hgr (by simp) (fun k hk=>by simp[Value.ownBlock] at hk;omega);refine⟨v',rfl,by unfold TapO;simpa using ho,?_,((Below.refl _ _).alloc (Nat.le_refl _) _).trans hB⟩;rcases ho.2 with⟨h,_⟩|⟨g,c,cur,h,_⟩
   ·rw[h];rfl
   ·rw[h];rfl
  clear ho hgr HNW HO HL;go_wp2
  go_ret
  exact HF.out
theorem fold_size (off:Nat) (vs:List Value) (n:Nat) (cs:Array Value):((vs.zipIdx n).foldl (fun cs (x:Value×Nat)=>cs.setIfInBounds (off+x.2) x.1) cs).size=cs.size:=by
 induction vs generalizing n cs with
 |nil=>rfl
 |cons v vs ih=>rw[List.zipIdx_cons,List.foldl_cons,ih];simp
theorem fold_get (off:Nat) (vs:List Value) (n:Nat) (cs:Array Value) (h:off+n+vs.length≤cs.size) (i:Nat) :
  ((vs.zipIdx n).foldl (fun cs (x:Value×Nat)=>cs.setIfInBounds (off+x.2) x.1) cs)[i]?=if off+n≤i∧i<off+n+vs.length then vs[i-(off+n)]? else cs[i]?:=by
 induction vs generalizing n cs with
 |nil=>rw[if_neg (by simp)];rfl
 |cons v vs ih=>
  simp only[List.length_cons] at h;rw[List.zipIdx_cons,List.foldl_cons,ih (n+1) _ (by simp;omega)];by_cases h1:off+(n+1)≤i∧i<off+(n+1)+vs.length
  ·rw[if_pos h1,if_pos (by simp only[List.length_cons];omega),show i-(off+n)=(i-(off+(n+1)))+1 by omega,List.getElem?_cons_succ]
  ·rw[if_neg h1];by_cases h2:i=off+n
   ·subst h2;rw[if_pos (by simp only[List.length_cons];omega),Nat.sub_self,List.getElem?_cons_zero,Array.getElem?_setIfInBounds_self_of_lt (by omega)]
   ·rw[if_neg (by simp only[List.length_cons];omega),Array.getElem?_setIfInBounds_ne (by omega)]
def bkC (d u:List Int) (k:Int) (v:Value):Array Value:=(d.map (Value.int .u8)++u.map (Value.int .u8)++[.int .i64 k,v]).toArray
theorem bkC_size {d u:List Int} (hd:d.length=32) (hu:u.length=32) (k:Int) (v:Value):(bkC d u k v).size=66:=by unfold bkC;simp[hd,hu]
theorem bkC_one (d u:List Int) (k:Int) {v:Value} (hv:v.oneCell'=true):(bkC d u k v).all (fun x=>x.oneCell')=true:=by
 unfold bkC;rw[List.all_toArray];simp only[List.all_append,List.all_map,List.all_cons,List.all_nil,hv];simp[Function.comp_def,Value.oneCell']
def ovl (off:Nat) (vs cs:Array Value):Array Value:=vs.zipIdx.foldl (fun cs (x:Value×Nat)=>cs.setIfInBounds (off+x.2) x.1) cs
theorem ovl_eq (off:Nat) (vs cs:Array Value):ovl off vs cs=((vs.toList.zipIdx 0).foldl (fun cs (x:Value×Nat)=>cs.setIfInBounds (off+x.2) x.1) cs):=by
 unfold ovl;rw[←Array.foldl_toList];simp
theorem ovl_size (off:Nat) (vs cs:Array Value):(ovl off vs cs).size=cs.size:=by rw[ovl_eq];exact fold_size _ _ _ _
theorem ovl_get (off:Nat) (vs cs:Array Value) (h:off+vs.size≤cs.size) (i:Nat):(ovl off vs cs)[i]?=if off≤i∧i<off+vs.size then vs[i-off]? else cs[i]?:=by
 rw[ovl_eq,fold_get off vs.toList 0 cs (by simpa using h) i];simp
theorem fill_cons (places:Nat→Option (Nat×Nat)) (cs:Array Value) (i off size:Nat) (v:Value) (rest:List (Nat×Value)) (hp:places i=some (off,size)) (hs:v.cells.size=size) (hc:off+size≤cs.size) :
  Instr.fill places cs ((i,v)::rest)=Instr.fill places (ovl off v.cells cs) rest:=by
 rw[Instr.fill,hp];simp only[];rw[if_neg (by simp[hs];omega)];rfl
theorem fillB (places:Nat→Option (Nat×Nat)) (p0:places 0=some (0,32)) (p1:places 1=some (32,32)) (p2:places 2=some (64,1)) (p3:places 3=some (65,1)) (z:Array Value) (hz:z.size=66) (d u:List Int) (hd:d.length=32) (hu:u.length=32) (k:Int) (v:Value) (hv:v.cells=#[v]) :
  Instr.fill places z [(0,.agg (d.map (Value.int .u8)).toArray),(1,.agg (u.map (Value.int .u8)).toArray),(2,.int .i64 k),(3,v)]=some (bkC d u k v):=by
 have sd:((d.map (Value.int .u8)).toArray).size=32:=by simp[hd]
 have su:((u.map (Value.int .u8)).toArray).size=32:=by simp[hu]
 have s1:(ovl 0 (d.map (Value.int .u8)).toArray z).size=66:=by rw[ovl_size];exact hz
 have s2:(ovl 32 (u.map (Value.int .u8)).toArray (ovl 0 (d.map (Value.int .u8)).toArray z)).size=66:=by rw[ovl_size];exact s1
 have s3:(ovl 64 #[.int .i64 k] (ovl 32 (u.map (Value.int .u8)).toArray (ovl 0 (d.map (Value.int .u8)).toArray z))).size=66:=by rw[ovl_size];exact s2
 have key:ovl 65 #[v] (ovl 64 #[.int .i64 k] (ovl 32 (u.map (Value.int .u8)).toArray (ovl 0 (d.map (Value.int .u8)).toArray z)))=bkC d u k v:=by
  apply Array.ext_getElem?;intro i;rw[ovl_get _ _ _ (by rw[s3];simp),ovl_get _ _ _ (by rw[s2];simp),ovl_get _ _ _ (by rw[s1,su];omega),ovl_get _ _ _ (by rw[hz,sd];omega),sd,su];have e:(bkC d u k v)[i]?=(d.map (Value.int .u8)++u.map (Value.int .u8)++[.int .i64 k,v])[i]?:=by unfold bkC;simp
  rw[e];simp only[List.size_toArray,List.length_cons,List.length_nil];by_cases h0:i<32
  ·rw[if_neg (by omega),if_neg (by omega),if_neg (by omega),if_pos (by omega)];rw[List.getElem?_append_left (by simp[hd,hu];omega),List.getElem?_append_left (by simp[hd];omega)];simp
  ·by_cases h1:i<64
   ·rw[if_neg (by omega),if_neg (by omega),if_pos (by omega)];rw[List.getElem?_append_left (by simp[hd,hu];omega),List.getElem?_append_right (by simp[hd];omega)];simp[hd]
   ·by_cases h2:i=64
    ·subst h2;rw[if_neg (by omega),if_pos (by omega),List.getElem?_append_right (by simp[hd,hu])];simp[hd,hu]
    ·by_cases h3:i=65
     ·subst h3;rw[if_pos (by omega),List.getElem?_append_right (by simp[hd,hu])];simp[hd,hu]
     ·rw[if_neg (by omega),if_neg (by omega),if_neg (by omega),if_neg (by omega),Array.getElem?_eq_none (by omega),List.getElem?_eq_none (by simp[hd,hu];omega)]
 rw[fill_cons places z 0 0 32 (.agg (d.map (Value.int .u8)).toArray) _ p0 sd (by omega)];rw[fill_cons places _ 1 32 32 (.agg (u.map (Value.int .u8)).toArray) _ p1 su (by show _≤(ovl 0 (d.map (Value.int .u8)).toArray z).size;omega)];rw[fill_cons places _ 2 64 1 (.int .i64 k) _ p2 rfl (by show _≤(ovl 32 (u.map (Value.int .u8)).toArray (ovl 0 (d.map (Value.int .u8)).toArray z)).size;omega)];rw[fill_cons places _ 3 65 1 v _ p3 (by rw[hv];rfl) (by show _≤(ovl 64 #[.int .i64 k] (ovl 32 (u.map (Value.int .u8)).toArray (ovl 0 (d.map (Value.int .u8)).toArray z))).size;omega)];rw[hv,Instr.fill];exact congrArg some key
def bkZ:Array Value:=#[.int .u8 0,.int .u8 0,.int .u8 0,.int .u8 0,.int .u8 0,.int .u8 0,.int .u8 0,.int .u8 0,.int .u8 0,.int .u8 0,.int .u8 0,.int .u8 0,.int .u8 0,.int .u8 0,.int .u8 0,.int .u8 0,.int .u8 0,.int .u8 0,.int .u8 0,.int .u8 0,.int .u8 0,.int .u8 0,.int .u8 0,.int .u8 0,.int .u8 0,.int .u8 0,.int .u8 0,.int .u8 0,.int .u8 0,.int .u8 0,.int .u8 0,.int .u8 0,.int .u8 0,.int .u8 0,.int .u8 0,.int .u8 0,.int .u8 0,.int .u8 0,.int .u8 0,.int .u8 0,.int .u8 0,.int .u8 0,.int .u8 0,.int .u8 0,.int .u8 0,.int .u8 0,.int .u8 0,.int .u8 0,.int .u8 0,.int .u8 0,.int .u8 0,.int .u8 0,.int .u8 0,.int .u8 0,.int .u8 0,.int .u8 0,.int .u8 0,.int .u8 0,.int .u8 0,.int .u8 0,.int .u8 0,.int .u8 0,.int .u8 0,.int .u8 0,.int .i64 0,.slice none 0 0]
theorem Tryz.infoBook:(Tryz.prog.info? 77).map (fun i=>i.zero)=some (some (.agg bkZ)):=by kernel_rfl
theorem Tryz.sizeBook:(Tryz.prog.info? 77).map (·.size)=some 66:=by kernel_rfl
theorem Tryz.placesBook:((Tryz.prog.underlying 77).bind fun d=>match d with|.struct fs=>fs.toList.mapM (fun f=>(Tryz.prog.info? f.type).map fun i=>(f.offset,i.size))|_=>none)=some [(0,32),(32,32),(64,1),(65,1)]:=by kernel_rfl
theorem builtB (d u:List Int) (hd:d.length=32) (hu:u.length=32) (k:Int) (v:Value) (hv:v.cells=#[v]) :
  Tryz.prog.built 77 [(0,.agg (d.map (Value.int .u8)).toArray),(1,.agg (u.map (Value.int .u8)).toArray),(2,.int .i64 k),(3,v)]=some (bkC d u k v):=by
 have hb:∃ places z,(places 0=some (0,32)∧places 1=some (32,32)∧places 2=some (64,1)∧places 3=some (65,1))∧z.size=66∧∀ parts,Tryz.prog.built 77 parts=Instr.fill places z parts:=by
  have h1:=Tryz.infoBook;have h2:=Tryz.placesBook;obtain⟨F,hF⟩:∃ F,Tryz.prog.underlying 77=some (.struct F):=⟨_,Tryz.underlying77⟩
  rw[hF] at h2;have h2':F.toList.mapM (fun f=>(Tryz.prog.info? f.type).map fun i=>(f.offset,i.size))=some [(0,32),(32,32),(64,1),(65,1)]:=h2;cases hi:Tryz.prog.info? 77 with
  |none=>rw[hi] at h1;cases h1
  |some it=>
   rw[hi] at h1;have hz:it.zero=some (.agg bkZ):=by simpa using h1
   refine⟨fun i=>[(0,32),(32,32),(64,1),(65,1)].toArray[i]?,bkZ,⟨rfl,rfl,rfl,rfl⟩,rfl,fun parts=>?_⟩;simp only[Program.built,hi,hF,hz,h2'];rfl
 obtain⟨places,z,⟨p0,p1,p2,p3⟩,hz,h⟩:=hb;rw[h];exact fillB places p0 p1 p2 p3 z hz d u hd hu k v hv
end Go.Proofs.YthmeoilbmfdhfaaGreat
