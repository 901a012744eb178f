import Derived.Test.YtjdhhgaelgemcaaGreatDoorMApx
import Derived.Test.YtjdhhgaelgemcaaGreatDoorMSvE
import Derived.WalkKit
import Derived.ProofKit
import Derived.OpenShut
import Derived.ShutString
import Derived.ChangeOld
import Derived.Below
import Derived.Lib.SmallJoins
import Derived.Deep.SlicePairs
import Derived.Deep.Cut
import Derived.Test.YtjdhhgaelgemcaaGreatDoorMBase
import Derived.Lib.AppendZerosOnto
import Derived.Test.YtjdhhgaelgemcaaGreatDoorMSPow
import Derived.Test.YtjdhhgaelgemcaaGreatDoorMSvM
import Derived.Test.YtjdhhgaelgemcaaGreatDoorMISt
namespace Go.Proofs.YtjdhhgaelgemcaaGreatDoor
open Go.ChangeShapes Go.WideShapes Go.ChangeAt Go.RowKit
set_option linter.unusedVariables false
set_option maxHeartbeats 400000 in
theorem toT1_any (s nw:Int) (w:World):Calls Tryz.prog 44 #[.agg #[.int .i64 s,.int .i64 nw]] w fun e w'=>e=.returned (.agg #[.int .i64 s,.int .i64 nw])∧Below w.heap.size w w':=by
 have HB:Hid (Below w.heap.size w (((w.alloc (.cells #[.int .i64 s,.int .i64 nw] 85)).alloc (.cells #[.int .i64 s,.int .i64 nw] 77)).alloc (.cells #[.int .i64 s,.int .i64 nw] 77))):=(((Below.refl _ _).alloc (Nat.le_refl _) _).alloc (by simp) _).alloc (by simp;omega) _;have HR:Hid ((((w.alloc (.cells #[.int .i64 s,.int .i64 nw] 85)).alloc (.cells #[.int .i64 s,.int .i64 nw] 77)).alloc (.cells #[.int .i64 s,.int .i64 nw] 77)).heap[w.heap.size+1]?=some (.cells #[.int .i64 s,.int .i64 nw] 77 (0,0))):=by
  show _=_
  rw[Below.heap_alloc _ _ (w.heap.size+1) (by simp)];have:=heap_alloc_new (w.alloc (.cells #[.int .i64 s,.int .i64 nw] 85)) (.cells #[.int .i64 s,.int .i64 nw] 77)
  rwa [show(w.alloc (.cells #[.int .i64 s,.int .i64 nw] 85)).heap.size=w.heap.size+1 by simp] at this
 have HSZ:Hid ((Tryz.prog.info? 77).map (·.size)=some 2):=by show _=_;kernel_rfl
 go_enter Tryz.func44,Tryz.ntmps44;go_wp2;exact bodyPost_ret (v:=.agg #[.int .i64 s,.int .i64 nw]) (results_cell_row rfl _ _ (w.heap.size+1) 77 _ (0,0) _ rfl HR.out Tryz.underlying77 rfl HSZ.out) rfl ⟨rfl,HB.out⟩
structure TT (w wr:World) (g n:Nat) (T:List Int) (k:Nat):Prop where
 below:Below w.heap.size w wr
 blk:∃ cur:Array Value,wr.heap[g]?=some (.cells cur 77 (0,0))∧cur.size=n*2∧∀ i,i<k*2→cur[i]?=some (.int .i64 (T.getD i 0))
theorem TT.step {w wr w1:World} {g n:Nat} {T:List Int} {k:Nat} (h:TT w wr g n T k) (hk:k<n) (hg:w.heap.size≤g) (hb:Below wr.heap.size wr w1) :
  TT w ((w1.setCell ⟨g,k*2,none⟩ (.int .i64 (T.getD (k*2) 0))).setCell ⟨g,k*2+1,none⟩ (.int .i64 (T.getD (k*2+1) 0))) g n T (k+1):=by
 obtain⟨cur,h1,h2,h3⟩:=h.blk;have hgl:=(Array.getElem?_eq_some_iff.1 h1).1;have h1':w1.heap[g]?=some (.cells cur 77 (0,0)):=by rw[hb.block g hgl];exact h1
 have e1:=heap_setCell_same w1 g (k*2) _ _ (.int .i64 (T.getD (k*2) 0)) h1';have e2:=heap_setCell_same _ g (k*2+1) _ _ (.int .i64 (T.getD (k*2+1) 0)) e1;refine⟨((h.below.trans (hb.mono h.below.size)).setCell hg _).setCell hg _,⟨_,e2,by simp[h2],fun i hi=>?_⟩⟩;by_cases ea:i=k*2
 ·subst ea;rw[Array.getElem?_setIfInBounds_ne (by omega),Array.getElem?_setIfInBounds_self_of_lt (by omega)]
 ·by_cases eb:i=k*2+1
  ·subst eb;rw[Array.getElem?_setIfInBounds_self_of_lt (by simp;omega)]
  ·rw[Array.getElem?_setIfInBounds_ne (by omega),Array.getElem?_setIfInBounds_ne (by omega)];exact h3 i (by omega)
structure CE (w:World) (tb tr:TypeId) (sc zs vs:Array Value) (wr:World):Prop where
 below:Below w.heap.size w wr
 box:wr.heap[w.heap.size]?=some (.cells sc tb (0,0))
 res:wr.heap[w.heap.size+1]?=some (.cells zs tr (0,0))
 var:wr.heap[w.heap.size+1+1]?=some (.cells vs tr (0,0))
theorem CE.lt {w wr:World} {tb tr:TypeId} {sc zs vs:Array Value} (h:CE w tb tr sc zs vs wr):w.heap.size+1+1<wr.heap.size:=(Array.getElem?_eq_some_iff.1 h.var).1
theorem CE.call {w wr w':World} {tb tr:TypeId} {sc zs vs:Array Value} (h:CE w tb tr sc zs vs wr) (b:Below wr.heap.size wr w'):CE w tb tr sc zs vs w':=by
 have:=h.lt;exact⟨h.below.trans (b.mono h.below.size),by rw[b.block _ (by omega)];exact h.box,by rw[b.block _ (by omega)];exact h.res,by rw[b.block _ (by omega)];exact h.var⟩
theorem CE.put {w wr:World} {tb tr:TypeId} {sc zs vs:Array Value} (h:CE w tb tr sc zs vs wr) (i:Nat) (v:Value):CE w tb tr sc zs (vs.setIfInBounds i v) (wr.setCell ⟨w.heap.size+1+1,i,none⟩ v):=by
 have hw:Wr (w.heap.size+1+1) wr (wr.setCell ⟨w.heap.size+1+1,i,none⟩ v):=(Wr.refl _ _).setCell _ _;exact⟨h.below.trans (hw.below (by omega)),(hw.block _ (by omega)).trans h.box,(hw.block _ (by omega)).trans h.res,heap_setCell_same _ _ _ _ _ _ h.var⟩
theorem CE.start (w:World) (tb tr:TypeId) (sc zs vs:Array Value):CE w tb tr sc zs vs (((w.alloc (.cells sc tb)).alloc (.cells zs tr)).alloc (.cells vs tr)):=by
 refine⟨(((Below.refl _ _).alloc (Nat.le_refl _) _).alloc (by simp) _).alloc (by simp;omega) _,?_,?_,?_⟩
 ·rw[Below.heap_alloc _ _ w.heap.size (by simp;omega),Below.heap_alloc _ _ w.heap.size (by simp)];exact heap_alloc_new w _
 ·rw[Below.heap_alloc _ _ (w.heap.size+1) (by simp)];have:=heap_alloc_new (w.alloc (.cells sc tb)) (.cells zs tr)
  rwa [show(w.alloc (.cells sc tb)).heap.size=w.heap.size+1 by simp] at this
 ·have:=heap_alloc_new ((w.alloc (.cells sc tb)).alloc (.cells zs tr)) (.cells vs tr)
  rwa [show((w.alloc (.cells sc tb)).alloc (.cells zs tr)).heap.size=w.heap.size+1+1 by simp] at this
set_option maxHeartbeats 400000 in
theorem toIR_any (a:Option Addr) (n cap:Nat) (zs:List Int) (w:World) (hn:zs.length=n) (hm:n≤1048576) (ha:At .i64 w a zs) :
  Calls Tryz.prog 27 #[.slice a n cap] w fun e w'=>e=.returned (.slice (some ⟨w.heap.size,0,none⟩) n n)∧RowV w' w.heap.size 2 (iC zs)∧Below w.heap.size w w':=
 (toI_any a n cap zs w hn hm ha).mono (fun e w' ⟨h1,h2,h3⟩=>⟨h1,RowV.of_owns h2,h3⟩)
set_option maxHeartbeats 1000000 in
theorem toTR_any (a:Option Addr) (n cap:Nat) (T:List Int) (w:World) (hl:T.length=n*2) (hn:n≤1048576) (ha:At .i64 w a T) :
  Calls Tryz.prog 28 #[.slice a n cap] w fun e w'=>e=.returned (.slice (some ⟨w.heap.size,0,none⟩) n n)∧RowV w' w.heap.size 77 (iC T)∧Below w.heap.size w w':=by
 obtain⟨i0,hi,hz0,hz1,hz2⟩:=info_parts Tryz.infoTap;have HI:Hid (i0.bytes=16):=hz2;have HLT:Hid (T.length=n*2):=hl;have HA:Hid (At .i64 w a T):=ha;clear hz2 hl ha;go_enter Tryz.func28,Tryz.ntmps28;go_wp2_with (first
  |(at_make;refine wpList_make_full _ rfl _ _ 31 rfl w.heap.size 77 i0 (.agg #[.int .i64 0,.int .i64 0]) 2 Tryz.underlying31 hi hz0 hz1 _ _ _ _ n rfl rfl rfl rfl ?c1 ?c2 ?c3 ?_)
  |fail)
 case c1=>rw[HI.out];omega
 case c2=>unfold maxLen;omega
 case c3=>exact Nat.le_refl _
 intro w1 hown hgrow;have hb1:Below w.heap.size w w1:=(Below.refl _ _).grown hgrow (Nat.le_refl _) (by simp);have hst:TT w w1 w.heap.size n T 0:=by
  obtain⟨h1,⟨h2,_⟩|⟨g',cap,cur,hv,hb,hh,hc,hm,hs,ht⟩⟩:=hown
  ·cases h2
  ·cases hv;exact⟨hb1,⟨cur,hh,hs,fun i hi=>by omega⟩⟩
 have HST:Hid (TT w w1 w.heap.size n T 0):=hst;clear hown hgrow hb1 hst hi hz0 hz1;go_wp2
 go_loopw [4] (fun i wr=>∃ k:Nat,k≤n∧i=.int .i64 k∧TT w wr w.heap.size n T k) (fun i _=>n-(intOf i).toNat)
 case atStart=>exact⟨0,Nat.zero_le _,rfl,HST.out⟩
 case round=>
  clear HST;obtain⟨k,hk,rfl,st⟩:=hrel;by_cases hlt:k<n
  ·have hlt':(k:Int)<n:=by omega
   obtain⟨b,off,ea,hb,hc⟩:=(HA.out.below st.below).get (by have:=HLT.out;omega);have t0:=hc (k*2) (by have:=HLT.out;omega);have t1:=hc (k*2+1) (by have:=HLT.out;omega);rw[←Nat.add_assoc] at t1;subst ea;obtain⟨cur,c1,c2,c3⟩:=st.blk;have hgl:=(Array.getElem?_eq_some_iff.1 c1).1;have HC1:Hid (wr.heap[w.heap.size]?=some (.cells cur 77 (0,0))):=c1;have HSP:Hid (∀ w1,Below wr.heap.size wr w1→TT w ((w1.setCell ⟨w.heap.size,k*2,none⟩ (.int .i64 (T.getD (k*2) 0))).setCell ⟨w.heap.size,k*2+1,none⟩ (.int .i64 (T.getD (k*2+1) 0))) w.heap.size n T (k+1)):=fun w1 hb=>st.step hlt (Nat.le_refl _) hb
   clear hc hb c3 st c1;generalize T.getD (k*2) 0=s at *;generalize T.getD (k*2+1) 0=nw at *;go_wp2_with fail;refine(toT1_any s nw wr).mono ?_;rintro e w2 ⟨rfl,hb2⟩;have k1:w2.heap[w.heap.size]?=some (.cells cur 77 (0,0)):=by rw[hb2.block _ hgl];exact HC1.out
   have d0:w2.cell? ⟨w.heap.size,k*2,none⟩=some (cur[k*2]'(by omega)):=by rw[cell_of_row w2 _ _ _ _ _ k1];simp
   have d1:w2.cell? ⟨w.heap.size,k*2+1,none⟩=some (cur[k*2+1]'(by omega)):=by rw[cell_of_row w2 _ _ _ _ _ k1];simp
   have f0:=frozen_of_row w2 w.heap.size (k*2) _ _ k1;have f1:=frozen_of_row w2 w.heap.size (k*2+1) _ _ k1;generalize (cur[k*2]'(by omega))=o0 at *;generalize (cur[k*2+1]'(by omega))=o1 at *;have HEN:Hid (TT w ((w2.setCell ⟨w.heap.size,k*2,none⟩ (.int .i64 s)).setCell ⟨w.heap.size,k*2+1,none⟩ (.int .i64 nw)) w.heap.size n T (k+1)):=HSP.out w2 hb2;clear k1 hb2 t0 t1 HSP HC1;go_wp2;go_roundw
   case rel=>exact⟨k+1,by omega,by go_num,HEN.out⟩
   case measure=>simp[intOf];omega
  ·have hkn:k=n:=by omega
   have hlt':¬ ((k:Int)<n):=by omega
   have HM:Hid (RowV wr w.heap.size 77 (iC T)∧Below w.heap.size w wr):=by
    obtain⟨cur,c1,c2,c3⟩:=st.blk;refine⟨?_,st.below⟩;unfold RowV;rw[c1,row_full c2 HLT.out (fun i hi=>c3 i (by omega))]
   clear st;go_wp2
   go_ret
   exact⟨rfl,HM.out.1,HM.out.2⟩
theorem ownA:ownKnob Tryz.prog.godebug=none:=by kernel_rfl
theorem laidOutA:laidOutB Tryz.prog=true:=by kernel_rfl
def I64 (x:Int):Prop:=-9223372036854775808≤x∧x≤9223372036854775807
theorem I64.of_wf {x:Int} (h:(Lit.int .i64 x).wf=true):I64 x:=by
 simp[Lit.wf,IntKind.min,IntKind.max,IntKind.signed,IntKind.bits] at h;exact⟨by omega,by omega⟩
section
variable {H:Type} {enc:TypeId×Value→H} {W:World}
set_option maxRecDepth 100000 in
theorem ints_of {fuel:Nat} {v:Value} {y:DataW H×List MemPlace} (h:DataW.trod enc Tryz.prog W 0 (fun _=>true) true fuel 22 [v]=some y) :
  ∃ a n cap zs,v=.slice a n cap∧zs.length=n∧n≤9223372036854775807∧At .i64 W a zs:=by
 rcases open_ints Tryz.underlying22 Tryz.underlying2 (by kernel_rfl) h with⟨hcs,_⟩|⟨x,l,c,zs,hcs,_,hl,hm,hz,_,hcell,hwz⟩
 ·simp at hcs;exact⟨none,0,0,[],hcs,rfl,by omega,.inl rfl⟩
 ·simp at hcs;have hz':zs.length=c:=by simpa using hz
  refine⟨some x,l,c,zs.take l,hcs,by simp;omega,by unfold maxLen at hm;omega,?_⟩;by_cases h0:l=0
  ·left;simp[h0]
  ·right;obtain⟨b,off,spot⟩:=x;have hc0:=hcell 0 (by omega);have hs:spot=none:=by simpa[Addr.add] using World.cell?_spot hc0
   subst hs;refine⟨b,off,rfl,block_lt_of_cell (a:=(⟨b,off,none⟩:Addr).add 0) hc0,fun i hi=>?_⟩;have hi':i<l:=by simp at hi;omega
   have:=hcell i (by omega);rw[Addr.add_lit] at this;rw[this];simp[List.getD,hi']
set_option maxRecDepth 100000 in
theorem taps_of {fuel:Nat} {v:Value} {y:DataW H×List MemPlace} (h:DataW.trod enc Tryz.prog W 0 (fun _=>true) true fuel 23 [v]=some y) :
  ∃ a n cap T,v=.slice a n cap∧T.length=n*2∧n≤9223372036854775807∧At .i64 W a T:=by
 rcases Go.Deep.open_slice_pairs Tryz.underlying23 Tryz.underlying85 (by kernel_rfl) rfl rfl (by kernel_rfl) (by kernel_rfl) h with⟨hcs,_⟩|⟨x,l,c,m,nn,V0,V1,D0,D1,P0,P1,hcs,_,hl,hm,hmm,_,hx⟩
 ·simp at hcs;exact⟨none,0,0,[],hcs,rfl,by omega,.inl rfl⟩
 ·simp at hcs hmm;subst hmm;have each:∀ i,i<m→∃ q:Int×Int,V0 i=.int .i64 q.1∧V1 i=.int .i64 q.2:=by
   intro i hi;obtain⟨h1,h2,h3,h4⟩:=hx i hi;obtain⟨s,e1,_,hw⟩:=DataW.trod_int (k:=.i64) Tryz.underlying2 h3;obtain⟨s',e2,_,hw'⟩:=DataW.trod_int (k:=.i64) Tryz.underlying2 h4;simp at e1 e2;exact⟨(s,s'),e1,e2⟩
  obtain⟨q,hq⟩:=Go.Deep.choose_lt each;refine⟨some x,l,m,(List.range (l*2)).map fun i=>if i%2=0 then(q (i/2)).1 else(q (i/2)).2,hcs,by simp,by unfold maxLen at hm;omega,?_⟩;by_cases h0:l=0
  ·left;simp[h0]
  ·right;obtain⟨b,off,spot⟩:=x;have hc0:=(hx 0 (by omega)).1;have hs:spot=none:=by simpa[Addr.add] using World.cell?_spot hc0
   subst hs;refine⟨b,off,rfl,block_lt_of_cell (a:=(⟨b,off,none⟩:Addr).add (0*2)) hc0,fun i hi=>?_⟩;have hi':i<l*2:=by simpa using hi
   obtain⟨h1,h2,_,_⟩:=hx (i/2) (by omega);obtain⟨g1,g2⟩:=hq (i/2) (by omega);rw[Addr.add_lit] at h1 h2;have hg:((List.range (l*2)).map fun i=>if i%2=0 then(q (i/2)).1 else(q (i/2)).2).getD i 0=if i%2=0 then(q (i/2)).1 else(q (i/2)).2:=by simp[List.getD,hi']
   rw[hg];by_cases hp:i%2=0
   ·rw[if_pos hp,←g1,←h1];congr 2;omega
   ·rw[if_neg hp,←g2,←h2];congr 2;omega
def ArgState (W:World) (v0 v1 v2 v3:Value):Prop:=
 ∃(aD:Option Addr) (nD cD:Nat) (D:List Int) (aU:Option Addr) (nU cU:Nat) (U:List Int) (aT:Option Addr) (nT cT:Nat) (T:List Int) (k:Int),v0=.slice aD nD cD∧v1=.slice aU nU cU∧v2=.int .i64 k∧v3=.slice aT nT cT∧D.length=nD∧U.length=nU∧T.length=nT*2∧nD≤9223372036854775807∧nU≤9223372036854775807∧nT≤9223372036854775807∧At .i64 W aD D∧At .i64 W aU U∧At .i64 W aT T∧I64 k
set_option maxRecDepth 100000 in
theorem state_cells {fuel:Nat} {v0 v1 v2 v3:Value} {y:DataW H×List MemPlace} (h:DataW.trod enc Tryz.prog W 0 (fun _=>true) true fuel 25 [v0,v1,v2,v3]=some y):ArgState W v0 v1 v2 v3:=by
 have k1:Tryz.prog.cellsOf 22=1:=by kernel_rfl
 have k2:Tryz.prog.cellsOf 2=1:=by kernel_rfl
 have k3:Tryz.prog.cellsOf 23=1:=by kernel_rfl
 obtain⟨xs,n,_,_,_,hlen,hf⟩:=DataW.trod_struct Tryz.underlying25 h
 match xs,hlen with
 |[y0,y1,y2,y3],_=>
  have g0:=hf 0 _ rfl;have g1:=hf 1 _ rfl;have g2:=hf 2 _ rfl;have g3:=hf 3 _ rfl;simp[k1,k2,k3] at g0 g1 g2 g3;obtain⟨aD,nD,cD,D,e0,hD,mD,AD⟩:=ints_of g0;obtain⟨aU,nU,cU,U,e1,hU,mU,AU⟩:=ints_of g1;obtain⟨k,e2,_,Wk⟩:=DataW.trod_int (k:=.i64) Tryz.underlying2 g2;simp at e2;obtain⟨aT,nT,cT,T,e3,hT,mT,AT⟩:=taps_of g3;exact⟨aD,nD,cD,D,aU,nU,cU,U,aT,nT,cT,T,k,e0,e1,e2,e3,hD,hU,hT,mD,mU,mT,AD,AU,AT,I64.of_wf Wk⟩
set_option maxRecDepth 100000 in
theorem state_of {r:Reach} {b0:Nat} {v:Value} {d:DataW H} {p:List MemPlace} (hv:Value.okWide Tryz.prog W r b0 25 v) (h:DataW.Trod enc Tryz.prog W 0 (fun _=>true) true 25 v d p):∃ v0 v1 v2 v3,v=.agg #[v0,v1,v2,v3]∧ArgState W v0 v1 v2 v3:=by
 obtain⟨cs,rfl,hsz⟩:=okWide_struct Tryz.underlying25 hv;have hC:Tryz.prog.cellsOf 25=4:=by kernel_rfl
 obtain⟨fuel,hf⟩:=h
 match cs,hsz.trans hC with
 |⟨[v0,v1,v2,v3]⟩,_=>exact⟨v0,v1,v2,v3,rfl,state_cells hf⟩
end
section
variable {H:Type} {enc:TypeId×Value→H} {W:World}
set_option maxRecDepth 100000 in
theorem bytes_of {fuel:Nat} {v:Value} {y:DataW H×List MemPlace} (h:DataW.trod enc Tryz.prog W 0 (fun _=>true) true fuel 26 [v]=some y) :
  ∃ a n cap zs,v=.slice a n cap∧zs.length=n∧n≤9223372036854775807∧Byte zs∧At .u8 W a zs:=by
 rcases open_ints Tryz.underlying26 Tryz.underlying5 (by kernel_rfl) h with⟨hcs,_⟩|⟨x,l,c,zs,hcs,_,hl,hm,hz,_,hcell,hwz⟩
 ·simp at hcs;exact⟨none,0,0,[],hcs,rfl,by omega,by simp[Byte],.inl rfl⟩
 ·simp at hcs;have hz':zs.length=c:=by simpa using hz
  refine⟨some x,l,c,zs.take l,hcs,by simp;omega,by unfold maxLen at hm;omega,fun n hn=>?_,?_⟩
  ·have:=hwz n (List.mem_of_mem_take hn);simp[Lit.wf,IntKind.min,IntKind.max,IntKind.signed,IntKind.bits] at this;omega
  by_cases h0:l=0
  ·left;simp[h0]
  ·right;obtain⟨b,off,spot⟩:=x;have hc0:=hcell 0 (by omega);have hs:spot=none:=by simpa[Addr.add] using World.cell?_spot hc0
   subst hs;refine⟨b,off,rfl,block_lt_of_cell (a:=(⟨b,off,none⟩:Addr).add 0) hc0,fun i hi=>?_⟩;have hi':i<l:=by simp at hi;omega
   have:=hcell i (by omega);rw[Addr.add_lit] at this;rw[this];simp[List.getD,hi']
def ArgOp (W:World) (v0 v1 v2 v3:Value):Prop:=
 ∃(kind:Int) (a:Option Addr) (n c:Nat) (Y:List Int) (now N:Int),v0=.int .i64 kind∧v1=.slice a n c∧v2=.int .i64 now∧v3=.int .i64 N∧Y.length=n∧n≤9223372036854775807∧Byte Y∧At .u8 W a Y
set_option maxRecDepth 100000 in
theorem op_cells {fuel:Nat} {v0 v1 v2 v3:Value} {y:DataW H×List MemPlace} (h:DataW.trod enc Tryz.prog W 0 (fun _=>true) true fuel 28 [v0,v1,v2,v3]=some y):ArgOp W v0 v1 v2 v3:=by
 have k1:Tryz.prog.cellsOf 26=1:=by kernel_rfl
 have k2:Tryz.prog.cellsOf 2=1:=by kernel_rfl
 obtain⟨xs,n,_,_,_,hlen,hf⟩:=DataW.trod_struct Tryz.underlying28 h
 match xs,hlen with
 |[y0,y1,y2,y3],_=>
  have g0:=hf 0 _ rfl;have g1:=hf 1 _ rfl;have g2:=hf 2 _ rfl;have g3:=hf 3 _ rfl;simp[k1,k2] at g0 g1 g2 g3;obtain⟨kind,e0,_,_⟩:=DataW.trod_int (k:=.i64) Tryz.underlying2 g0;simp at e0;obtain⟨a,m,c,Y,e1,hY,mY,zY,AY⟩:=bytes_of g1;obtain⟨now,e2,_,_⟩:=DataW.trod_int (k:=.i64) Tryz.underlying2 g2;simp at e2;obtain⟨N,e3,_,_⟩:=DataW.trod_int (k:=.i64) Tryz.underlying2 g3;simp at e3;exact⟨kind,a,m,c,Y,now,N,e0,e1,e2,e3,hY,mY,zY,AY⟩
set_option maxRecDepth 100000 in
theorem op_of {r:Reach} {b0:Nat} {v:Value} {d:DataW H} {p:List MemPlace} (hv:Value.okWide Tryz.prog W r b0 28 v) (h:DataW.Trod enc Tryz.prog W 0 (fun _=>true) true 28 v d p):∃ v0 v1 v2 v3,v=.agg #[v0,v1,v2,v3]∧ArgOp W v0 v1 v2 v3:=by
 obtain⟨cs,rfl,hsz⟩:=okWide_struct Tryz.underlying28 hv;have hC:Tryz.prog.cellsOf 28=4:=by kernel_rfl
 obtain⟨fuel,hf⟩:=h
 match cs,hsz.trans hC with
 |⟨[v0,v1,v2,v3]⟩,_=>exact⟨v0,v1,v2,v3,rfl,op_cells hf⟩
end
theorem hid_ofV {p:Prop} (h:p):Hid p:=h
structure BE (w:World) (t:TypeId) (sa sb:Array Value) (wr:World):Prop where
 below:Below w.heap.size w wr
 b0:wr.heap[w.heap.size]?=some (.cells sa t (0,0))
 b1:wr.heap[w.heap.size+1]?=some (.cells sb t (0,0))
theorem BE.start (w:World) (t:TypeId) (sa sb:Array Value):BE w t sa sb ((w.alloc (.cells sa t)).alloc (.cells sb t)):=by
 refine⟨((Below.refl _ _).alloc (Nat.le_refl _) _).alloc (by simp) _,?_,?_⟩
 ·rw[Below.heap_alloc _ _ w.heap.size (by simp)];exact heap_alloc_new w _
 ·have:=heap_alloc_new (w.alloc (.cells sa t)) (.cells sb t)
  rwa [show(w.alloc (.cells sa t)).heap.size=w.heap.size+1 by simp] at this
theorem BE.call {w wr w':World} {t:TypeId} {sa sb:Array Value} (h:BE w t sa sb wr) (b:Below wr.heap.size wr w'):BE w t sa sb w':=by
 have:=(Array.getElem?_eq_some_iff.1 h.b1).1;exact⟨h.below.trans (b.mono h.below.size),by rw[b.block _ (by omega)];exact h.b0,by rw[b.block _ (by omega)];exact h.b1⟩
structure OE (w:World) (t:TypeId) (sa:Array Value) (wr:World):Prop where
 below:Below w.heap.size w wr
 b0:wr.heap[w.heap.size]?=some (.cells sa t (0,0))
theorem OE.start (w:World) (t:TypeId) (sa:Array Value):OE w t sa (w.alloc (.cells sa t)):=⟨(Below.refl _ _).alloc (Nat.le_refl _) _,heap_alloc_new w _⟩
set_option maxRecDepth 100000 in
set_option maxHeartbeats 4000000 in
theorem toSt_any (aD aU aT:Option Addr) (nD cD nU cU nT cT:Nat) (D U T:List Int) (k:Int) (w:World) (hD:D.length=nD) (hU:U.length=nU) (hT:T.length=nT*2) (mD:nD≤1048576) (mU:nU≤1048576) (mT:nT≤1048576) (AD:At .i64 w aD D) (AU:At .i64 w aU U) (AT:At .i64 w aT T) :
  Calls Tryz.prog 7 #[.agg #[.slice aD nD cD,.slice aU nU cU,.int .i64 k,.slice aT nT cT]] w fun e w'=>∃ gD gU gT,e=.returned (.agg #[.slice (some ⟨gD,0,none⟩) nD nD,.slice (some ⟨gU,0,none⟩) nU nU,.int .i64 k,.slice (some ⟨gT,0,none⟩) nT nT])∧w.heap.size≤gD∧gD<gU∧gU<gT∧RowV w' gD 2 (iC D)∧RowV w' gU 2 (iC U)∧RowV w' gT 77 (iC T)∧Below w.heap.size w w':=by
 have HE0:Hid (CE w 25 33 #[.slice aD nD cD,.slice aU nU cU,.int .i64 k,.slice aT nT cT] #[.slice none 0 0,.slice none 0 0,.int .i64 0,.slice none 0 0] #[.slice none 0 0,.slice none 0 0,.int .i64 0,.slice none 0 0] (((w.alloc (.cells #[.slice aD nD cD,.slice aU nU cU,.int .i64 k,.slice aT nT cT] 25)).alloc (.cells #[.slice none 0 0,.slice none 0 0,.int .i64 0,.slice none 0 0] 33)).alloc (.cells #[.slice none 0 0,.slice none 0 0,.int .i64 0,.slice none 0 0] 33))):=CE.start _ _ _ _ _ _;have HAD:Hid (At .i64 w aD D):=AD;have HLD:Hid (D.length=nD):=hD;have HAU:Hid (At .i64 w aU U):=AU;have HLU:Hid (U.length=nU):=hU;have HAT:Hid (At .i64 w aT T):=AT;have HLT:Hid (T.length=nT*2):=hT;clear AD hD AU hU AT hT;go_enter Tryz.func7,Tryz.ntmps7;go_wp2_with fail;generalize (((w.alloc (.cells #[.slice aD nD cD,.slice aU nU cU,.int .i64 k,.slice aT nT cT] 25)).alloc (.cells #[.slice none 0 0,.slice none 0 0,.int .i64 0,.slice none 0 0] 33)).alloc (.cells #[.slice none 0 0,.slice none 0 0,.int .i64 0,.slice none 0 0] 33))=w0 at *;refine(toIR_any aD nD cD D _ HLD.out mD (HAD.out.below HE0.out.below)).mono ?_;rintro e u0 ⟨rfl,hRD,hb⟩;have HF0:Hid (CE w 25 33 #[.slice aD nD cD,.slice aU nU cU,.int .i64 k,.slice aT nT cT] #[.slice none 0 0,.slice none 0 0,.int .i64 0,.slice none 0 0] #[.slice none 0 0,.slice none 0 0,.int .i64 0,.slice none 0 0] u0):=HE0.out.call hb;have lt0:w.heap.size+1+1<w0.heap.size:=HE0.out.lt;clear hb;have oD:w.heap.size≤w0.heap.size:=by omega
 have VD:w.heap.size+1+1<w0.heap.size:=lt0;clear HE0;generalize w0.heap.size=gD at *;have hw:Wr (w.heap.size+1+1) u0 (u0.setCell ⟨w.heap.size+1+1,0,none⟩ (.slice (some ⟨gD,0,none⟩) nD nD)):=((Wr.refl _ _).setCell _ _)
 have HE1:Hid (CE w 25 33 #[.slice aD nD cD,.slice aU nU cU,.int .i64 k,.slice aT nT cT] #[.slice none 0 0,.slice none 0 0,.int .i64 0,.slice none 0 0] #[.slice (some ⟨gD,0,none⟩) nD nD,.slice none 0 0,.int .i64 0,.slice none 0 0] (u0.setCell ⟨w.heap.size+1+1,0,none⟩ (.slice (some ⟨gD,0,none⟩) nD nD))):=(HF0.out.put 0 _)
 have HRD:Hid (RowV (u0.setCell ⟨w.heap.size+1+1,0,none⟩ (.slice (some ⟨gD,0,none⟩) nD nD)) gD 2 (iC D)):=hRD.wr hw VD;have lgD:gD<(u0.setCell ⟨w.heap.size+1+1,0,none⟩ (.slice (some ⟨gD,0,none⟩) nD nD)).heap.size:=HRD.out.lt;have v0:u0.cell? ⟨w.heap.size+1+1,0,none⟩=some (.slice none 0 0):=by rw[cell_of_row u0 _ 0 _ _ _ HF0.out.var];rfl
 have f0:=frozen_of_row u0 (w.heap.size+1+1) 0 _ _ HF0.out.var;have x1:u0.cell? ⟨w.heap.size,1,none⟩=some (.slice aU nU cU):=by rw[cell_of_row u0 w.heap.size 1 _ _ _ HF0.out.box];rfl
 clear hw HF0 hRD;go_wp2_with fail;generalize (u0.setCell ⟨w.heap.size+1+1,0,none⟩ (.slice (some ⟨gD,0,none⟩) nD nD))=w1 at *;clear v0 f0 x1;refine(toIR_any aU nU cU U _ HLU.out mU (HAU.out.below HE1.out.below)).mono ?_;rintro e u1 ⟨rfl,hRU,hb⟩;have HF1:Hid (CE w 25 33 #[.slice aD nD cD,.slice aU nU cU,.int .i64 k,.slice aT nT cT] #[.slice none 0 0,.slice none 0 0,.int .i64 0,.slice none 0 0] #[.slice (some ⟨gD,0,none⟩) nD nD,.slice none 0 0,.int .i64 0,.slice none 0 0] u1):=HE1.out.call hb;have lt1:w.heap.size+1+1<w1.heap.size:=HE1.out.lt;have hRD:RowV u1 gD 2 (iC D):=HRD.out.below hb;clear hb HRD;have oU:gD<w1.heap.size:=lgD;clear lgD;have VU:w.heap.size+1+1<w1.heap.size:=lt1;clear HE1;generalize w1.heap.size=gU at *;have hw:Wr (w.heap.size+1+1) u1 ((u1.setCell ⟨w.heap.size+1+1,1,none⟩ (.slice (some ⟨gU,0,none⟩) nU nU)).setCell ⟨w.heap.size+1+1,2,none⟩ (.int .i64 k)):=(((Wr.refl _ _).setCell _ _).setCell _ _)
 have HE2:Hid (CE w 25 33 #[.slice aD nD cD,.slice aU nU cU,.int .i64 k,.slice aT nT cT] #[.slice none 0 0,.slice none 0 0,.int .i64 0,.slice none 0 0] #[.slice (some ⟨gD,0,none⟩) nD nD,.slice (some ⟨gU,0,none⟩) nU nU,.int .i64 k,.slice none 0 0] ((u1.setCell ⟨w.heap.size+1+1,1,none⟩ (.slice (some ⟨gU,0,none⟩) nU nU)).setCell ⟨w.heap.size+1+1,2,none⟩ (.int .i64 k))):=((HF1.out.put 1 _).put 2 _)
 have HRD:Hid (RowV ((u1.setCell ⟨w.heap.size+1+1,1,none⟩ (.slice (some ⟨gU,0,none⟩) nU nU)).setCell ⟨w.heap.size+1+1,2,none⟩ (.int .i64 k)) gD 2 (iC D)):=hRD.wr hw VD;have HRU:Hid (RowV ((u1.setCell ⟨w.heap.size+1+1,1,none⟩ (.slice (some ⟨gU,0,none⟩) nU nU)).setCell ⟨w.heap.size+1+1,2,none⟩ (.int .i64 k)) gU 2 (iC U)):=hRU.wr hw VU;have lgU:gU<((u1.setCell ⟨w.heap.size+1+1,1,none⟩ (.slice (some ⟨gU,0,none⟩) nU nU)).setCell ⟨w.heap.size+1+1,2,none⟩ (.int .i64 k)).heap.size:=HRU.out.lt;have v1:u1.cell? ⟨w.heap.size+1+1,1,none⟩=some (.slice none 0 0):=by rw[cell_of_row u1 _ 1 _ _ _ HF1.out.var];rfl
 have f1:=frozen_of_row u1 (w.heap.size+1+1) 1 _ _ HF1.out.var;have v2:u1.cell? ⟨w.heap.size+1+1,2,none⟩=some (.int .i64 0):=by rw[cell_of_row u1 _ 2 _ _ _ HF1.out.var];rfl
 have f2:=frozen_of_row u1 (w.heap.size+1+1) 2 _ _ HF1.out.var;have x2:u1.cell? ⟨w.heap.size,2,none⟩=some (.int .i64 k):=by rw[cell_of_row u1 w.heap.size 2 _ _ _ HF1.out.box];rfl
 have x3:u1.cell? ⟨w.heap.size,3,none⟩=some (.slice aT nT cT):=by rw[cell_of_row u1 w.heap.size 3 _ _ _ HF1.out.box];rfl
 clear hw HF1 hRD hRU;go_wp2_with fail;generalize ((u1.setCell ⟨w.heap.size+1+1,1,none⟩ (.slice (some ⟨gU,0,none⟩) nU nU)).setCell ⟨w.heap.size+1+1,2,none⟩ (.int .i64 k))=w2 at *;clear v1 f1 v2 f2 x2 x3;refine(toTR_any aT nT cT T _ HLT.out mT (HAT.out.below HE2.out.below)).mono ?_;rintro e u2 ⟨rfl,hRT,hb⟩;have HF2:Hid (CE w 25 33 #[.slice aD nD cD,.slice aU nU cU,.int .i64 k,.slice aT nT cT] #[.slice none 0 0,.slice none 0 0,.int .i64 0,.slice none 0 0] #[.slice (some ⟨gD,0,none⟩) nD nD,.slice (some ⟨gU,0,none⟩) nU nU,.int .i64 k,.slice none 0 0] u2):=HE2.out.call hb;have lt2:w.heap.size+1+1<w2.heap.size:=HE2.out.lt;have hRD:RowV u2 gD 2 (iC D):=HRD.out.below hb;have hRU:RowV u2 gU 2 (iC U):=HRU.out.below hb;clear hb HRD HRU;have oT:gU<w2.heap.size:=lgU;clear lgU;have VT:w.heap.size+1+1<w2.heap.size:=lt2;clear HE2;generalize w2.heap.size=gT at *;have hw:Wr (w.heap.size+1+1) u2 (u2.setCell ⟨w.heap.size+1+1,3,none⟩ (.slice (some ⟨gT,0,none⟩) nT nT)):=((Wr.refl _ _).setCell _ _)
 have HE3:Hid (CE w 25 33 #[.slice aD nD cD,.slice aU nU cU,.int .i64 k,.slice aT nT cT] #[.slice none 0 0,.slice none 0 0,.int .i64 0,.slice none 0 0] #[.slice (some ⟨gD,0,none⟩) nD nD,.slice (some ⟨gU,0,none⟩) nU nU,.int .i64 k,.slice (some ⟨gT,0,none⟩) nT nT] (u2.setCell ⟨w.heap.size+1+1,3,none⟩ (.slice (some ⟨gT,0,none⟩) nT nT))):=(HF2.out.put 3 _)
 have HRD:Hid (RowV (u2.setCell ⟨w.heap.size+1+1,3,none⟩ (.slice (some ⟨gT,0,none⟩) nT nT)) gD 2 (iC D)):=hRD.wr hw VD;have HRU:Hid (RowV (u2.setCell ⟨w.heap.size+1+1,3,none⟩ (.slice (some ⟨gT,0,none⟩) nT nT)) gU 2 (iC U)):=hRU.wr hw VU;have HRT:Hid (RowV (u2.setCell ⟨w.heap.size+1+1,3,none⟩ (.slice (some ⟨gT,0,none⟩) nT nT)) gT 77 (iC T)):=hRT.wr hw VT;have v3:u2.cell? ⟨w.heap.size+1+1,3,none⟩=some (.slice none 0 0):=by rw[cell_of_row u2 _ 3 _ _ _ HF2.out.var];rfl
 have f3:=frozen_of_row u2 (w.heap.size+1+1) 3 _ _ HF2.out.var;clear hw HF2 hRD hRU hRT;have HSZ:Hid ((Tryz.prog.info? 33).map (·.size)=some 4):=by show _=_;kernel_rfl
 have HVR:Hid ((u2.setCell ⟨w.heap.size+1+1,3,none⟩ (.slice (some ⟨gT,0,none⟩) nT nT)).heap[w.heap.size+1+1]?=some (.cells #[.slice (some ⟨gD,0,none⟩) nD nD,.slice (some ⟨gU,0,none⟩) nU nU,.int .i64 k,.slice (some ⟨gT,0,none⟩) nT nT] 33 (0,0))):=HE3.out.var;have HRR:Hid ((u2.setCell ⟨w.heap.size+1+1,3,none⟩ (.slice (some ⟨gT,0,none⟩) nT nT)).heap[w.heap.size+1]?=some (.cells #[.slice none 0 0,.slice none 0 0,.int .i64 0,.slice none 0 0] 33 (0,0))):=HE3.out.res
 go_upto_region 6 with fail
 generalize (u2.setCell ⟨w.heap.size+1+1,3,none⟩ (.slice (some ⟨gT,0,none⟩) nT nT))=wz at *;clear v3 f3;go_wp2_with (first
  |(refine wpList_load_row rfl 33 (.tmp 3) rfl (w.heap.size+1+1) rfl 33 _ (0,0) _ HVR.out Tryz.underlying33 rfl HSZ.out ?_)
  |(refine wpList_store_row rfl 33 (.tmp 2) (.tmp 19) rfl (w.heap.size+1) #[.slice (some ⟨gD,0,none⟩) nD nD,.slice (some ⟨gU,0,none⟩) nU nU,.int .i64 k,.slice (some ⟨gT,0,none⟩) nT nT] rfl rfl 33 _ HRR.out HSZ.out rfl (by simp[Value.oneCell']) ?_)
  |fail)
 refine bodyPost_ret (v:=.agg #[.slice (some ⟨gD,0,none⟩) nD nD,.slice (some ⟨gU,0,none⟩) nU nU,.int .i64 k,.slice (some ⟨gT,0,none⟩) nT nT]) (results_cell_row rfl _ _ (w.heap.size+1) 33 _ (0,0) _ rfl (setRow_heap _ _ _ _ _ _ HRR.out) Tryz.underlying33 rfl HSZ.out) rfl ?_;have hwz:Wr (w.heap.size+1) wz (wz.setRow (w.heap.size+1) #[.slice (some ⟨gD,0,none⟩) nD nD,.slice (some ⟨gU,0,none⟩) nU nU,.int .i64 k,.slice (some ⟨gT,0,none⟩) nT nT]):=Wr.setRow _ _ _;exact⟨gD,gU,gT,rfl,by omega,oU,oT,HRD.out.wr hwz (by omega),HRU.out.wr hwz (by omega),HRT.out.wr hwz (by omega),HE3.out.below.trans (hwz.below (by omega))⟩
theorem iC_size (xs:List Int):(iC xs).size=xs.length:=by simp[iC]
theorem RowV.opn {w:World} {g n:Nat} {t:TypeId} {cs:Array Value} (h:RowV w g t cs) (hn:cs.size=n):Open w (some ⟨g,0,none⟩) n:=
 .inr ⟨g,0,rfl,h.lt,fun i hi=>⟨by rw[Nat.zero_add,cell_of_row w g i _ _ _ h];simp[hn,hi],h.fz _⟩⟩
section
variable {P:Program} {ops:Array Oper} {Q:Exit→Act→World→Prop} {md:Region.Mode}
theorem wpAny_slotsF (last:Nat) (M:Nat→World→World→Prop) (frame:(Nat→Value)→Act) (Ext:(Nat→Bool)→(Nat→Value)→World→Prop) (Good:Nat→(Nat→Bool)→World→Value→Prop) (Fin:(Nat→Value)→World→Prop)
  (hlast:ops.size=last+1)
  (hwait:((ops[last]?).map (fun o=>(List.range last).all (fun j=>o.after.any (fun e=>Region.binds md e && decide (e.on=j))))).getD false=true)
  (hstab:∀ j L w w' i v,i<last→M i w w'→i≠j→L i=false→Good j L w v→Good j (updK L i) w' v)
  (hback:(List.range ops.size).all (fun i=>((ops[i]?).map (fun o=>o.after.all (fun e=>decide (e.on<i)))).getD false)=true)
  (hop:∀(i:Nat) (o:Oper) (L:Nat→Bool) (u:Nat→Value) (w:World),i<last→ops[i]?=some o→L i=false→Ext L u w→(∀ e∈o.after,Region.binds md e=true→L e.on=true∧Good e.on L w (u e.on))→
   ∀ K:Act→World→Prop,(∀ w' v,Good i (updK L i) w' v→Ext (updK L i) (upd u i v) w'→M i w w'→K (frame (upd u i v)) w')→(if Region.wanted o (yielded ops (frame u).tmps)=true then Oper.wp P o (frame u) w K Q else K ((frame u).put o.dst undef) w))
  (hend:∀(o:Oper) (L:Nat→Bool) (u:Nat→Value) (w:World),ops[last]?=some o→Ext L u w→(∀ j,j<last→L j=true∧Good j L w (u j))→
   ∀ K:Act→World→Prop,(∀ w' v,Fin (upd u last v) w'→K (frame (upd u last v)) w')→(if Region.wanted o (yielded ops (frame u).tmps)=true then Oper.wp P o (frame u) w K Q else K ((frame u).put o.dst undef) w))
  (hdone:∀ u w,Fin u w→Q .normal (frame u) w) :
  ∀(fuel:Nat) (listed:Array Bool) (u:Nat→Value) (w:World),listed.size=ops.size→(∀ i,listed.getD i false=false)→Ext (fun n=>listed.getD n false) u w→
   (listed.toList.filter (!·)).length≤fuel→wpAny P md ops Q fuel listed (frame u) w:=by
 have hb:∀(i:Nat) (o:Oper),ops[i]?=some o→∀ e∈o.after,e.on<i:=fun i o ho e he=>by
  have hi:i<ops.size:=(Array.getElem?_eq_some_iff.1 ho).1;have:=List.all_eq_true.1 hback i (List.mem_range.2 hi);rw[ho] at this;simp at this;obtain⟨k,hk,rfl⟩:=Array.mem_iff_getElem.1 he;exact this k hk
 have hw:∀ o,ops[last]?=some o→∀ j,j<last→∃ e∈o.after,Region.binds md e=true∧e.on=j:=fun o ho j hj=>by
  rw[ho] at hwait;have h1:(List.range last).all (fun j=>o.after.any (fun e=>Region.binds md e && decide (e.on=j)))=true:=by simpa using hwait
  have h2:=List.all_eq_true.1 h1 j (List.mem_range.2 hj);obtain⟨e,he,h3⟩:=Array.any_eq_true'.1 h2;simp at h3;exact⟨e,he,h3⟩
 intro fuel listed u w hs hnone hext hc;refine wpAny_slotsU (fun i a b=>i=last∨(i<last∧M i a b)) frame (fun L u w=>(L last=false∧Ext L u w)∨(L last=true∧(∀ j,j<last→L j=true)∧Fin u w))
  (fun j L w v=>if j=last then L last=true else(L last=true∨Good j L w v)) ?_ hback ?_ ?_ fuel listed u w hs (.inl ⟨hnone last,hext⟩) (fun i _ hl=>by rw[hnone i] at hl;cases hl) hc
 ·intro j L w w' i v hM hij hLi h;have hu:∀ k,L k=true→updK L i k=true:=fun k hk=>by unfold updK;split<;>simp[hk]
  by_cases hj:j=last
  ·rw[if_pos hj] at h ⊢;exact hu _ h
  ·rw[if_neg hj] at h ⊢;rcases h with h|h
   ·exact .inl (hu _ h)
   ·rcases hM with hil|⟨hi',hM⟩
    ·left;unfold updK;rw[if_pos hil.symm]
    ·exact .inr (hstab j L w w' i v hi' hM hij hLi h)
 ·intro i o L u w ho hLi hx hdep K hK;have hi:i<last+1:=by rw[←hlast];exact(Array.getElem?_eq_some_iff.1 ho).1
  rcases hx with⟨hl,hx⟩|⟨hl,hall,_⟩
  ·by_cases hil:i=last
   ·subst hil;refine hend o L u w ho hx (fun j hj=>?_) K (fun w' v hf=>hK w' v ?_ ?_ (.inl rfl))
    ·obtain⟨e,he,hbd,rfl⟩:=hw o ho j hj;obtain⟨h1,h2⟩:=hdep e he hbd;rw[if_neg (by omega)] at h2;refine⟨h1,h2.resolve_left (by rw[hl];simp)⟩
    ·rw[if_pos rfl];unfold updK;simp
    ·refine .inr ⟨by unfold updK;simp,fun j hj=>?_,hf⟩;obtain⟨e,he,hbd,rfl⟩:=hw o ho j hj;have:=(hdep e he hbd).1;unfold updK;split<;>simp[this]
   ·have hi':i<last:=by omega
    refine hop i o L u w hi' ho hLi hx (fun e he hbd=>?_) K (fun w' v hg hext hm=>hK w' v ?_ ?_ (.inr ⟨hi',hm⟩))
    ·obtain⟨h1,h2⟩:=hdep e he hbd;have hlt:=hb i o ho e he;rw[if_neg (by omega)] at h2;exact⟨h1,h2.resolve_left (by rw[hl];simp)⟩
    ·rw[if_neg hil];exact .inr hg
    ·refine .inl ⟨?_,hext⟩;unfold updK;rw[if_neg (by omega)];exact hl
  ·exfalso
   by_cases hil:i=last
   ·subst hil;rw[hl] at hLi;cases hLi
   ·rw[hall i (by omega)] at hLi;cases hLi
 ·intro L u w hx hg;have h1:=hg last (by omega);rw[if_pos rfl] at h1;rcases hx with⟨hl,_⟩|⟨_,_,hf⟩
  ·rw[hl] at h1;cases h1
  ·exact hdone u w hf
end
def Value.adr:Value→Option Addr
 |.slice a _ _=>a
 |.pointer a=>a
 |_=>none
def Value.has (v:Value) (k:Nat):Prop:=(∃ a,Value.adr v=some a∧a.block=k)∨∃ cs,v=.agg cs∧∃ c,c∈cs.toList∧∃ a,Value.adr c=some a∧a.block=k
def FreshH (w w':World) (v:Value):Prop:=∀ k,Value.has v k→w.heap.size≤k∧k<w'.heap.size
def ApVH (x y:Value):Prop:=∀ k,Value.has x k→¬ Value.has y k
structure ApH (W:World) (ps:List Nat) (L:Nat→Bool) (u:Nat→Value) (w:World):Prop where
 below:Below W.heap.size W w
 blt:∀ p,p∈ps→L p=true→∀ k,Value.has (u p) k→k<w.heap.size
 ap:∀ p,p∈ps→∀ q,q∈ps→p≠q→L p=true→L q=true→ApVH (u p) (u q)
theorem ApH.start (W:World) (ps:List Nat) (L:Nat→Bool) (u:Nat→Value) (h:∀ i,L i=false) {w:World} (b:Below W.heap.size W w):ApH W ps L u w:=
 ⟨b,fun p _ hp=>(by rw[h] at hp;cases hp),fun p _ q _ _ hp=>(by rw[h] at hp;cases hp)⟩
theorem ApH.step {W:World} {ps:List Nat} {L:Nat→Bool} {u:Nat→Value} {w w':World} (h:ApH W ps L u w) (i:Nat) (v:Value) (b:Below w.heap.size w w') (hv:i∈ps→FreshH w w' v):ApH W ps (updK L i) (upd u i v) w':=by
 refine⟨h.below.trans (b.mono h.below.size),fun p hp hl=>?_,fun p hp q hq hne hlp hlq=>?_⟩
 ·by_cases e:p=i
  ·subst e;simp only[upd,if_true];exact fun k hk=>(hv hp k hk).2
  ·simp only[updK,if_neg e] at hl;simp only[upd,if_neg e];exact fun k hk=>Nat.lt_of_lt_of_le (h.blt p hp hl k hk) b.size
 ·by_cases e:p=i
  ·subst e;have e2:¬ q=p:=fun h=>hne h.symm
   simp only[updK,if_neg e2] at hlq;simp only[upd,if_true,if_neg e2];intro k hk hk';have h1:=(hv hp k hk).1;have h2:=h.blt q hq hlq k hk';omega
  ·by_cases e2:q=i
   ·subst e2;simp only[updK,if_neg e] at hlp;simp only[upd,if_true,if_neg e];intro k hk hk';have h1:=(hv hq k hk').1;have h2:=h.blt p hp hlp k hk;omega
   ·simp only[updK,if_neg e,if_neg e2] at hlp hlq;simp only[upd,if_neg e,if_neg e2];exact h.ap p hp q hq hne hlp hlq
theorem has_agg {cs:Array Value} {k:Nat}:Value.has (.agg cs) k↔∃ c,c∈cs.toList∧∃ a,Value.adr c=some a∧a.block=k:=by
 constructor
 ·rintro (⟨a,h,_⟩|⟨cs',h,h2⟩)
  ·cases h
  ·cases h;exact h2
 ·intro h;exact .inr ⟨_,rfl,h⟩
theorem has_ptr {g o:Nat} {k:Nat}:Value.has (.pointer (some ⟨g,o,none⟩)) k↔k=g:=by
 constructor
 ·rintro (⟨a,h,rfl⟩|⟨cs',h,h2⟩)
  ·cases h;rfl
  ·cases h
 ·rintro rfl;exact .inl ⟨_,rfl,rfl⟩
def tkB (zs:List Int):Bool:=decide (zs.length=72) && (decide (zs.getD 0 0=84) && decide (zs.getD 1 0=49))
def tkS (zs:List Int):Int:=zs.getD 2 0+256*zs.getD 3 0
def tkE (zs:List Int):Int:=zs.getD 4 0+256*zs.getD 5 0+65536*zs.getD 6 0+16777216*zs.getD 7 0
def tkV (zs:List Int):Value:=bif tkB zs then .agg #[.bool true,.int .i64 (tkS zs),.int .i64 (tkE zs)] else .agg #[.bool false,.int .i64 0,.int .i64 0]
theorem tkV_no {zs:List Int} (h:tkB zs=false):tkV zs=.agg #[.bool false,.int .i64 0,.int .i64 0]:=by unfold tkV;rw[h];rfl
theorem tkV_yes {zs:List Int} (h:tkB zs=true):tkV zs=.agg #[.bool true,.int .i64 (tkS zs),.int .i64 (tkE zs)]:=by unfold tkV;rw[h];rfl
theorem drop_two (zs:List Int) (k:Nat) (h:k+2≤zs.length):(zs.drop k).take 2=[zs.getD k 0,zs.getD (k+1) 0]:=by
 apply List.ext_getElem
 ·simp;omega
 ·intro i h1 h2;have:i=0∨i=1:=by simp at h2;omega
  rcases this with rfl|rfl
  ·simp[List.getD,show k<zs.length by omega]
  ·simp[List.getD,show k+1<zs.length by omega]
theorem drop_four (zs:List Int) (k:Nat) (h:k+4≤zs.length):(zs.drop k).take 4=[zs.getD k 0,zs.getD (k+1) 0,zs.getD (k+2) 0,zs.getD (k+3) 0]:=by
 apply List.ext_getElem
 ·simp;omega
 ·intro i h1 h2;have:i=0∨i=1∨i=2∨i=3:=by simp at h2;omega
  rcases this with rfl|rfl|rfl|rfl
  ·simp[List.getD,show k<zs.length by omega]
  ·simp[List.getD,show k+1<zs.length by omega]
  ·simp[List.getD,show k+2<zs.length by omega]
  ·simp[List.getD,show k+3<zs.length by omega]
theorem tkS_eq {zs:List Int} (h:zs.length=72):val 256 ((zs.drop 2).take 2)=tkS zs:=by
 rw[drop_two zs 2 (by omega)];unfold tkS;simp only[val,show 2+1=3 from rfl];omega
theorem tkE_eq {zs:List Int} (h:zs.length=72):val 256 ((zs.drop 4).take 4)=tkE zs:=by
 rw[drop_four zs 4 (by omega)];unfold tkE;simp only[val,show 4+1=5 from rfl,show 4+2=6 from rfl,show 4+3=7 from rfl];omega
theorem At.sub {k:IntKind} {w:World} {b off:Nat} {zs:List Int} (hb:b<w.heap.size) (h:∀ i,i<zs.length→w.cell? ⟨b,off+i,none⟩=some (.int k (zs.getD i 0))) (p m:Nat) (hp:p+m≤zs.length) :
  At k w (some ⟨b,off+p,none⟩) ((zs.drop p).take m):=by
 refine .inr ⟨b,off+p,rfl,hb,fun i hi=>?_⟩;have hi':i<m:=by simp at hi;omega
 rw[Nat.add_assoc,h (p+i) (by omega)];simp[List.getD,hi',show p+i<zs.length by omega]
theorem Byte.sub {zs:List Int} (h:Byte zs) (p m:Nat):Byte ((zs.drop p).take m):=fun z hz=>h z (List.mem_of_mem_drop (List.mem_of_mem_take hz))
theorem below_drewQ {B:Nat} {a w:World} (h:Below B a w) (n:Nat):Below B a (w.drewN n):=⟨h.os,h.tape,h.output,h.size,h.block⟩
set_option maxRecDepth 100000 in
set_option maxHeartbeats 1000000 in
theorem ptI_any (a:Option Addr) (n cap:Nat) (zs:List Int) (w:World) (hn:zs.length=n) (hm:n≤1048576) (hcap:n≤cap) (ha:At .u8 w a zs) (hz:Byte zs) :
  Calls Tryz.prog 80 #[.slice a n cap] w fun e w'=>e=.returned (tkV zs)∧Below w.heap.size w w':=by
 have HBN:Hid (Below w.heap.size w (w.alloc (.cells #[.bool false,.int .i64 0,.int .i64 0] 81))):=(Below.refl _ _).alloc (Nat.le_refl _) _;have HSF:Hid ((Tryz.prog.info? 81).map (·.size)=some 3):=by show _=_;kernel_rfl
 by_cases h72:n=72
 ·subst h72;obtain⟨b,off,rfl,hb,hc⟩:=ha.get (by omega);have hb':b≠w.heap.size:=by omega
  have c0:(w.alloc (.cells #[.bool false,.int .i64 0,.int .i64 0] 81)).cell? ⟨b,off,none⟩=some (.int .u8 (zs.getD 0 0)):=by rw[World.cell?_alloc_old _ _ _ hb'];exact hc 0 (by omega)
  have c1:(w.alloc (.cells #[.bool false,.int .i64 0,.int .i64 0] 81)).cell? ⟨b,off+1,none⟩=some (.int .u8 (zs.getD 1 0)):=by rw[World.cell?_alloc_old _ _ _ hb'];exact hc 1 (by omega)
  have HTB:Hid (tkB zs=(decide (zs.getD 0 0=84) && decide (zs.getD 1 0=49))):=by show _=_;unfold tkB;rw[hn];rfl
  by_cases h0:zs.getD 0 0=84
  ·rw[h0] at c0;by_cases h1:zs.getD 1 0=49
   ·have HV:Hid (tkV zs=.agg #[.bool true,.int .i64 (tkS zs),.int .i64 (tkE zs)]):=tkV_yes (by rw[HTB.out,h0,h1];rfl);rw[h1] at c1;clear h0 h1;clear HTB;have AT:∀(p m:Nat) (q:Nat),p+m≤72→At .u8 ((w.alloc (.cells #[.bool false,.int .i64 0,.int .i64 0] 81)).drewN q) (some ⟨b,off+p,none⟩) ((zs.drop p).take m):=fun p m q h=>
     At.sub (w:=(w.alloc (.cells #[.bool false,.int .i64 0,.int .i64 0] 81)).drewN q) (show b<((w.alloc (.cells #[.bool false,.int .i64 0,.int .i64 0] 81))).heap.size by simp;omega) (fun i hi=>by show((w.alloc (.cells #[.bool false,.int .i64 0,.int .i64 0] 81))).cell? _=_;rw[World.cell?_alloc_old _ _ _ hb'];exact hc i hi) p m (by omega)
    have C2:Hid (∀ q,Calls Tryz.prog 100 #[.slice (some ⟨b,off+2,none⟩) 2 (cap-2)] ((w.alloc (.cells #[.bool false,.int .i64 0,.int .i64 0] 81)).drewN q) fun e w'=>e=.returned (.int .i64 (tkS zs))∧w'=(w.alloc (.cells #[.bool false,.int .i64 0,.int .i64 0] 81)).drewN q):=fun q=>by
     rw[←tkS_eq hn];exact le_any _ 2 (cap-2) _ _ (by simp;omega) (by decide) (AT 2 2 q (by decide)) (hz.sub 2 2)
    have C4:Hid (∀ q,Calls Tryz.prog 100 #[.slice (some ⟨b,off+4,none⟩) 4 (cap-4)] ((w.alloc (.cells #[.bool false,.int .i64 0,.int .i64 0] 81)).drewN q) fun e w'=>e=.returned (.int .i64 (tkE zs))∧w'=(w.alloc (.cells #[.bool false,.int .i64 0,.int .i64 0] 81)).drewN q):=fun q=>by
     rw[←tkE_eq hn];exact le_any _ 4 (cap-4) _ _ (by simp;omega) (by decide) (AT 4 4 q (by decide)) (hz.sub 4 4)
    clear AT;have x1:(4:Int)≤(cap:Int):=by omega
    have x2:(8:Int)≤(cap:Int):=by omega
    have x3:¬ cap=2:=by omega
    have x4:¬ cap=4:=by omega
    go_enter Tryz.func80,Tryz.ntmps80;go_wp2_with fail;refine wp_region_any (by kernel_rfl) ?_;refine wpAny_slotsL 7 (fun w w'=>True) (frame:=(fun (a b c d e f g h i j k l m n o p q r s:Value)=>fun (t:Nat→Value)=>({ tmps:=List.toArray [a,b,c,d,e,f,g,h,i,j,k,l,m,n,o,p,q,r,s,t 0,t 1,t 2,t 3,t 4,t 5,t 6],defers:=[] }:Act)) _ _ _ _ _ _ _ _ _ _ _ _ _ _ _ _ _ _ _)
     (Ext:=fun w'=>∃ q,w'=(w.alloc (.cells #[.bool false,.int .i64 0,.int .i64 0] 81)).drewN q) (Good:=fun i _ v=>if i=0 then v=.slice (some ⟨b,off,none⟩) 72 cap else if i=1 then v=.slice (some ⟨b,off+2,none⟩) 2 (cap-2) else if i=2 then v=.int .i64 (tkS zs) else if i=3 then v=.slice (some ⟨b,off,none⟩) 72 cap else if i=4 then v=.slice (some ⟨b,off+4,none⟩) 4 (cap-4) else if i=5 then v=.int .i64 (tkE zs) else if i=6 then v=.agg #[.bool true,.int .i64 (tkS zs),.int .i64 (tkE zs)] else True) (by rfl) (by kernel_rfl) (fun i w w' v _ h=>h) (by kernel_rfl) (by kernel_rfl) ?hop ?hend _ _ ((fun (x0 x1 x2 x3 x4 x5 x6:Value)=>fun (i:Nat)=>if i=0 then x0 else if i=1 then x1 else if i=2 then x2 else if i=3 then x3 else if i=4 then x4 else if i=5 then x5 else if i=6 then x6 else undef) _ _ _ _ _ _ _) _ (by simp) (by simp) ?ext ?start (by simp)
    case start=>intro i hi h;exact absurd h (by rw[Array.getD_eq_getD_getElem?,Array.getElem?_replicate];split<;>simp)
    case ext=>exact⟨1,rfl⟩
    case hop=>
     intro i o t w' hil ho hx hdep K hK;obtain⟨q,rfl⟩:=hx;obtain rfl|rfl|rfl|rfl|rfl|rfl|rfl:i=0∨i=1∨i=2∨i=3∨i=4∨i=5∨i=6:=by omega
     all_goals(simp at ho;subst ho)
     ·clear hdep;have hK':=hK ((w.alloc (.cells #[.bool false,.int .i64 0,.int .i64 0] 81)).drewN q) (.slice (some ⟨b,off,none⟩) 72 cap) (by simp) ⟨q,rfl⟩ trivial;clear hK;go_simp;simpa[upd] using hK'
     ·have d0:t 0=.slice (some ⟨b,off,none⟩) 72 cap:=by simpa using hdep ⟨0,.data⟩ (by simp) rfl
      clear hdep;have hK':=hK ((w.alloc (.cells #[.bool false,.int .i64 0,.int .i64 0] 81)).drewN q) (.slice (some ⟨b,off+2,none⟩) 2 (cap-2)) (by simp) ⟨q,rfl⟩ trivial;clear hK;go_simp;simpa[upd,d0] using hK'
     ·have d1:t 1=.slice (some ⟨b,off+2,none⟩) 2 (cap-2):=by simpa using hdep ⟨1,.data⟩ (by simp) rfl
      clear hdep;have hK':=hK ((w.alloc (.cells #[.bool false,.int .i64 0,.int .i64 0] 81)).drewN q) (.int .i64 (tkS zs)) (by simp) ⟨q,rfl⟩ trivial;clear hK;go_simp;try simp only[d1]
      refine(C2.out q).mono ?_;rintro e w9 ⟨rfl,rfl⟩;go_simp;simpa[upd,d1] using hK'
     ·clear hdep;have hK':=hK ((w.alloc (.cells #[.bool false,.int .i64 0,.int .i64 0] 81)).drewN q) (.slice (some ⟨b,off,none⟩) 72 cap) (by simp) ⟨q,rfl⟩ trivial;clear hK;go_simp;simpa[upd] using hK'
     ·have d3:t 3=.slice (some ⟨b,off,none⟩) 72 cap:=by simpa using hdep ⟨3,.data⟩ (by simp) rfl
      clear hdep;have hK':=hK ((w.alloc (.cells #[.bool false,.int .i64 0,.int .i64 0] 81)).drewN q) (.slice (some ⟨b,off+4,none⟩) 4 (cap-4)) (by simp) ⟨q,rfl⟩ trivial;clear hK;go_simp;simpa[upd,d3] using hK'
     ·have d4:t 4=.slice (some ⟨b,off+4,none⟩) 4 (cap-4):=by simpa using hdep ⟨4,.data⟩ (by simp) rfl
      clear hdep;have hK':=hK ((w.alloc (.cells #[.bool false,.int .i64 0,.int .i64 0] 81)).drewN q) (.int .i64 (tkE zs)) (by simp) ⟨q,rfl⟩ trivial;clear hK;go_simp;try simp only[d4]
      refine(C4.out q).mono ?_;rintro e w9 ⟨rfl,rfl⟩;go_simp;simpa[upd,d4] using hK'
     ·have d2:t 2=.int .i64 (tkS zs):=by simpa using hdep ⟨2,.data⟩ (by simp) rfl
      have d5:t 5=.int .i64 (tkE zs):=by simpa using hdep ⟨5,.data⟩ (by simp) rfl
      clear hdep;have hK':=hK ((w.alloc (.cells #[.bool false,.int .i64 0,.int .i64 0] 81)).drewN q) (.agg #[.bool true,.int .i64 (tkS zs),.int .i64 (tkE zs)]) (by simp) ⟨q,rfl⟩ trivial;clear hK;go_simp;simpa[upd,d2,d5] using hK'
    case hend=>
     intro o t w' ho hx hg K hK;obtain⟨q,rfl⟩:=hx;simp at ho;subst ho;have d0:t 0=.slice (some ⟨b,off,none⟩) 72 cap:=by simpa using hg 0 (by decide)
     have d1:t 1=.slice (some ⟨b,off+2,none⟩) 2 (cap-2):=by simpa using hg 1 (by decide)
     have d2:t 2=.int .i64 (tkS zs):=by simpa using hg 2 (by decide)
     have d3:t 3=.slice (some ⟨b,off,none⟩) 72 cap:=by simpa using hg 3 (by decide)
     have d4:t 4=.slice (some ⟨b,off+4,none⟩) 4 (cap-4):=by simpa using hg 4 (by decide)
     have d5:t 5=.int .i64 (tkE zs):=by simpa using hg 5 (by decide)
     have d6:t 6=.agg #[.bool true,.int .i64 (tkS zs),.int .i64 (tkE zs)]:=by simpa using hg 6 (by decide)
     clear hg;refine wp_store_row 81 (.tmp 2) (.tmp 25) rfl w.heap.size #[.bool true,.int .i64 (tkS zs),.int .i64 (tkE zs)] rfl d6 81 _ (show((w.alloc (.cells #[.bool false,.int .i64 0,.int .i64 0] 81))).heap[w.heap.size]?=_ from heap_alloc_new w _) HSF.out rfl (by simp[Value.oneCell']) ?_;apply hK;have HR5:Hid (((((w.alloc (.cells #[.bool false,.int .i64 0,.int .i64 0] 81))).drewN q).setRow w.heap.size #[.bool true,.int .i64 (tkS zs),.int .i64 (tkE zs)]).heap[w.heap.size]?=some (.cells #[.bool true,.int .i64 (tkS zs),.int .i64 (tkE zs)] 81 (0,0))):=
      setRow_heap _ _ _ _ _ _ (show((w.alloc (.cells #[.bool false,.int .i64 0,.int .i64 0] 81))).heap[w.heap.size]?=_ from heap_alloc_new w _)
     have HB5:Hid (Below w.heap.size w ((((w.alloc (.cells #[.bool false,.int .i64 0,.int .i64 0] 81))).drewN q).setRow w.heap.size #[.bool true,.int .i64 (tkS zs),.int .i64 (tkE zs)])):=
      (below_drewQ HBN.out q).trans ((Wr.setRow _ _ _).below (Nat.le_refl _))
     generalize (((w.alloc (.cells #[.bool false,.int .i64 0,.int .i64 0] 81))).drewN q).setRow w.heap.size #[.bool true,.int .i64 (tkS zs),.int .i64 (tkE zs)]=w5 at *;clear hK d0 d1 d2 d3 d4 d5;go_wp2_with fail;refine bodyPost_ret (v:=.agg #[.bool true,.int .i64 (tkS zs),.int .i64 (tkE zs)]) (results_cell_row rfl _ _ w.heap.size 81 _ (0,0) _ rfl HR5.out Tryz.underlying81 rfl HSF.out) rfl ⟨by rw[HV.out],HB5.out⟩
   ·have HV:Hid (tkV zs=.agg #[.bool false,.int .i64 0,.int .i64 0]):=tkV_no (by rw[HTB.out,h0];simpa using h1);have h1':(zs.getD 1 0 == 49)=false:=by simpa using h1
    clear hc HTB h0 h1;generalize zs.getD 1 0=z1 at *;go_enter Tryz.func80,Tryz.ntmps80;go_wp2;refine bodyPost_ret (v:=.agg #[.bool false,.int .i64 0,.int .i64 0]) (results_cell_row rfl _ _ w.heap.size 81 _ (0,0) _ rfl (heap_alloc_new w _) Tryz.underlying81 rfl HSF.out) rfl ⟨by rw[HV.out],HBN.out⟩
  ·have HV:Hid (tkV zs=.agg #[.bool false,.int .i64 0,.int .i64 0]):=tkV_no (by rw[HTB.out,decide_eq_false h0];rfl);have h0':(zs.getD 0 0 != 84)=true:=by simpa using h0
   clear hc HTB c1;generalize zs.getD 0 0=z0 at *;go_enter Tryz.func80,Tryz.ntmps80;go_wp2;refine bodyPost_ret (v:=.agg #[.bool false,.int .i64 0,.int .i64 0]) (results_cell_row rfl _ _ w.heap.size 81 _ (0,0) _ rfl (heap_alloc_new w _) Tryz.underlying81 rfl HSF.out) rfl ⟨by rw[HV.out],HBN.out⟩
 ·have HV:Hid (tkV zs=.agg #[.bool false,.int .i64 0,.int .i64 0]):=tkV_no (by unfold tkB;rw[decide_eq_false (by omega)];rfl);have h72':¬ ((n:Int)=72):=by omega
  have h73:((n:Int) != 72)=true:=by simpa using h72'
  clear ha h72;go_enter Tryz.func80,Tryz.ntmps80;go_wp2;refine bodyPost_ret (v:=.agg #[.bool false,.int .i64 0,.int .i64 0]) ?res rfl ?post
  case res=>exact(results_cell_row rfl _ _ w.heap.size 81 _ (0,0) _ rfl (heap_alloc_new w _) Tryz.underlying81 rfl HSF.out)
  case post=>exact⟨by rw[HV.out],HBN.out⟩
theorem tkE_u32 {zs:List Int} (hz:Byte zs):0≤tkE zs∧tkE zs<4294967296:=by
 have h4:=hz.get 4;have h5:=hz.get 5;have h6:=hz.get 6;have h7:=hz.get 7;unfold tkE;omega
set_option maxHeartbeats 400000 in
theorem getE_any (b off cap:Nat) (zs:List Int) (w:World) (hc:∀ i,i<zs.length→w.cell? ⟨b,off+i,none⟩=some (.int .u8 (zs.getD i 0))) (hz:Byte zs) (hl:zs.length=72) :
  Calls Tryz.prog 58 #[.slice (some ⟨b,off,none⟩) 72 cap,.int .i64 4] w fun e w'=>e=.returned (.int .u32 (tkE zs))∧∃ q,w'=w.drewN q:=by
 have c0:=hc 4 (by omega);have c1:=hc 5 (by omega);have c2:=hc 6 (by omega);have c3:=hc 7 (by omega);have b0:=hz.get 4;have b1:=hz.get 5;have b2:=hz.get 6;have b3:=hz.get 7;have HN:Hid (tkE zs=zs.getD 4 0+256*zs.getD 5 0+65536*zs.getD 6 0+16777216*zs.getD 7 0):=rfl;generalize zs.getD 4 0=x0 at *;generalize zs.getD 5 0=x1 at *;generalize zs.getD 6 0=x2 at *;generalize zs.getD 7 0=x3 at *;clear hc;obtain⟨b01,b02⟩:=b0;obtain⟨b11,b12⟩:=b1;obtain⟨b21,b22⟩:=b2;obtain⟨b31,b32⟩:=b3;go_enter Tryz.func58,Tryz.ntmps58;go_wp2
 go_quiet (fail)
 go_wp2
 go_ret
 exact⟨ret_int (by rw[HN.out]),nq,rfl⟩
set_option maxRecDepth 100000 in
set_option maxHeartbeats 1000000 in
theorem ptS_any (a:Option Addr) (n cap:Nat) (zs:List Int) (w:World) (hn:zs.length=n) (hm:n≤1048576) (hcap:n≤cap) (ha:At .u8 w a zs) (hz:Byte zs) :
  Calls Tryz.prog 41 #[.slice a n cap] w fun e w'=>e=.returned (tkV zs)∧Below w.heap.size w w':=by
 have HBN:Hid (Below w.heap.size w (w.alloc (.cells #[.bool false,.int .i64 0,.int .i64 0] 81))):=(Below.refl _ _).alloc (Nat.le_refl _) _;have HSF:Hid ((Tryz.prog.info? 81).map (·.size)=some 3):=by show _=_;kernel_rfl
 by_cases h72:n=72
 ·subst h72;obtain⟨b,off,rfl,hb,hc⟩:=ha.get (by omega);have hb':b≠w.heap.size:=by omega
  have c0:(w.alloc (.cells #[.bool false,.int .i64 0,.int .i64 0] 81)).cell? ⟨b,off,none⟩=some (.int .u8 (zs.getD 0 0)):=by rw[World.cell?_alloc_old _ _ _ hb'];exact hc 0 (by omega)
  have c1:(w.alloc (.cells #[.bool false,.int .i64 0,.int .i64 0] 81)).cell? ⟨b,off+1,none⟩=some (.int .u8 (zs.getD 1 0)):=by rw[World.cell?_alloc_old _ _ _ hb'];exact hc 1 (by omega)
  have HTB:Hid (tkB zs=(decide (zs.getD 0 0=84) && decide (zs.getD 1 0=49))):=by show _=_;unfold tkB;rw[hn];rfl
  by_cases h0:zs.getD 0 0=84
  ·rw[h0] at c0;by_cases h1:zs.getD 1 0=49
   ·have HV:Hid (tkV zs=.agg #[.bool true,.int .i64 (tkS zs),.int .i64 (tkE zs)]):=tkV_yes (by rw[HTB.out,h0,h1];rfl);rw[h1] at c1;clear h0 h1;clear HTB;have b2:=hz.get 2;have b3:=hz.get 3;have c2:((w.alloc (.cells #[.bool false,.int .i64 0,.int .i64 0] 81))).cell? ⟨b,off+2,none⟩=some (.int .u8 (zs.getD 2 0)):=by rw[World.cell?_alloc_old _ _ _ hb'];exact hc 2 (by omega)
    have c3:((w.alloc (.cells #[.bool false,.int .i64 0,.int .i64 0] 81))).cell? ⟨b,off+3,none⟩=some (.int .u8 (zs.getD 3 0)):=by rw[World.cell?_alloc_old _ _ _ hb'];exact hc 3 (by omega)
    have C4:Hid (∀ q,Calls Tryz.prog 58 #[.slice (some ⟨b,off,none⟩) 72 cap,.int .i64 4] ((w.alloc (.cells #[.bool false,.int .i64 0,.int .i64 0] 81)).drewN q) fun e w'=>e=.returned (.int .u32 (tkE zs))∧∃ p,w'=(w.alloc (.cells #[.bool false,.int .i64 0,.int .i64 0] 81)).drewN p):=fun q=>
     (getE_any b off cap zs ((w.alloc (.cells #[.bool false,.int .i64 0,.int .i64 0] 81)).drewN q) (fun i hi=>by show((w.alloc (.cells #[.bool false,.int .i64 0,.int .i64 0] 81))).cell? _=_;rw[World.cell?_alloc_old _ _ _ hb'];exact hc i hi) hz hn).mono (fun e w' ⟨h,p,h'⟩=>⟨h,q+p,by rw[h'];simp[World.drewN,Nat.add_assoc]⟩)
    have hE:=tkE_u32 hz;have HS9:Hid (zs.getD 2 0+256*zs.getD 3 0=tkS zs):=rfl;obtain⟨hE0,hE1⟩:=hE;obtain⟨b20,b21⟩:=b2;obtain⟨b30,b31⟩:=b3;clear hc;generalize zs.getD 2 0=z2 at *;generalize zs.getD 3 0=z3 at *;have W1:IntKind.i64.wrap z2=z2:=by rw[IntKind.wrap_i64];omega
    have W2:IntKind.i64.wrap z3=z3:=by rw[IntKind.wrap_i64];omega
    have W3:IntKind.i64.wrap (256*z3)=256*z3:=by rw[IntKind.wrap_i64];omega
    have W4:IntKind.i64.wrap (z2+256*z3)=z2+256*z3:=by rw[IntKind.wrap_i64];omega
    have W5:IntKind.i64.wrap (tkE zs)=tkE zs:=by rw[IntKind.wrap_i64];omega
    go_enter Tryz.func41,Tryz.ntmps41;go_wp2_with fail;refine wp_region_any (by kernel_rfl) ?_;refine wpAny_slotsL 14 (fun w w'=>True) (frame:=(fun (a b c d e f g h i j k l m n o p q r s:Value)=>fun (t:Nat→Value)=>({ tmps:=List.toArray [a,b,c,d,e,f,g,h,i,j,k,l,m,n,o,p,q,r,s,t 0,t 1,t 2,t 3,t 4,t 5,t 6,t 7,t 8,t 9,t 10,t 11,t 12,t 13],defers:=[] }:Act)) _ _ _ _ _ _ _ _ _ _ _ _ _ _ _ _ _ _ _)
     (Ext:=fun w'=>∃ q,w'=(w.alloc (.cells #[.bool false,.int .i64 0,.int .i64 0] 81)).drewN q) (Good:=fun i _ v=>if i=0 then v=.slice (some ⟨b,off,none⟩) 72 cap else if i=1 then v=.pointer (some ⟨b,off+2,none⟩) else if i=2 then v=.int .u8 z2 else if i=3 then v=.int .i64 z2 else if i=4 then v=.slice (some ⟨b,off,none⟩) 72 cap else if i=5 then v=.pointer (some ⟨b,off+3,none⟩) else if i=6 then v=.int .u8 z3 else if i=7 then v=.int .i64 z3 else if i=8 then v=.int .i64 (256*z3) else if i=9 then v=.int .i64 (z2+256*z3) else if i=10 then v=.slice (some ⟨b,off,none⟩) 72 cap else if i=11 then v=.int .u32 (tkE zs) else if i=12 then v=.int .i64 (tkE zs) else if i=13 then v=.agg #[.bool true,.int .i64 (z2+256*z3),.int .i64 (tkE zs)] else True) (by rfl) (by kernel_rfl) (fun i w w' v _ h=>h) (by kernel_rfl) (by kernel_rfl) ?hop ?hend _ _ ((fun (x0 x1 x2 x3 x4 x5 x6 x7 x8 x9 x10 x11 x12 x13:Value)=>fun (i:Nat)=>if i=0 then x0 else if i=1 then x1 else if i=2 then x2 else if i=3 then x3 else if i=4 then x4 else if i=5 then x5 else if i=6 then x6 else if i=7 then x7 else if i=8 then x8 else if i=9 then x9 else if i=10 then x10 else if i=11 then x11 else if i=12 then x12 else if i=13 then x13 else undef) _ _ _ _ _ _ _ _ _ _ _ _ _ _) _ (by simp) (by simp) ?ext ?start (by simp)
    case start=>intro i hi h;exact absurd h (by rw[Array.getD_eq_getD_getElem?,Array.getElem?_replicate];split<;>simp)
    case ext=>exact⟨1,rfl⟩
    case hop=>
     intro i o t w' hil ho hx hdep K hK;obtain⟨q,rfl⟩:=hx;obtain rfl|rfl|rfl|rfl|rfl|rfl|rfl|rfl|rfl|rfl|rfl|rfl|rfl|rfl:i=0∨i=1∨i=2∨i=3∨i=4∨i=5∨i=6∨i=7∨i=8∨i=9∨i=10∨i=11∨i=12∨i=13:=by omega
     all_goals(simp at ho;subst ho)
     ·clear hdep;have hK':=hK ((w.alloc (.cells #[.bool false,.int .i64 0,.int .i64 0] 81)).drewN q) (.slice (some ⟨b,off,none⟩) 72 cap) (by simp) ⟨q,rfl⟩ trivial;clear hK;go_simp;simpa[upd,W1,W2,W3,W4,W5] using hK'
     ·have d0:t 0=.slice (some ⟨b,off,none⟩) 72 cap:=by simpa using hdep ⟨0,.data⟩ (by simp) rfl
      clear hdep;have hK':=hK ((w.alloc (.cells #[.bool false,.int .i64 0,.int .i64 0] 81)).drewN q) (.pointer (some ⟨b,off+2,none⟩)) (by simp) ⟨q,rfl⟩ trivial;clear hK;go_simp;simpa[upd,d0,W1,W2,W3,W4,W5] using hK'
     ·have d1:t 1=.pointer (some ⟨b,off+2,none⟩):=by simpa using hdep ⟨1,.data⟩ (by simp) rfl
      clear hdep;have hK':=hK ((w.alloc (.cells #[.bool false,.int .i64 0,.int .i64 0] 81)).drewN q) (.int .u8 z2) (by simp) ⟨q,rfl⟩ trivial;clear hK;go_simp;simpa[upd,d1,W1,W2,W3,W4,W5] using hK'
     ·have d2:t 2=.int .u8 z2:=by simpa using hdep ⟨2,.data⟩ (by simp) rfl
      clear hdep;have hK':=hK ((w.alloc (.cells #[.bool false,.int .i64 0,.int .i64 0] 81)).drewN q) (.int .i64 z2) (by simp) ⟨q,rfl⟩ trivial;clear hK;go_simp;simpa[upd,d2,W1,W2,W3,W4,W5] using hK'
     ·clear hdep;have hK':=hK ((w.alloc (.cells #[.bool false,.int .i64 0,.int .i64 0] 81)).drewN q) (.slice (some ⟨b,off,none⟩) 72 cap) (by simp) ⟨q,rfl⟩ trivial;clear hK;go_simp;simpa[upd,W1,W2,W3,W4,W5] using hK'
     ·have d4:t 4=.slice (some ⟨b,off,none⟩) 72 cap:=by simpa using hdep ⟨4,.data⟩ (by simp) rfl
      clear hdep;have hK':=hK ((w.alloc (.cells #[.bool false,.int .i64 0,.int .i64 0] 81)).drewN q) (.pointer (some ⟨b,off+3,none⟩)) (by simp) ⟨q,rfl⟩ trivial;clear hK;go_simp;simpa[upd,d4,W1,W2,W3,W4,W5] using hK'
     ·have d5:t 5=.pointer (some ⟨b,off+3,none⟩):=by simpa using hdep ⟨5,.data⟩ (by simp) rfl
      clear hdep;have hK':=hK ((w.alloc (.cells #[.bool false,.int .i64 0,.int .i64 0] 81)).drewN q) (.int .u8 z3) (by simp) ⟨q,rfl⟩ trivial;clear hK;go_simp;simpa[upd,d5,W1,W2,W3,W4,W5] using hK'
     ·have d6:t 6=.int .u8 z3:=by simpa using hdep ⟨6,.data⟩ (by simp) rfl
      clear hdep;have hK':=hK ((w.alloc (.cells #[.bool false,.int .i64 0,.int .i64 0] 81)).drewN q) (.int .i64 z3) (by simp) ⟨q,rfl⟩ trivial;clear hK;go_simp;simpa[upd,d6,W1,W2,W3,W4,W5] using hK'
     ·have d7:t 7=.int .i64 z3:=by simpa using hdep ⟨7,.data⟩ (by simp) rfl
      clear hdep;have hK':=hK ((w.alloc (.cells #[.bool false,.int .i64 0,.int .i64 0] 81)).drewN q) (.int .i64 (256*z3)) (by simp) ⟨q,rfl⟩ trivial;clear hK;go_simp;simpa[upd,d7,W1,W2,W3,W4,W5] using hK'
     ·have d3:t 3=.int .i64 z2:=by simpa using hdep ⟨3,.data⟩ (by simp) rfl
      have d8:t 8=.int .i64 (256*z3):=by simpa using hdep ⟨8,.data⟩ (by simp) rfl
      clear hdep;have hK':=hK ((w.alloc (.cells #[.bool false,.int .i64 0,.int .i64 0] 81)).drewN q) (.int .i64 (z2+256*z3)) (by simp) ⟨q,rfl⟩ trivial;clear hK;go_simp;simpa[upd,d3,d8,W1,W2,W3,W4,W5] using hK'
     ·clear hdep;have hK':=hK ((w.alloc (.cells #[.bool false,.int .i64 0,.int .i64 0] 81)).drewN q) (.slice (some ⟨b,off,none⟩) 72 cap) (by simp) ⟨q,rfl⟩ trivial;clear hK;go_simp;simpa[upd,W1,W2,W3,W4,W5] using hK'
     ·have d10:t 10=.slice (some ⟨b,off,none⟩) 72 cap:=by simpa using hdep ⟨10,.data⟩ (by simp) rfl
      clear hdep;have hK':=fun p=>hK ((w.alloc (.cells #[.bool false,.int .i64 0,.int .i64 0] 81)).drewN p) (.int .u32 (tkE zs)) (by simp) ⟨p,rfl⟩ trivial
      clear hK;go_simp;try simp only[d10]
      refine(C4.out q).mono ?_;rintro e w9 ⟨rfl,p,rfl⟩;have hK2:=hK' p;clear hK';go_simp;simpa[upd,d10] using hK2
     ·have d11:t 11=.int .u32 (tkE zs):=by simpa using hdep ⟨11,.data⟩ (by simp) rfl
      clear hdep;have hK':=hK ((w.alloc (.cells #[.bool false,.int .i64 0,.int .i64 0] 81)).drewN q) (.int .i64 (tkE zs)) (by simp) ⟨q,rfl⟩ trivial;clear hK;go_simp;simpa[upd,d11,W1,W2,W3,W4,W5] using hK'
     ·have d9:t 9=.int .i64 (z2+256*z3):=by simpa using hdep ⟨9,.data⟩ (by simp) rfl
      have d12:t 12=.int .i64 (tkE zs):=by simpa using hdep ⟨12,.data⟩ (by simp) rfl
      clear hdep;have hK':=hK ((w.alloc (.cells #[.bool false,.int .i64 0,.int .i64 0] 81)).drewN q) (.agg #[.bool true,.int .i64 (z2+256*z3),.int .i64 (tkE zs)]) (by simp) ⟨q,rfl⟩ trivial;clear hK;go_simp;simpa[upd,d9,d12,W1,W2,W3,W4,W5] using hK'
    case hend=>
     intro o t w' ho hx hg K hK;obtain⟨q,rfl⟩:=hx;simp at ho;subst ho;have d0:t 0=.slice (some ⟨b,off,none⟩) 72 cap:=by simpa using hg 0 (by decide)
     have d1:t 1=.pointer (some ⟨b,off+2,none⟩):=by simpa using hg 1 (by decide)
     have d2:t 2=.int .u8 z2:=by simpa using hg 2 (by decide)
     have d3:t 3=.int .i64 z2:=by simpa using hg 3 (by decide)
     have d4:t 4=.slice (some ⟨b,off,none⟩) 72 cap:=by simpa using hg 4 (by decide)
     have d5:t 5=.pointer (some ⟨b,off+3,none⟩):=by simpa using hg 5 (by decide)
     have d6:t 6=.int .u8 z3:=by simpa using hg 6 (by decide)
     have d7:t 7=.int .i64 z3:=by simpa using hg 7 (by decide)
     have d8:t 8=.int .i64 (256*z3):=by simpa using hg 8 (by decide)
     have d9:t 9=.int .i64 (z2+256*z3):=by simpa using hg 9 (by decide)
     have d10:t 10=.slice (some ⟨b,off,none⟩) 72 cap:=by simpa using hg 10 (by decide)
     have d11:t 11=.int .u32 (tkE zs):=by simpa using hg 11 (by decide)
     have d12:t 12=.int .i64 (tkE zs):=by simpa using hg 12 (by decide)
     have d13:t 13=.agg #[.bool true,.int .i64 (z2+256*z3),.int .i64 (tkE zs)]:=by simpa using hg 13 (by decide)
     clear hg;refine wp_store_row 81 (.tmp 2) (.tmp 32) rfl w.heap.size #[.bool true,.int .i64 (z2+256*z3),.int .i64 (tkE zs)] rfl d13 81 _ (show((w.alloc (.cells #[.bool false,.int .i64 0,.int .i64 0] 81))).heap[w.heap.size]?=_ from heap_alloc_new w _) HSF.out rfl (by simp[Value.oneCell']) ?_;apply hK;have HR5:Hid (((((w.alloc (.cells #[.bool false,.int .i64 0,.int .i64 0] 81))).drewN q).setRow w.heap.size #[.bool true,.int .i64 (z2+256*z3),.int .i64 (tkE zs)]).heap[w.heap.size]?=some (.cells #[.bool true,.int .i64 (z2+256*z3),.int .i64 (tkE zs)] 81 (0,0))):=
      setRow_heap _ _ _ _ _ _ (show((w.alloc (.cells #[.bool false,.int .i64 0,.int .i64 0] 81))).heap[w.heap.size]?=_ from heap_alloc_new w _)
     have HB5:Hid (Below w.heap.size w ((((w.alloc (.cells #[.bool false,.int .i64 0,.int .i64 0] 81))).drewN q).setRow w.heap.size #[.bool true,.int .i64 (z2+256*z3),.int .i64 (tkE zs)])):=
      (below_drewQ HBN.out q).trans ((Wr.setRow _ _ _).below (Nat.le_refl _))
     generalize (((w.alloc (.cells #[.bool false,.int .i64 0,.int .i64 0] 81))).drewN q).setRow w.heap.size #[.bool true,.int .i64 (z2+256*z3),.int .i64 (tkE zs)]=w5 at *;clear hK d0 d1 d2 d3 d4 d5 d6 d7 d8 d9 d10 d11 d12;go_wp2_with fail;refine bodyPost_ret (v:=.agg #[.bool true,.int .i64 (z2+256*z3),.int .i64 (tkE zs)]) (results_cell_row rfl _ _ w.heap.size 81 _ (0,0) _ rfl HR5.out Tryz.underlying81 rfl HSF.out) rfl ⟨by rw[HV.out,←HS9.out],HB5.out⟩
   ·have HV:Hid (tkV zs=.agg #[.bool false,.int .i64 0,.int .i64 0]):=tkV_no (by rw[HTB.out,h0];simpa using h1);have h1':(zs.getD 1 0 == 49)=false:=by simpa using h1
    clear hc HTB h0 h1;generalize zs.getD 1 0=z1 at *;go_enter Tryz.func41,Tryz.ntmps41;go_wp2;refine bodyPost_ret (v:=.agg #[.bool false,.int .i64 0,.int .i64 0]) (results_cell_row rfl _ _ w.heap.size 81 _ (0,0) _ rfl (heap_alloc_new w _) Tryz.underlying81 rfl HSF.out) rfl ⟨by rw[HV.out],HBN.out⟩
  ·have HV:Hid (tkV zs=.agg #[.bool false,.int .i64 0,.int .i64 0]):=tkV_no (by rw[HTB.out,decide_eq_false h0];rfl);have h0':(zs.getD 0 0 != 84)=true:=by simpa using h0
   clear hc HTB c1;generalize zs.getD 0 0=z0 at *;go_enter Tryz.func41,Tryz.ntmps41;go_wp2;refine bodyPost_ret (v:=.agg #[.bool false,.int .i64 0,.int .i64 0]) (results_cell_row rfl _ _ w.heap.size 81 _ (0,0) _ rfl (heap_alloc_new w _) Tryz.underlying81 rfl HSF.out) rfl ⟨by rw[HV.out],HBN.out⟩
 ·have HV:Hid (tkV zs=.agg #[.bool false,.int .i64 0,.int .i64 0]):=tkV_no (by unfold tkB;rw[decide_eq_false (by omega)];rfl);have h72':¬ ((n:Int)=72):=by omega
  have h73:((n:Int) != 72)=true:=by simpa using h72'
  clear ha h72;go_enter Tryz.func41,Tryz.ntmps41;go_wp2;refine bodyPost_ret (v:=.agg #[.bool false,.int .i64 0,.int .i64 0]) ?res rfl ?post
  case res=>exact(results_cell_row rfl _ _ w.heap.size 81 _ (0,0) _ rfl (heap_alloc_new w _) Tryz.underlying81 rfl HSF.out)
  case post=>exact⟨by rw[HV.out],HBN.out⟩
theorem flat_snoc (zss:List (List Int)) (k:Nat) (h:k<zss.length):(zss.take (k+1)).flatten=(zss.take k).flatten++zss.getD k []:=by
 rw[List.take_succ_eq_append_getElem h,List.flatten_append];simp[h]
theorem flat_le (zss:List (List Int)) (k:Nat):(zss.take k).flatten.length≤zss.flatten.length:=by
 conv=>rhs;rw[←List.take_append_drop k zss]
 rw[List.flatten_append,List.length_append];omega
def RowC (w:World) (g C:Nat):Prop:=∃ cur:Array Value,w.heap[g]?=some (.cells cur 5 (0,0))∧cur.size=C
theorem wpList_appZ (w:World) {ops:Array Oper} {rest:List Oper} {o:Oper} {a:Act} {Q:Exit→Act→World→Prop} (hg:o.guard=none) (s x:Operand)
  (hop:o.op=Op.call { callee:=Callee.builtin Builtin.append,args:=#[s,x],argTypes:=#[26,3] }) (hs:a.eval s=.slice none 0 0) (n:Nat) (hx:a.eval x=.int .i64 n) (hn:0<n) (hb:n≤2097152)
  (hK:∀ C w',n≤C→C≤maxLen→RowC w' w.heap.size C→Below w.heap.size w w'→wpList Tryz.prog ops Q rest (a.put o.dst (.slice (some ⟨w.heap.size,0,none⟩) n C)) w') :
  wpList Tryz.prog ops Q (o::rest) a w:=by
 obtain⟨i0,hi,hz0,hz1,hz2⟩:=info_parts Tryz.infoU8';have hfit:Builtin.nextslicecap (0+n) 0*i0.bytes≤281474976710656:=by rw[Nat.zero_add,nextslicecap_zero (by omega),hz2];omega
 have hr:=Go.Lib.run_append_grow_zeros (P:=Tryz.prog) w 26 3 o.type 5 i0 (.int .u8 0) .i64 .i64 Tryz.underlying26 Tryz.underlying3 hi hz0 none 0 0 [] (by rfl) n hn (by omega) (by omega) (by omega) (by rw[hz2];omega) hfit;have hge:=grownCap_ge w (0+n) 0 5;have hle:=grownCap_le_maxLen w (0+n) 0 5 (by unfold maxLen;omega);rw[Nat.zero_add] at hr hge hle;generalize grownCap w n 0 5=C at hr hge hle;refine wpList_plain hg fun K hK'=>?_
 have hk:=hK' _ _ (hK C _ hge hle ⟨_,heap_alloc_new w.drew (.cells ((([]:List Value).toArray++Builtin.zeroCells (Value.int .u8 0).cells n)++Builtin.zeroCells (Value.int .u8 0).cells (C-n)) 5),by simp[Builtin.zeroCells,Value.cells];omega⟩ ((Below.refl _ _).drew.alloc (Nat.le_refl _) _));unfold Oper.wp execOp;simp only[hop,resolve,invoke,builtin,Sem.run_bind,Sem.run_pure,Result.andThen_ok,List.map_toArray,List.map_cons,List.map_nil,hs,hx,hr];exact hk
set_option maxRecDepth 100000 in
set_option maxHeartbeats 1000000 in
theorem grow_any (n:Nat) (w:World) (hn:0<n) (hb:n≤2097152) :
  Calls Tryz.prog 137 #[.slice none 0 0,.int .i64 n] w fun e w'=>∃ v,e=.returned v∧Own w' w.heap.size v []∧Below w.heap.size w w':=by
 have h0:¬ ((n:Int)<0):=by omega
 have h1:(n:Int)>0:=by omega
 go_enter Tryz.func137,Tryz.ntmps137;go_wp2_with (first
  |(refine wpList_appZ _ rfl (.tmp 20) (.tmp 21) rfl rfl n rfl hn hb ?_)
  |fail)
 intro C w1 hC hm hrow hb1;have HF:Hid (Own w1 w.heap.size (.slice (some ⟨w.heap.size,0,none⟩) 0 C) []):=by
  obtain⟨cur,h1,h2⟩:=hrow;exact⟨⟨by simp,.inr ⟨w.heap.size,C,cur,rfl,Nat.le_refl _,h1,by simp,hm,by rw[h2,Nat.mul_one],by simp⟩⟩,_,_,rfl⟩
 have HB:Hid (Below w.heap.size w w1):=hb1;have hC':(0:Int)≤C:=by omega
 have hm':C≤9223372036854775807:=by unfold maxLen at hm;omega
 clear hrow hb1 hm;go_wp2
 go_ret
 exact⟨_,rfl,HF.out,HB.out⟩
def tot (zss:List (List Int)) (k:Nat):Nat:=(zss.take k).flatten.length
theorem tot_succ (zss:List (List Int)) (k:Nat) (h:k<zss.length):tot zss (k+1)=tot zss k+(zss.getD k []).length:=by
 unfold tot;rw[flat_snoc zss k h,List.length_append]
set_option maxRecDepth 100000 in
set_option maxHeartbeats 2000000 in
theorem conc_any (p m cap:Nat) (vs:List Value) (zss:List (List Int)) (w:World) (hm:zss.length=m) (hp:p<w.heap.size) (hc:∀ i,i<m→w.cell? ⟨p,i,none⟩=some (vs.getD i undef))
  (hz:∀ i,i<m→Part w (vs.getD i undef) (zss.getD i [])) (ht:zss.flatten.length≤2097152) (h0:0<zss.flatten.length) (hm':m≤2097152) :
  Calls Tryz.prog 108 #[.slice (some ⟨p,0,none⟩) m cap] w fun e w'=>∃ v,e=.returned v∧Own w' w.heap.size v zss.flatten∧Below w.heap.size w w':=by
 have HM:Hid (zss.length=m):=hm;have HC:Hid (∀ i,i<m→w.cell? ⟨p,i,none⟩=some (vs.getD i undef)):=hc;have HZ:Hid (∀ i,i<m→Part w (vs.getD i undef) (zss.getD i [])):=hz;have HT:Hid (zss.flatten.length≤2097152∧0<zss.flatten.length):=⟨ht,h0⟩
 have HTA:Hid (tot zss m=zss.flatten.length):=by show _=_;unfold tot;rw[List.take_of_length_le (by omega)]
 clear hc hz ht h0 hm;go_enter Tryz.func108,Tryz.ntmps108;go_wp2_with fail
 go_loop [3,11] (fun q i=>∃ k:Nat,k≤m∧i=.int .i64 k∧q=.int .i64 (tot zss k)) (fun _ i=>m-(intOf i).toNat)
 case atStart=>exact⟨0,Nat.zero_le _,rfl,rfl⟩
 case round=>
  obtain⟨k,hk,rfl,rfl⟩:=hrel;by_cases hlt:k<m
  ·have hlt':(k:Int)<m:=by omega
   obtain⟨b,o,c,hv,hb,hcell⟩:=HZ.out k hlt;have hck:w.cell? ⟨p,k,none⟩=some (.slice (some ⟨b,o,none⟩) (zss.getD k []).length c):=by rw[HC.out k hlt,hv]
   have HS:Hid (tot zss (k+1)=tot zss k+(zss.getD k []).length):=tot_succ zss k (by have:=HM.out;omega);have hle:tot zss (k+1)≤2097152:=Nat.le_trans (flat_le zss (k+1)) HT.out.1;rw[HS.out] at hle;clear hcell hv hb;generalize (zss.getD k []).length=z at *;generalize tot zss k=y at *;have hn0:¬ ((y:Int)+z<0):=by omega
   go_wp2
   go_round
   case rel=>exact⟨k+1,by omega,by go_num,by rw[HS.out];go_num⟩
   case measure=>simp[intOf];omega
  ·have hke:k=m:=by omega
   subst hke;obtain⟨N,hN⟩:∃ N,tot zss k=N:=⟨_,rfl⟩
   have CG:=grow_any N w (by rw[←hN,HTA.out];exact HT.out.2) (by rw[←hN,HTA.out];exact HT.out.1);have hNb:N≤2097152:=by rw[←hN,HTA.out];exact HT.out.1
   rw[hN];clear hN HTA;have hlt':¬ ((k:Int)<k):=by omega
   go_wp2_with fail;refine CG.mono ?_;rintro e w1 ⟨v1,rfl,ho1,hb1⟩;have HO1:Hid (Own w1 w.heap.size v1 []):=ho1;have HB1:Hid (Below w.heap.size w w1):=hb1;clear ho1 hb1 hlt' CG;go_wp2_with fail
   go_loopw [6,27] (fun v i wr=>∃(j:Nat) (l:Value),j≤k∧i=.int .i64 j∧l=v∧Own wr w.heap.size l (zss.take j).flatten∧Below w.heap.size w wr) (fun _ i _=>k-(intOf i).toNat)
   case atStart=>exact⟨0,_,Nat.zero_le _,rfl,rfl,HO1.out,HB1.out⟩
   case round=>
    clear HO1 HB1;obtain⟨j,l,hj,rfl,rfl,hown,hbel⟩:=hrel;by_cases hlt:j<k
    ·have hsz:=hbel.size;obtain⟨b,o,c,hv,hb,hcell⟩:=HZ.out j hlt;have hck:wr.cell? ⟨p,j,none⟩=some (.slice (some ⟨b,o,none⟩) (zss.getD j []).length c):=by rw[hbel.cell (p:=⟨p,j,none⟩) hp,HC.out j hlt,hv]
     have HNW:Hid (∀ i,i<(zss.getD j []).length→wr.cell? ((⟨b,o,none⟩:Addr).add i)=some (.int .u8 ((zss.getD j []).getD i 0))):=by
      intro i hi;rw[Addr.add_lit,hbel.cell (p:=⟨b,o+i,none⟩) hb];exact hcell i hi
     have hfl:=flat_snoc zss j (by have:=HM.out;omega);have hle:=flat_le zss (j+1);have HL:Hid ((zss.take j).flatten.length+(zss.getD j []).length≤1099511627776):=by show _≤_;rw[hfl,List.length_append] at hle;have:=HT.out.1;omega
     have HFL:Hid ((zss.take (j+1)).flatten=(zss.take j).flatten++zss.getD j []):=hfl;have HOW:Hid (Own wr w.heap.size l (zss.take j).flatten):=hown;have HBE:Hid (Below w.heap.size w wr):=hbel;clear hcell hv hb hfl hle hown hbel;go_wp2_with (first
      |(at_builtin;refine wpList_app _ rfl (.tmp 31) (.tmp 32) rfl w.heap.size _ _ rfl HOW.out ⟨b,o,none⟩ _ c (zss.getD j []) rfl rfl HNW.out HL.out hsz ?_)
      |fail)
     intro v' w2 hown' hbel' _;have HO2:Hid (Own w2 w.heap.size v' (zss.take (j+1)).flatten):=by show Own _ _ _ _;rw[HFL.out];exact hown'
     have HB2:Hid (Below w.heap.size w w2):=HBE.out.trans hbel';clear hown' hbel' HOW HBE HNW;go_wp2;go_roundw
     case rel=>exact⟨j+1,_,by omega,by go_num,rfl,HO2.out,HB2.out⟩
     case measure=>simp[intOf];omega
    ·have hje:j=k:=by omega
     have hlt':¬ ((j:Int)<k):=by omega
     have HO2:Hid (Own wr w.heap.size l zss.flatten):=by
      have:zss.take j=zss:=List.take_of_length_le (by have:=HM.out;omega);rw[this] at hown;exact hown
     clear hown;go_wp2
     go_ret
     exact⟨_,rfl,HO2.out,hbel⟩
end Go.Proofs.YtjdhhgaelgemcaaGreatDoor
namespace Go.Proofs.YtjdhhgaelgemcaaGreatDoor
open Go.ChangeShapes Go.WideShapes Go.ChangeAt Go.RowKit Go.Joins
set_option linter.unusedVariables false
def bW:List Int:=[7378697629483820632,7378697629483820646,7378697629483820646,7378697629483820646]
theorem bW_val:val 18446744073709551616 bW=baseY:=by decide
theorem bW_wrd:Wrd bW:=by unfold Wrd bW;decide
set_option maxHeartbeats 400000 in
theorem ibas_any (w:World):Calls Tryz.prog 103 #[] w (CodePb w baseY):=by
 have HR:Hid (RowW (w.alloc (.cells #[.int .u64 0,.int .u64 0,.int .u64 0,.int .u64 0] 143)) w.heap.size 143 [0,0,0,0]):=heap_alloc_new w _;have HSZ:Hid ((Tryz.prog.info? 143).map (·.size)=some ((bW.map (Value.int .u64)).toArray).size):=sizeNum rfl;go_enter Tryz.func103,Tryz.ntmps103;go_wp2_with (first
  |(refine wpList_store_row rfl 143 (.tmp 1) (.tmp 2) rfl w.heap.size ((bW.map (Value.int .u64)).toArray) rfl rfl 143 _ HR.out HSZ.out rfl (all_oneCell_toArray (ints_oneCell _ _)) ?_)
  |fail)
 have R1:RowW ((w.alloc (.cells #[.int .u64 0,.int .u64 0,.int .u64 0,.int .u64 0] 143)).setRow w.heap.size (bW.map (Value.int .u64)).toArray) w.heap.size 143 bW:=HR.out.setRow bW;have B2:Below w.heap.size w ((w.alloc (.cells #[.int .u64 0,.int .u64 0,.int .u64 0,.int .u64 0] 143)).setRow w.heap.size (bW.map (Value.int .u64)).toArray):=(below_new2 _ _).trans ((Wr.setRow _ _ _).below (Nat.le_refl _));clear HR HSZ;generalize (w.alloc (.cells #[.int .u64 0,.int .u64 0,.int .u64 0,.int .u64 0] 143)).setRow w.heap.size (bW.map (Value.int .u64)).toArray=w2 at *;refine(text_any _ bW _ rfl R1 bW_wrd).mono ?_;rintro e w3 ⟨bs,hbl,hbb,hbv,rfl,O3,B3⟩;rw[bW_val] at hbv;have HP:Hid (CodePb w baseY (.returned (.slice (some ⟨w2.heap.size,0,none⟩) 32 32)) w3):=⟨_,bs,rfl,O3.lower3b B2.size,hbb,hbl,hbv,B2.trans (B3.mono B2.size)⟩
 clear hbv O3 B2 B3 R1;go_wp2
 go_ret
 exact HP.out
end Go.Proofs.YtjdhhgaelgemcaaGreatDoor
namespace Go.Proofs.YtjdhhgaelgemcaaGreatDoor
open Go.ChangeShapes Go.WideShapes Go.ChangeAt Go.RowKit Go.Joins
set_option linter.unusedVariables false
set_option maxHeartbeats 400000 in
theorem iok2_any (a:Option Addr) (n cap:Nat) (zs:List Int) (w:World) (hn:zs.length=n) (ha:At .u8 w a zs) (hz:Byte zs) :
  Calls Tryz.prog 101 #[.slice a n cap] w fun e w'=>e=.returned (.bool (decide (n=32∧val 256 zs<bigL)))∧Below w.heap.size w w':=by
 by_cases h:n=32
 ·subst h;go_enter Tryz.func101,Tryz.ntmps101;go_wp2_with fail;refine(rnum_any a 32 cap zs _ hn (by omega) ha hz).mono ?_;rintro e w1 ⟨ms,hml,hmw,hmv,rfl,B1⟩;have A1:=ha.below B1;go_wp2_with fail;refine(nof_any a 32 cap zs _ hn (by omega) (by omega) A1 hz).mono ?_;rintro e w2 ⟨ns,hnl,hnw,hnv,rfl,B2⟩;have HQ:Hid (decide (ms=ns)=decide (val 256 zs<bigL)):=by
   show decide (ms=ns)=decide (val 256 zs<bigL)
   rw[List.take_of_length_le (by omega)] at hnv;have z0:0≤val 256 zs:=val_nonneg (by decide) hz;by_cases hlt:val 256 zs<bigL
   ·have e:ms=ns:=val_inj (B:=18446744073709551616) (by decide) hmw hnw (by omega) (by rw[hmv,hnv,Int.emod_eq_of_lt z0 hlt]);simp[e,hlt]
   ·have e:¬ ms=ns:=fun h=>by
     rw[h,hnv] at hmv;have:=Int.emod_lt_of_pos (val 256 zs) (show 0<bigL by decide);omega
    simp[e,hlt]
  have s1:=B1.size;have HB:Hid (Below w.heap.size w w2):=B1.trans (B2.mono s1);clear hmv hnv B1 B2 A1 ha;go_wp2_with (simp only[run_eqW _ 9998 4 143 Tryz.underlying143 ms ns hml hnl]);rw[HQ.out];obtain⟨q,hq⟩:∃ q,q=decide (val 256 zs<bigL):=⟨_,rfl⟩
  rw[←hq];have HQQ:Hid (q=decide (val 256 zs<bigL)):=hq;clear hq HQ;simp only[Result.andThen_ok];go_simp;go_wp2
  go_ret
  exact⟨by rw[HQQ.out];simp,HB.out⟩
 ·have e:decide (n=32∧val 256 zs<bigL)=false:=by simp[h]
  rw[e];have h':((n:Int) == 32)=false:=by simp;omega
  go_enter Tryz.func101,Tryz.ntmps101;go_wp2
  go_ret
  exact⟨rfl,Below.refl _ _⟩
end Go.Proofs.YtjdhhgaelgemcaaGreatDoor
