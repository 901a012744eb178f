import Derived.Test.YtjdhhgaelgemcaaGreatDoorMApx
import Derived.Test.YtjdhhgaelgemcaaGreatDoorMSvE
import Derived.WalkKit
import Derived.ProofKit
import Derived.OpenShut
import Derived.ShutString
import Derived.ChangeOld
import Derived.Below
import Derived.Lib.SmallJoins
import Derived.Deep.SlicePairs
import Derived.Test.YtjdhhgaelgemcaaGreatDoorMReg
import Derived.Test.YtjdhhgaelgemcaaGreatDoorMOwnB
namespace Go.Proofs.YtjdhhgaelgemcaaGreatDoor
open Go.ChangeShapes Go.WideShapes Go.ChangeAt Go.RowKit
set_option linter.unusedVariables false
set_option maxHeartbeats 400000 in
theorem toT1_any (s nw:Int) (w:World):Calls Tryz.prog 44 #[.agg #[.int .i64 s,.int .i64 nw]] w fun e w'=>e=.returned (.agg #[.int .i64 s,.int .i64 nw])∧Below w.heap.size w w':=by
 have HB:Hid (Below w.heap.size w (((w.alloc (.cells #[.int .i64 s,.int .i64 nw] 85)).alloc (.cells #[.int .i64 s,.int .i64 nw] 77)).alloc (.cells #[.int .i64 s,.int .i64 nw] 77))):=(((Below.refl _ _).alloc (Nat.le_refl _) _).alloc (by simp) _).alloc (by simp;omega) _;have HR:Hid ((((w.alloc (.cells #[.int .i64 s,.int .i64 nw] 85)).alloc (.cells #[.int .i64 s,.int .i64 nw] 77)).alloc (.cells #[.int .i64 s,.int .i64 nw] 77)).heap[w.heap.size+1]?=some (.cells #[.int .i64 s,.int .i64 nw] 77 (0,0))):=by
  show _=_
  rw[Below.heap_alloc _ _ (w.heap.size+1) (by simp)];have:=heap_alloc_new (w.alloc (.cells #[.int .i64 s,.int .i64 nw] 85)) (.cells #[.int .i64 s,.int .i64 nw] 77)
  rwa [show(w.alloc (.cells #[.int .i64 s,.int .i64 nw] 85)).heap.size=w.heap.size+1 by simp] at this
 have HSZ:Hid ((Tryz.prog.info? 77).map (·.size)=some 2):=by show _=_;kernel_rfl
 go_enter Tryz.func44,Tryz.ntmps44;go_wp2;exact bodyPost_ret (v:=.agg #[.int .i64 s,.int .i64 nw]) (results_cell_row rfl _ _ (w.heap.size+1) 77 _ (0,0) _ rfl HR.out Tryz.underlying77 rfl HSZ.out) rfl ⟨rfl,HB.out⟩
structure TT (w wr:World) (g n:Nat) (T:List Int) (k:Nat):Prop where
 below:Below w.heap.size w wr
 blk:∃ cur:Array Value,wr.heap[g]?=some (.cells cur 77 (0,0))∧cur.size=n*2∧∀ i,i<k*2→cur[i]?=some (.int .i64 (T.getD i 0))
theorem TT.step {w wr w1:World} {g n:Nat} {T:List Int} {k:Nat} (h:TT w wr g n T k) (hk:k<n) (hg:w.heap.size≤g) (hb:Below wr.heap.size wr w1) :
  TT w ((w1.setCell ⟨g,k*2,none⟩ (.int .i64 (T.getD (k*2) 0))).setCell ⟨g,k*2+1,none⟩ (.int .i64 (T.getD (k*2+1) 0))) g n T (k+1):=by
 obtain⟨cur,h1,h2,h3⟩:=h.blk;have hgl:=(Array.getElem?_eq_some_iff.1 h1).1;have h1':w1.heap[g]?=some (.cells cur 77 (0,0)):=by rw[hb.block g hgl];exact h1
 have e1:=heap_setCell_same w1 g (k*2) _ _ (.int .i64 (T.getD (k*2) 0)) h1';have e2:=heap_setCell_same _ g (k*2+1) _ _ (.int .i64 (T.getD (k*2+1) 0)) e1;refine⟨((h.below.trans (hb.mono h.below.size)).setCell hg _).setCell hg _,⟨_,e2,by simp[h2],fun i hi=>?_⟩⟩;by_cases ea:i=k*2
 ·subst ea;rw[Array.getElem?_setIfInBounds_ne (by omega),Array.getElem?_setIfInBounds_self_of_lt (by omega)]
 ·by_cases eb:i=k*2+1
  ·subst eb;rw[Array.getElem?_setIfInBounds_self_of_lt (by simp;omega)]
  ·rw[Array.getElem?_setIfInBounds_ne (by omega),Array.getElem?_setIfInBounds_ne (by omega)];exact h3 i (by omega)
structure CE (w:World) (tb tr:TypeId) (sc zs vs:Array Value) (wr:World):Prop where
 below:Below w.heap.size w wr
 box:wr.heap[w.heap.size]?=some (.cells sc tb (0,0))
 res:wr.heap[w.heap.size+1]?=some (.cells zs tr (0,0))
 var:wr.heap[w.heap.size+1+1]?=some (.cells vs tr (0,0))
theorem CE.lt {w wr:World} {tb tr:TypeId} {sc zs vs:Array Value} (h:CE w tb tr sc zs vs wr):w.heap.size+1+1<wr.heap.size:=(Array.getElem?_eq_some_iff.1 h.var).1
theorem CE.call {w wr w':World} {tb tr:TypeId} {sc zs vs:Array Value} (h:CE w tb tr sc zs vs wr) (b:Below wr.heap.size wr w'):CE w tb tr sc zs vs w':=by
 have:=h.lt;exact⟨h.below.trans (b.mono h.below.size),by rw[b.block _ (by omega)];exact h.box,by rw[b.block _ (by omega)];exact h.res,by rw[b.block _ (by omega)];exact h.var⟩
theorem CE.put {w wr:World} {tb tr:TypeId} {sc zs vs:Array Value} (h:CE w tb tr sc zs vs wr) (i:Nat) (v:Value):CE w tb tr sc zs (vs.setIfInBounds i v) (wr.setCell ⟨w.heap.size+1+1,i,none⟩ v):=by
 have hw:Wr (w.heap.size+1+1) wr (wr.setCell ⟨w.heap.size+1+1,i,none⟩ v):=(Wr.refl _ _).setCell _ _;exact⟨h.below.trans (hw.below (by omega)),(hw.block _ (by omega)).trans h.box,(hw.block _ (by omega)).trans h.res,heap_setCell_same _ _ _ _ _ _ h.var⟩
theorem CE.start (w:World) (tb tr:TypeId) (sc zs vs:Array Value):CE w tb tr sc zs vs (((w.alloc (.cells sc tb)).alloc (.cells zs tr)).alloc (.cells vs tr)):=by
 refine⟨(((Below.refl _ _).alloc (Nat.le_refl _) _).alloc (by simp) _).alloc (by simp;omega) _,?_,?_,?_⟩
 ·rw[Below.heap_alloc _ _ w.heap.size (by simp;omega),Below.heap_alloc _ _ w.heap.size (by simp)];exact heap_alloc_new w _
 ·rw[Below.heap_alloc _ _ (w.heap.size+1) (by simp)];have:=heap_alloc_new (w.alloc (.cells sc tb)) (.cells zs tr)
  rwa [show(w.alloc (.cells sc tb)).heap.size=w.heap.size+1 by simp] at this
 ·have:=heap_alloc_new ((w.alloc (.cells sc tb)).alloc (.cells zs tr)) (.cells vs tr)
  rwa [show((w.alloc (.cells sc tb)).alloc (.cells zs tr)).heap.size=w.heap.size+1+1 by simp] at this
set_option maxHeartbeats 400000 in
theorem toIR_any (a:Option Addr) (n cap:Nat) (zs:List Int) (w:World) (hn:zs.length=n) (hm:n≤1048576) (ha:At .i64 w a zs) :
  Calls Tryz.prog 27 #[.slice a n cap] w fun e w'=>e=.returned (.slice (some ⟨w.heap.size,0,none⟩) n n)∧RowV w' w.heap.size 2 (iC zs)∧Below w.heap.size w w':=
 (toI_any a n cap zs w hn hm ha).mono (fun e w' ⟨h1,h2,h3⟩=>⟨h1,RowV.of_owns h2,h3⟩)
set_option maxHeartbeats 1000000 in
theorem toTR_any (a:Option Addr) (n cap:Nat) (T:List Int) (w:World) (hl:T.length=n*2) (hn:n≤1048576) (ha:At .i64 w a T) :
  Calls Tryz.prog 28 #[.slice a n cap] w fun e w'=>e=.returned (.slice (some ⟨w.heap.size,0,none⟩) n n)∧RowV w' w.heap.size 77 (iC T)∧Below w.heap.size w w':=by
 obtain⟨i0,hi,hz0,hz1,hz2⟩:=info_parts Tryz.infoTap;have HI:Hid (i0.bytes=16):=hz2;have HLT:Hid (T.length=n*2):=hl;have HA:Hid (At .i64 w a T):=ha;clear hz2 hl ha;go_enter Tryz.func28,Tryz.ntmps28;go_wp2_with (first
  |(at_make;refine wpList_make_full _ rfl _ _ 31 rfl w.heap.size 77 i0 (.agg #[.int .i64 0,.int .i64 0]) 2 Tryz.underlying31 hi hz0 hz1 _ _ _ _ n rfl rfl rfl rfl ?c1 ?c2 ?c3 ?_)
  |fail)
 case c1=>rw[HI.out];omega
 case c2=>unfold maxLen;omega
 case c3=>exact Nat.le_refl _
 intro w1 hown hgrow;have hb1:Below w.heap.size w w1:=(Below.refl _ _).grown hgrow (Nat.le_refl _) (by simp);have hst:TT w w1 w.heap.size n T 0:=by
  obtain⟨h1,⟨h2,_⟩|⟨g',cap,cur,hv,hb,hh,hc,hm,hs,ht⟩⟩:=hown
  ·cases h2
  ·cases hv;exact⟨hb1,⟨cur,hh,hs,fun i hi=>by omega⟩⟩
 have HST:Hid (TT w w1 w.heap.size n T 0):=hst;clear hown hgrow hb1 hst hi hz0 hz1;go_wp2
 go_loopw [4] (fun i wr=>∃ k:Nat,k≤n∧i=.int .i64 k∧TT w wr w.heap.size n T k) (fun i _=>n-(intOf i).toNat)
 case atStart=>exact⟨0,Nat.zero_le _,rfl,HST.out⟩
 case round=>
  clear HST;obtain⟨k,hk,rfl,st⟩:=hrel;by_cases hlt:k<n
  ·have hlt':(k:Int)<n:=by omega
   obtain⟨b,off,ea,hb,hc⟩:=(HA.out.below st.below).get (by have:=HLT.out;omega);have t0:=hc (k*2) (by have:=HLT.out;omega);have t1:=hc (k*2+1) (by have:=HLT.out;omega);rw[←Nat.add_assoc] at t1;subst ea;obtain⟨cur,c1,c2,c3⟩:=st.blk;have hgl:=(Array.getElem?_eq_some_iff.1 c1).1;have HC1:Hid (wr.heap[w.heap.size]?=some (.cells cur 77 (0,0))):=c1;have HSP:Hid (∀ w1,Below wr.heap.size wr w1→TT w ((w1.setCell ⟨w.heap.size,k*2,none⟩ (.int .i64 (T.getD (k*2) 0))).setCell ⟨w.heap.size,k*2+1,none⟩ (.int .i64 (T.getD (k*2+1) 0))) w.heap.size n T (k+1)):=fun w1 hb=>st.step hlt (Nat.le_refl _) hb
   clear hc hb c3 st c1;generalize T.getD (k*2) 0=s at *;generalize T.getD (k*2+1) 0=nw at *;go_wp2_with fail;refine(toT1_any s nw wr).mono ?_;rintro e w2 ⟨rfl,hb2⟩;have k1:w2.heap[w.heap.size]?=some (.cells cur 77 (0,0)):=by rw[hb2.block _ hgl];exact HC1.out
   have d0:w2.cell? ⟨w.heap.size,k*2,none⟩=some (cur[k*2]'(by omega)):=by rw[cell_of_row w2 _ _ _ _ _ k1];simp
   have d1:w2.cell? ⟨w.heap.size,k*2+1,none⟩=some (cur[k*2+1]'(by omega)):=by rw[cell_of_row w2 _ _ _ _ _ k1];simp
   have f0:=frozen_of_row w2 w.heap.size (k*2) _ _ k1;have f1:=frozen_of_row w2 w.heap.size (k*2+1) _ _ k1;generalize (cur[k*2]'(by omega))=o0 at *;generalize (cur[k*2+1]'(by omega))=o1 at *;have HEN:Hid (TT w ((w2.setCell ⟨w.heap.size,k*2,none⟩ (.int .i64 s)).setCell ⟨w.heap.size,k*2+1,none⟩ (.int .i64 nw)) w.heap.size n T (k+1)):=HSP.out w2 hb2;clear k1 hb2 t0 t1 HSP HC1;go_wp2;go_roundw
   case rel=>exact⟨k+1,by omega,by go_num,HEN.out⟩
   case measure=>simp[intOf];omega
  ·have hkn:k=n:=by omega
   have hlt':¬ ((k:Int)<n):=by omega
   have HM:Hid (RowV wr w.heap.size 77 (iC T)∧Below w.heap.size w wr):=by
    obtain⟨cur,c1,c2,c3⟩:=st.blk;refine⟨?_,st.below⟩;unfold RowV;rw[c1,row_full c2 HLT.out (fun i hi=>c3 i (by omega))]
   clear st;go_wp2
   go_ret
   exact⟨rfl,HM.out.1,HM.out.2⟩
theorem ownA:ownKnob Tryz.prog.godebug=none:=by kernel_rfl
theorem laidOutA:laidOutB Tryz.prog=true:=by kernel_rfl
def I64 (x:Int):Prop:=-9223372036854775808≤x∧x≤9223372036854775807
theorem I64.of_wf {x:Int} (h:(Lit.int .i64 x).wf=true):I64 x:=by
 simp[Lit.wf,IntKind.min,IntKind.max,IntKind.signed,IntKind.bits] at h;exact⟨by omega,by omega⟩
section
variable {H:Type} {enc:TypeId×Value→H} {W:World}
set_option maxRecDepth 100000 in
theorem ints_of {fuel:Nat} {v:Value} {y:DataW H×List MemPlace} (h:DataW.trod enc Tryz.prog W 0 (fun _=>true) true fuel 22 [v]=some y) :
  ∃ a n cap zs,v=.slice a n cap∧zs.length=n∧n≤9223372036854775807∧At .i64 W a zs:=by
 rcases open_ints Tryz.underlying22 Tryz.underlying2 (by kernel_rfl) h with⟨hcs,_⟩|⟨x,l,c,zs,hcs,_,hl,hm,hz,_,hcell,hwz⟩
 ·simp at hcs;exact⟨none,0,0,[],hcs,rfl,by omega,.inl rfl⟩
 ·simp at hcs;have hz':zs.length=c:=by simpa using hz
  refine⟨some x,l,c,zs.take l,hcs,by simp;omega,by unfold maxLen at hm;omega,?_⟩;by_cases h0:l=0
  ·left;simp[h0]
  ·right;obtain⟨b,off,spot⟩:=x;have hc0:=hcell 0 (by omega);have hs:spot=none:=by simpa[Addr.add] using World.cell?_spot hc0
   subst hs;refine⟨b,off,rfl,block_lt_of_cell (a:=(⟨b,off,none⟩:Addr).add 0) hc0,fun i hi=>?_⟩;have hi':i<l:=by simp at hi;omega
   have:=hcell i (by omega);rw[Addr.add_lit] at this;rw[this];simp[List.getD,hi']
set_option maxRecDepth 100000 in
theorem taps_of {fuel:Nat} {v:Value} {y:DataW H×List MemPlace} (h:DataW.trod enc Tryz.prog W 0 (fun _=>true) true fuel 23 [v]=some y) :
  ∃ a n cap T,v=.slice a n cap∧T.length=n*2∧n≤9223372036854775807∧At .i64 W a T:=by
 rcases Go.Deep.open_slice_pairs Tryz.underlying23 Tryz.underlying85 (by kernel_rfl) rfl rfl (by kernel_rfl) (by kernel_rfl) h with⟨hcs,_⟩|⟨x,l,c,m,nn,V0,V1,D0,D1,P0,P1,hcs,_,hl,hm,hmm,_,hx⟩
 ·simp at hcs;exact⟨none,0,0,[],hcs,rfl,by omega,.inl rfl⟩
 ·simp at hcs hmm;subst hmm;have each:∀ i,i<m→∃ q:Int×Int,V0 i=.int .i64 q.1∧V1 i=.int .i64 q.2:=by
   intro i hi;obtain⟨h1,h2,h3,h4⟩:=hx i hi;obtain⟨s,e1,_,hw⟩:=DataW.trod_int (k:=.i64) Tryz.underlying2 h3;obtain⟨s',e2,_,hw'⟩:=DataW.trod_int (k:=.i64) Tryz.underlying2 h4;simp at e1 e2;exact⟨(s,s'),e1,e2⟩
  obtain⟨q,hq⟩:=Go.Deep.choose_lt each;refine⟨some x,l,m,(List.range (l*2)).map fun i=>if i%2=0 then(q (i/2)).1 else(q (i/2)).2,hcs,by simp,by unfold maxLen at hm;omega,?_⟩;by_cases h0:l=0
  ·left;simp[h0]
  ·right;obtain⟨b,off,spot⟩:=x;have hc0:=(hx 0 (by omega)).1;have hs:spot=none:=by simpa[Addr.add] using World.cell?_spot hc0
   subst hs;refine⟨b,off,rfl,block_lt_of_cell (a:=(⟨b,off,none⟩:Addr).add (0*2)) hc0,fun i hi=>?_⟩;have hi':i<l*2:=by simpa using hi
   obtain⟨h1,h2,_,_⟩:=hx (i/2) (by omega);obtain⟨g1,g2⟩:=hq (i/2) (by omega);rw[Addr.add_lit] at h1 h2;have hg:((List.range (l*2)).map fun i=>if i%2=0 then(q (i/2)).1 else(q (i/2)).2).getD i 0=if i%2=0 then(q (i/2)).1 else(q (i/2)).2:=by simp[List.getD,hi']
   rw[hg];by_cases hp:i%2=0
   ·rw[if_pos hp,←g1,←h1];congr 2;omega
   ·rw[if_neg hp,←g2,←h2];congr 2;omega
def ArgState (W:World) (v0 v1 v2 v3:Value):Prop:=
 ∃(aD:Option Addr) (nD cD:Nat) (D:List Int) (aU:Option Addr) (nU cU:Nat) (U:List Int) (aT:Option Addr) (nT cT:Nat) (T:List Int) (k:Int),v0=.slice aD nD cD∧v1=.slice aU nU cU∧v2=.int .i64 k∧v3=.slice aT nT cT∧D.length=nD∧U.length=nU∧T.length=nT*2∧nD≤9223372036854775807∧nU≤9223372036854775807∧nT≤9223372036854775807∧At .i64 W aD D∧At .i64 W aU U∧At .i64 W aT T∧I64 k
set_option maxRecDepth 100000 in
theorem state_cells {fuel:Nat} {v0 v1 v2 v3:Value} {y:DataW H×List MemPlace} (h:DataW.trod enc Tryz.prog W 0 (fun _=>true) true fuel 25 [v0,v1,v2,v3]=some y):ArgState W v0 v1 v2 v3:=by
 have k1:Tryz.prog.cellsOf 22=1:=by kernel_rfl
 have k2:Tryz.prog.cellsOf 2=1:=by kernel_rfl
 have k3:Tryz.prog.cellsOf 23=1:=by kernel_rfl
 obtain⟨xs,n,_,_,_,hlen,hf⟩:=DataW.trod_struct Tryz.underlying25 h
 match xs,hlen with
 |[y0,y1,y2,y3],_=>
  have g0:=hf 0 _ rfl;have g1:=hf 1 _ rfl;have g2:=hf 2 _ rfl;have g3:=hf 3 _ rfl;simp[k1,k2,k3] at g0 g1 g2 g3;obtain⟨aD,nD,cD,D,e0,hD,mD,AD⟩:=ints_of g0;obtain⟨aU,nU,cU,U,e1,hU,mU,AU⟩:=ints_of g1;obtain⟨k,e2,_,Wk⟩:=DataW.trod_int (k:=.i64) Tryz.underlying2 g2;simp at e2;obtain⟨aT,nT,cT,T,e3,hT,mT,AT⟩:=taps_of g3;exact⟨aD,nD,cD,D,aU,nU,cU,U,aT,nT,cT,T,k,e0,e1,e2,e3,hD,hU,hT,mD,mU,mT,AD,AU,AT,I64.of_wf Wk⟩
set_option maxRecDepth 100000 in
theorem state_of {r:Reach} {b0:Nat} {v:Value} {d:DataW H} {p:List MemPlace} (hv:Value.okWide Tryz.prog W r b0 25 v) (h:DataW.Trod enc Tryz.prog W 0 (fun _=>true) true 25 v d p):∃ v0 v1 v2 v3,v=.agg #[v0,v1,v2,v3]∧ArgState W v0 v1 v2 v3:=by
 obtain⟨cs,rfl,hsz⟩:=okWide_struct Tryz.underlying25 hv;have hC:Tryz.prog.cellsOf 25=4:=by kernel_rfl
 obtain⟨fuel,hf⟩:=h
 match cs,hsz.trans hC with
 |⟨[v0,v1,v2,v3]⟩,_=>exact⟨v0,v1,v2,v3,rfl,state_cells hf⟩
end
section
variable {H:Type} {enc:TypeId×Value→H} {W:World}
set_option maxRecDepth 100000 in
theorem bytes_of {fuel:Nat} {v:Value} {y:DataW H×List MemPlace} (h:DataW.trod enc Tryz.prog W 0 (fun _=>true) true fuel 26 [v]=some y) :
  ∃ a n cap zs,v=.slice a n cap∧zs.length=n∧n≤9223372036854775807∧Byte zs∧At .u8 W a zs:=by
 rcases open_ints Tryz.underlying26 Tryz.underlying5 (by kernel_rfl) h with⟨hcs,_⟩|⟨x,l,c,zs,hcs,_,hl,hm,hz,_,hcell,hwz⟩
 ·simp at hcs;exact⟨none,0,0,[],hcs,rfl,by omega,by simp[Byte],.inl rfl⟩
 ·simp at hcs;have hz':zs.length=c:=by simpa using hz
  refine⟨some x,l,c,zs.take l,hcs,by simp;omega,by unfold maxLen at hm;omega,fun n hn=>?_,?_⟩
  ·have:=hwz n (List.mem_of_mem_take hn);simp[Lit.wf,IntKind.min,IntKind.max,IntKind.signed,IntKind.bits] at this;omega
  by_cases h0:l=0
  ·left;simp[h0]
  ·right;obtain⟨b,off,spot⟩:=x;have hc0:=hcell 0 (by omega);have hs:spot=none:=by simpa[Addr.add] using World.cell?_spot hc0
   subst hs;refine⟨b,off,rfl,block_lt_of_cell (a:=(⟨b,off,none⟩:Addr).add 0) hc0,fun i hi=>?_⟩;have hi':i<l:=by simp at hi;omega
   have:=hcell i (by omega);rw[Addr.add_lit] at this;rw[this];simp[List.getD,hi']
def ArgOp (W:World) (v0 v1 v2 v3:Value):Prop:=
 ∃(kind:Int) (a:Option Addr) (n c:Nat) (Y:List Int) (now N:Int),v0=.int .i64 kind∧v1=.slice a n c∧v2=.int .i64 now∧v3=.int .i64 N∧Y.length=n∧n≤9223372036854775807∧Byte Y∧At .u8 W a Y
set_option maxRecDepth 100000 in
theorem op_cells {fuel:Nat} {v0 v1 v2 v3:Value} {y:DataW H×List MemPlace} (h:DataW.trod enc Tryz.prog W 0 (fun _=>true) true fuel 28 [v0,v1,v2,v3]=some y):ArgOp W v0 v1 v2 v3:=by
 have k1:Tryz.prog.cellsOf 26=1:=by kernel_rfl
 have k2:Tryz.prog.cellsOf 2=1:=by kernel_rfl
 obtain⟨xs,n,_,_,_,hlen,hf⟩:=DataW.trod_struct Tryz.underlying28 h
 match xs,hlen with
 |[y0,y1,y2,y3],_=>
  have g0:=hf 0 _ rfl;have g1:=hf 1 _ rfl;have g2:=hf 2 _ rfl;have g3:=hf 3 _ rfl;simp[k1,k2] at g0 g1 g2 g3;obtain⟨kind,e0,_,_⟩:=DataW.trod_int (k:=.i64) Tryz.underlying2 g0;simp at e0;obtain⟨a,m,c,Y,e1,hY,mY,zY,AY⟩:=bytes_of g1;obtain⟨now,e2,_,_⟩:=DataW.trod_int (k:=.i64) Tryz.underlying2 g2;simp at e2;obtain⟨N,e3,_,_⟩:=DataW.trod_int (k:=.i64) Tryz.underlying2 g3;simp at e3;exact⟨kind,a,m,c,Y,now,N,e0,e1,e2,e3,hY,mY,zY,AY⟩
set_option maxRecDepth 100000 in
theorem op_of {r:Reach} {b0:Nat} {v:Value} {d:DataW H} {p:List MemPlace} (hv:Value.okWide Tryz.prog W r b0 28 v) (h:DataW.Trod enc Tryz.prog W 0 (fun _=>true) true 28 v d p):∃ v0 v1 v2 v3,v=.agg #[v0,v1,v2,v3]∧ArgOp W v0 v1 v2 v3:=by
 obtain⟨cs,rfl,hsz⟩:=okWide_struct Tryz.underlying28 hv;have hC:Tryz.prog.cellsOf 28=4:=by kernel_rfl
 obtain⟨fuel,hf⟩:=h
 match cs,hsz.trans hC with
 |⟨[v0,v1,v2,v3]⟩,_=>exact⟨v0,v1,v2,v3,rfl,op_cells hf⟩
end
section
variable {P:Program} {ops:Array Oper} {Q:Exit→Act→World→Prop} {md:Region.Mode}
theorem wpAny_slotsF (last:Nat) (M:Nat→World→World→Prop) (frame:(Nat→Value)→Act) (Ext:(Nat→Bool)→(Nat→Value)→World→Prop) (Good:Nat→(Nat→Bool)→World→Value→Prop) (Fin:(Nat→Value)→World→Prop)
  (hlast:ops.size=last+1)
  (hwait:((ops[last]?).map (fun o=>(List.range last).all (fun j=>o.after.any (fun e=>Region.binds md e && decide (e.on=j))))).getD false=true)
  (hstab:∀ j L w w' i v,i<last→M i w w'→i≠j→L i=false→Good j L w v→Good j (updK L i) w' v)
  (hback:(List.range ops.size).all (fun i=>((ops[i]?).map (fun o=>o.after.all (fun e=>decide (e.on<i)))).getD false)=true)
  (hop:∀(i:Nat) (o:Oper) (L:Nat→Bool) (u:Nat→Value) (w:World),i<last→ops[i]?=some o→L i=false→Ext L u w→(∀ e∈o.after,Region.binds md e=true→L e.on=true∧Good e.on L w (u e.on))→
   ∀ K:Act→World→Prop,(∀ w' v,Good i (updK L i) w' v→Ext (updK L i) (upd u i v) w'→M i w w'→K (frame (upd u i v)) w')→(if Region.wanted o (yielded ops (frame u).tmps)=true then Oper.wp P o (frame u) w K Q else K ((frame u).put o.dst undef) w))
  (hend:∀(o:Oper) (L:Nat→Bool) (u:Nat→Value) (w:World),ops[last]?=some o→Ext L u w→(∀ j,j<last→L j=true∧Good j L w (u j))→
   ∀ K:Act→World→Prop,(∀ w' v,Fin (upd u last v) w'→K (frame (upd u last v)) w')→(if Region.wanted o (yielded ops (frame u).tmps)=true then Oper.wp P o (frame u) w K Q else K ((frame u).put o.dst undef) w))
  (hdone:∀ u w,Fin u w→Q .normal (frame u) w) :
  ∀(fuel:Nat) (listed:Array Bool) (u:Nat→Value) (w:World),listed.size=ops.size→(∀ i,listed.getD i false=false)→Ext (fun n=>listed.getD n false) u w→
   (listed.toList.filter (!·)).length≤fuel→wpAny P md ops Q fuel listed (frame u) w:=by
 have hb:∀(i:Nat) (o:Oper),ops[i]?=some o→∀ e∈o.after,e.on<i:=fun i o ho e he=>by
  have hi:i<ops.size:=(Array.getElem?_eq_some_iff.1 ho).1;have:=List.all_eq_true.1 hback i (List.mem_range.2 hi);rw[ho] at this;simp at this;obtain⟨k,hk,rfl⟩:=Array.mem_iff_getElem.1 he;exact this k hk
 have hw:∀ o,ops[last]?=some o→∀ j,j<last→∃ e∈o.after,Region.binds md e=true∧e.on=j:=fun o ho j hj=>by
  rw[ho] at hwait;have h1:(List.range last).all (fun j=>o.after.any (fun e=>Region.binds md e && decide (e.on=j)))=true:=by simpa using hwait
  have h2:=List.all_eq_true.1 h1 j (List.mem_range.2 hj);obtain⟨e,he,h3⟩:=Array.any_eq_true'.1 h2;simp at h3;exact⟨e,he,h3⟩
 intro fuel listed u w hs hnone hext hc;refine wpAny_slotsU (fun i a b=>i=last∨(i<last∧M i a b)) frame (fun L u w=>(L last=false∧Ext L u w)∨(L last=true∧(∀ j,j<last→L j=true)∧Fin u w))
  (fun j L w v=>if j=last then L last=true else(L last=true∨Good j L w v)) ?_ hback ?_ ?_ fuel listed u w hs (.inl ⟨hnone last,hext⟩) (fun i _ hl=>by rw[hnone i] at hl;cases hl) hc
 ·intro j L w w' i v hM hij hLi h;have hu:∀ k,L k=true→updK L i k=true:=fun k hk=>by unfold updK;split<;>simp[hk]
  by_cases hj:j=last
  ·rw[if_pos hj] at h ⊢;exact hu _ h
  ·rw[if_neg hj] at h ⊢;rcases h with h|h
   ·exact .inl (hu _ h)
   ·rcases hM with hil|⟨hi',hM⟩
    ·left;unfold updK;rw[if_pos hil.symm]
    ·exact .inr (hstab j L w w' i v hi' hM hij hLi h)
 ·intro i o L u w ho hLi hx hdep K hK;have hi:i<last+1:=by rw[←hlast];exact(Array.getElem?_eq_some_iff.1 ho).1
  rcases hx with⟨hl,hx⟩|⟨hl,hall,_⟩
  ·by_cases hil:i=last
   ·subst hil;refine hend o L u w ho hx (fun j hj=>?_) K (fun w' v hf=>hK w' v ?_ ?_ (.inl rfl))
    ·obtain⟨e,he,hbd,rfl⟩:=hw o ho j hj;obtain⟨h1,h2⟩:=hdep e he hbd;rw[if_neg (by omega)] at h2;refine⟨h1,h2.resolve_left (by rw[hl];simp)⟩
    ·rw[if_pos rfl];unfold updK;simp
    ·refine .inr ⟨by unfold updK;simp,fun j hj=>?_,hf⟩;obtain⟨e,he,hbd,rfl⟩:=hw o ho j hj;have:=(hdep e he hbd).1;unfold updK;split<;>simp[this]
   ·have hi':i<last:=by omega
    refine hop i o L u w hi' ho hLi hx (fun e he hbd=>?_) K (fun w' v hg hext hm=>hK w' v ?_ ?_ (.inr ⟨hi',hm⟩))
    ·obtain⟨h1,h2⟩:=hdep e he hbd;have hlt:=hb i o ho e he;rw[if_neg (by omega)] at h2;exact⟨h1,h2.resolve_left (by rw[hl];simp)⟩
    ·rw[if_neg hil];exact .inr hg
    ·refine .inl ⟨?_,hext⟩;unfold updK;rw[if_neg (by omega)];exact hl
  ·exfalso
   by_cases hil:i=last
   ·subst hil;rw[hl] at hLi;cases hLi
   ·rw[hall i (by omega)] at hLi;cases hLi
 ·intro L u w hx hg;have h1:=hg last (by omega);rw[if_pos rfl] at h1;rcases hx with⟨hl,_⟩|⟨_,_,hf⟩
  ·rw[hl] at h1;cases h1
  ·exact hdone u w hf
end
def Value.adr:Value→Option Addr
 |.slice a _ _=>a
 |.pointer a=>a
 |_=>none
def Value.has (v:Value) (k:Nat):Prop:=(∃ a,Value.adr v=some a∧a.block=k)∨∃ cs,v=.agg cs∧∃ c,c∈cs.toList∧∃ a,Value.adr c=some a∧a.block=k
def FreshH (w w':World) (v:Value):Prop:=∀ k,Value.has v k→w.heap.size≤k∧k<w'.heap.size
def ApVH (x y:Value):Prop:=∀ k,Value.has x k→¬ Value.has y k
structure ApH (W:World) (ps:List Nat) (L:Nat→Bool) (u:Nat→Value) (w:World):Prop where
 below:Below W.heap.size W w
 blt:∀ p,p∈ps→L p=true→∀ k,Value.has (u p) k→k<w.heap.size
 ap:∀ p,p∈ps→∀ q,q∈ps→p≠q→L p=true→L q=true→ApVH (u p) (u q)
theorem ApH.start (W:World) (ps:List Nat) (L:Nat→Bool) (u:Nat→Value) (h:∀ i,L i=false) {w:World} (b:Below W.heap.size W w):ApH W ps L u w:=
 ⟨b,fun p _ hp=>(by rw[h] at hp;cases hp),fun p _ q _ _ hp=>(by rw[h] at hp;cases hp)⟩
theorem ApH.step {W:World} {ps:List Nat} {L:Nat→Bool} {u:Nat→Value} {w w':World} (h:ApH W ps L u w) (i:Nat) (v:Value) (b:Below w.heap.size w w') (hv:i∈ps→FreshH w w' v):ApH W ps (updK L i) (upd u i v) w':=by
 refine⟨h.below.trans (b.mono h.below.size),fun p hp hl=>?_,fun p hp q hq hne hlp hlq=>?_⟩
 ·by_cases e:p=i
  ·subst e;simp only[upd,if_true];exact fun k hk=>(hv hp k hk).2
  ·simp only[updK,if_neg e] at hl;simp only[upd,if_neg e];exact fun k hk=>Nat.lt_of_lt_of_le (h.blt p hp hl k hk) b.size
 ·by_cases e:p=i
  ·subst e;have e2:¬ q=p:=fun h=>hne h.symm
   simp only[updK,if_neg e2] at hlq;simp only[upd,if_true,if_neg e2];intro k hk hk';have h1:=(hv hp k hk).1;have h2:=h.blt q hq hlq k hk';omega
  ·by_cases e2:q=i
   ·subst e2;simp only[updK,if_neg e] at hlp;simp only[upd,if_true,if_neg e];intro k hk hk';have h1:=(hv hq k hk').1;have h2:=h.blt p hp hlp k hk;omega
   ·simp only[updK,if_neg e,if_neg e2] at hlp hlq;simp only[upd,if_neg e,if_neg e2];exact h.ap p hp q hq hne hlp hlq
theorem has_agg {cs:Array Value} {k:Nat}:Value.has (.agg cs) k↔∃ c,c∈cs.toList∧∃ a,Value.adr c=some a∧a.block=k:=by
 constructor
 ·rintro (⟨a,h,_⟩|⟨cs',h,h2⟩)
  ·cases h
  ·cases h;exact h2
 ·intro h;exact .inr ⟨_,rfl,h⟩
theorem has_ptr {g o:Nat} {k:Nat}:Value.has (.pointer (some ⟨g,o,none⟩)) k↔k=g:=by
 constructor
 ·rintro (⟨a,h,rfl⟩|⟨cs',h,h2⟩)
  ·cases h;rfl
  ·cases h
 ·rintro rfl;exact .inl ⟨_,rfl,rfl⟩
theorem flat_snoc (zss:List (List Int)) (k:Nat) (h:k<zss.length):(zss.take (k+1)).flatten=(zss.take k).flatten++zss.getD k []:=by
 rw[List.take_succ_eq_append_getElem h,List.flatten_append];simp[h]
theorem flat_le (zss:List (List Int)) (k:Nat):(zss.take k).flatten.length≤zss.flatten.length:=by
 conv=>rhs;rw[←List.take_append_drop k zss]
 rw[List.flatten_append,List.length_append];omega
end Go.Proofs.YtjdhhgaelgemcaaGreatDoor
