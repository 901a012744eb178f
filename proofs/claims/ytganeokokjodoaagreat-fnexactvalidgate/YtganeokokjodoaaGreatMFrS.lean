import Derived.Test.YtganeokokjodoaaGreatMRegU
import Derived.Test.YtganeokokjodoaaGreatMSvG
import Derived.Deep.Cut
import Derived.Test.YtganeokokjodoaaGreatDevTo
import Derived.Lib.SmallJoins
import Derived.Deep.SlicePairs
import Derived.Test.YtganeokokjodoaaGreatMDevEq
import Derived.Test.YtganeokokjodoaaGreatVgI
namespace Go.Proofs.YtganeokokjodoaaGreat
open Go.ChangeShapes Go.WideShapes Go.ChangeAt Go.RowKit
set_option linter.unusedVariables false
structure TF (w wr:World) (g n:Nat) (F:List Int) (k:Nat):Prop where
 below:Below w.heap.size w wr
 blk:∃ cur:Array Value,wr.heap[g]?=some (.cells cur 110 (0,0))∧cur.size=n*4∧∀ i,i<k*4→cur[i]?=some (.int (kF i) (F.getD i 0))
theorem TF.step {w wr w1:World} {g n:Nat} {F:List Int} {k:Nat} (h:TF w wr g n F k) (hk:k<n) (hg:w.heap.size≤g) (hb:Below wr.heap.size wr w1) :
  TF w (((((w1.setCell ⟨g,k*4,none⟩ (.int .u32 (F.getD (k*4) 0))).setCell ⟨g,k*4+1,none⟩ (.int .i64 (F.getD (k*4+1) 0))).setCell ⟨g,k*4+2,none⟩ (.int .u32 (F.getD (k*4+2) 0))).setCell ⟨g,k*4+3,none⟩ (.int .u32 (F.getD (k*4+3) 0)))) g n F (k+1):=by
 obtain⟨cur,h1,h2,h3⟩:=h.blk
 have hgl:=(Array.getElem?_eq_some_iff.1 h1).1
 have h1':w1.heap[g]?=some (.cells cur 110 (0,0)):=by rw[hb.block g hgl];exact h1
 have e1:=heap_setCell_same w1 g (k*4) _ _ (.int .u32 (F.getD (k*4) 0)) h1'
 have e2:=heap_setCell_same _ g (k*4+1) _ _ (.int .i64 (F.getD (k*4+1) 0)) e1
 have e3:=heap_setCell_same _ g (k*4+2) _ _ (.int .u32 (F.getD (k*4+2) 0)) e2
 have e4:=heap_setCell_same _ g (k*4+3) _ _ (.int .u32 (F.getD (k*4+3) 0)) e3
 refine⟨((((h.below.trans (hb.mono h.below.size)).setCell hg _).setCell hg _).setCell hg _).setCell hg _,⟨_,e4,by simp[h2],fun i hi=>?_⟩⟩
 by_cases ed:i=k*4+3
 ·subst ed;rw[Array.getElem?_setIfInBounds_self_of_lt (by simp;omega),kF3]
 rw[Array.getElem?_setIfInBounds_ne (by omega)]
 by_cases ec:i=k*4+2
 ·subst ec;rw[Array.getElem?_setIfInBounds_self_of_lt (by simp;omega),kF2]
 rw[Array.getElem?_setIfInBounds_ne (by omega)]
 by_cases eb:i=k*4+1
 ·subst eb;rw[Array.getElem?_setIfInBounds_self_of_lt (by simp;omega),kF1]
 rw[Array.getElem?_setIfInBounds_ne (by omega)]
 by_cases ea:i=k*4
 ·subst ea;rw[Array.getElem?_setIfInBounds_self_of_lt (by omega),kF0]
 rw[Array.getElem?_setIfInBounds_ne (by omega)]
 exact h3 i (by omega)
set_option maxRecDepth 100000 in
set_option maxHeartbeats 1000000 in
theorem toFR_any (a:Option Addr) (n cap:Nat) (F:List Int) (w:World) (hl:F.length=n*4) (hn:n≤1048576) (ha:FAt w a F) :
  Calls Tryz.prog 90 #[.slice a n cap] w fun e w'=>e=.returned (.slice (some ⟨w.heap.size,0,none⟩) n n)∧RowV w' w.heap.size 110 (fC F)∧Below w.heap.size w w':=by
 obtain⟨i0,hi,hz0,hz1,hz2⟩:=info_parts Tryz.infoFr
 have HI:Hid (i0.bytes=24):=hz2
 have HLT:Hid (F.length=n*4):=hl
 have HA:Hid (FAt w a F):=ha
 clear hz2 hl ha
 go_enter Tryz.func90,Tryz.ntmps90
 go_wp2_with (first
  |(at_make;refine wpList_make_full _ rfl _ _ 31 rfl w.heap.size 110 i0 (.agg #[.int .u32 0,.int .i64 0,.int .u32 0,.int .u32 0]) 4 Tryz.underlying31 hi hz0 hz1 _ _ _ _ n rfl rfl rfl rfl ?c1 ?c2 ?c3 ?_)
  |fail)
 case c1=>rw[HI.out];omega
 case c2=>unfold maxLen;omega
 case c3=>exact Nat.le_refl _
 intro w1 hown hgrow
 have hb1:Below w.heap.size w w1:=(Below.refl _ _).grown hgrow (Nat.le_refl _) (by simp)
 have hst:TF w w1 w.heap.size n F 0:=by
  obtain⟨h1,⟨h2,_⟩|⟨g',cap,cur,hv,hb,hh,hc,hm,hs,ht⟩⟩:=hown
  ·cases h2
  ·cases hv;exact⟨hb1,⟨cur,hh,hs,fun i hi=>by omega⟩⟩
 have HST:Hid (TF w w1 w.heap.size n F 0):=hst
 clear hown hgrow hb1 hst hi hz0 hz1
 go_wp2
 go_loopw [4] (fun i wr=>∃ k:Nat,k≤n∧i=.int .i64 k∧TF w wr w.heap.size n F k) (fun i _=>n-(intOf i).toNat)
 case atStart=>exact⟨0,Nat.zero_le _,rfl,HST.out⟩
 case round=>
  clear HST;obtain⟨k,hk,rfl,st⟩:=hrel;by_cases hlt:k<n
  ·have hlt':(k:Int)<n:=by omega
   obtain⟨b,off,ea,hb,hc⟩:=(HA.out.below st.below).get (by have:=HLT.out;omega);obtain⟨t0,t1,t2,t3⟩:=FAt.four hc k (by have:=HLT.out;omega);subst ea;obtain⟨cur,c1,c2,c3⟩:=st.blk;have hgl:=(Array.getElem?_eq_some_iff.1 c1).1;have HC1:Hid (wr.heap[w.heap.size]?=some (.cells cur 110 (0,0))):=c1;have HSP:Hid (∀ w1,Below wr.heap.size wr w1→TF w (((((w1.setCell ⟨w.heap.size,k*4,none⟩ (.int .u32 (F.getD (k*4) 0))).setCell ⟨w.heap.size,k*4+1,none⟩ (.int .i64 (F.getD (k*4+1) 0))).setCell ⟨w.heap.size,k*4+2,none⟩ (.int .u32 (F.getD (k*4+2) 0))).setCell ⟨w.heap.size,k*4+3,none⟩ (.int .u32 (F.getD (k*4+3) 0)))) w.heap.size n F (k+1)):=fun w1 hb=>st.step hlt (Nat.le_refl _) hb
   clear hc hb c3 st c1;generalize F.getD (k*4) 0=s at *;generalize F.getD (k*4+1) 0=m at *;generalize F.getD (k*4+2) 0=x at *;generalize F.getD (k*4+3) 0=y at *;go_wp2_with fail;refine(toFr_any s m x y wr).mono ?_;rintro e w2 ⟨rfl,hb2⟩;have k1:w2.heap[w.heap.size]?=some (.cells cur 110 (0,0)):=by rw[hb2.block _ hgl];exact HC1.out
   have d0:w2.cell? ⟨w.heap.size,k*4,none⟩=some (cur[k*4]'(by omega)):=by rw[cell_of_row w2 _ _ _ _ _ k1];simp
   have d1:w2.cell? ⟨w.heap.size,k*4+1,none⟩=some (cur[k*4+1]'(by omega)):=by rw[cell_of_row w2 _ _ _ _ _ k1];simp
   have d2:w2.cell? ⟨w.heap.size,k*4+2,none⟩=some (cur[k*4+2]'(by omega)):=by rw[cell_of_row w2 _ _ _ _ _ k1];simp
   have d3:w2.cell? ⟨w.heap.size,k*4+3,none⟩=some (cur[k*4+3]'(by omega)):=by rw[cell_of_row w2 _ _ _ _ _ k1];simp
   have f0:=frozen_of_row w2 w.heap.size (k*4) _ _ k1;have f1:=frozen_of_row w2 w.heap.size (k*4+1) _ _ k1;have f2:=frozen_of_row w2 w.heap.size (k*4+2) _ _ k1;have f3:=frozen_of_row w2 w.heap.size (k*4+3) _ _ k1;generalize (cur[k*4]'(by omega))=o0 at *;generalize (cur[k*4+1]'(by omega))=o1 at *;generalize (cur[k*4+2]'(by omega))=o2 at *;generalize (cur[k*4+3]'(by omega))=o3 at *;have HEN:Hid (TF w (((((w2.setCell ⟨w.heap.size,k*4,none⟩ (.int .u32 s)).setCell ⟨w.heap.size,k*4+1,none⟩ (.int .i64 m)).setCell ⟨w.heap.size,k*4+2,none⟩ (.int .u32 x)).setCell ⟨w.heap.size,k*4+3,none⟩ (.int .u32 y))) w.heap.size n F (k+1)):=HSP.out w2 hb2;clear k1 hb2 t0 t1 t2 t3 HSP HC1;go_wp2;go_roundw
   case rel=>exact⟨k+1,by omega,by go_num,HEN.out⟩
   case measure=>simp[intOf];omega
  ·have hkn:k=n:=by omega
   have hlt':¬ ((k:Int)<n):=by omega
   have HM:Hid (RowV wr w.heap.size 110 (fC F)∧Below w.heap.size w wr):=by
    obtain⟨cur,c1,c2,c3⟩:=st.blk;refine⟨?_,st.below⟩;unfold RowV;rw[c1,row_fullF c2 HLT.out (fun i hi=>c3 i (by omega))]
   clear st;go_wp2
   go_ret
   exact⟨rfl,HM.out.1,HM.out.2⟩
set_option maxHeartbeats 400000 in
theorem szF_any (a:Option Addr) (n cap:Nat) (left:Int) (w:World) (h0:0≤left) (h1:left≤1048576) (hn:n≤9223372036854775807) :
  Calls Tryz.prog 85 #[.slice a n cap,.int .i64 left] w fun e w'=>e=.returned (.int .i64 (szQ left n))∧w'=w:=by
 have HZ:Hid (szQ left n=if left<n then -1 else left-n):=rfl
 by_cases h:left<n
 ·have t:left-(n:Int)<0:=by omega
  go_enter Tryz.func85,Tryz.ntmps85;go_wp2
  go_ret
  exact⟨ret_int (by rw[HZ.out,if_pos h]),rfl⟩
 ·have t:¬ (left-(n:Int)<0):=by omega
  go_enter Tryz.func85,Tryz.ntmps85;go_wp2
  go_ret
  exact⟨ret_int (by rw[HZ.out,if_neg (by omega)]),rfl⟩
end Go.Proofs.YtganeokokjodoaaGreat
namespace Go.Proofs.YtganeokokjodoaaGreat
open Go.ChangeShapes Go.WideShapes Go.ChangeAt Go.RowKit
set_option linter.unusedVariables false
set_option maxRecDepth 100000 in
set_option maxHeartbeats 4000000 in
theorem szIm_any (asD asU aF azD azU azT:Option Addr) (nsD csD nsU csU nF cF nzD czD nzU czU nzT czT:Nat) (sgn stl zk nx:Int) (ok:Bool) (left:Int) (w:World) (h0:0≤left) (h1:left≤1048576) (msD:nsD≤9223372036854775807) (msU:nsU≤9223372036854775807) (mF:nF≤9223372036854775807) (mzD:nzD≤9223372036854775807) (mzU:nzU≤9223372036854775807) (mzT:nzT≤9223372036854775807) :
  Calls Tryz.prog 49 #[.agg #[.bool ok,.int .u32 sgn,.int .u32 stl,.slice asD nsD csD,.slice asU nsU csU,.slice aF nF cF,.slice azD nzD czD,.slice azU nzU czU,.int .i64 zk,.slice azT nzT czT,.int .u32 nx],.int .i64 left] w fun e w'=>e=.returned (.int .i64 (szQ left (nsD+nsU+nF+nzD+nzU+nzT)))∧Below w.heap.size w w':=by
 have HZ:Hid (∀ left n,szQ left n=if left<n then -1 else left-n):=fun _ _=>rfl
 have HE0:Hid (OE w 53 #[.bool ok,.int .u32 sgn,.int .u32 stl,.slice asD nsD csD,.slice asU nsU csU,.slice aF nF cF,.slice azD nzD czD,.slice azU nzU czU,.int .i64 zk,.slice azT nzT czT,.int .u32 nx] (w.alloc (.cells #[.bool ok,.int .u32 sgn,.int .u32 stl,.slice asD nsD csD,.slice asU nsU csU,.slice aF nF cF,.slice azD nzD czD,.slice azU nzU czU,.int .i64 zk,.slice azT nzT czT,.int .u32 nx] 53))):=OE.start _ _ _
 go_enter Tryz.func49,Tryz.ntmps49
 go_wp2_with fail
 generalize (w.alloc (.cells #[.bool ok,.int .u32 sgn,.int .u32 stl,.slice asD nsD csD,.slice asU nsU csU,.slice aF nF cF,.slice azD nzD czD,.slice azU nzU czU,.int .i64 zk,.slice azT nzT czT,.int .u32 nx] 53))=w0 at *
 refine(szSn_any asD asU nsD csD nsU csU sgn stl _ _ h0 h1 msD msU).mono ?_
 rintro e w1 ⟨rfl,hb⟩
 have HE1:Hid (OE w 53 #[.bool ok,.int .u32 sgn,.int .u32 stl,.slice asD nsD csD,.slice asU nsU csU,.slice aF nF cF,.slice azD nzD czD,.slice azU nzU czU,.int .i64 zk,.slice azT nzT czT,.int .u32 nx] w1):=HE0.out.call hb
 clear HE0 hb
 by_cases k0:left<((nsD+nsU:Nat):Int)
 ·have r:szQ (left) (nsD+nsU)=-1:=by rw[HZ.out,if_pos k0]
  have HR:Hid (szQ left (nsD+nsU+nF+nzD+nzU+nzT)=-1):=by show _=_;rw[HZ.out,if_pos (by omega)]
  have HF:Hid (Below w.heap.size w w1):=HE1.out.below;rw[r];clear r k0 HE1;go_wp2
  go_ret
  exact⟨ret_int HR.out.symm,HF.out⟩
 have r:szQ (left) (nsD+nsU)=left-((nsD+nsU:Nat):Int):=by rw[HZ.out,if_neg k0]
 rw[r]
 clear r
 have q0:¬ (left-((nsD+nsU:Nat):Int)<0):=by omega
 have z0:0≤left-((nsD+nsU:Nat):Int):=by omega
 have zz0:left-((nsD+nsU:Nat):Int)≤1048576:=by omega
 generalize el0:left-((nsD+nsU:Nat):Int)=l0 at *
 have HQ0:Hid (left-((nsD+nsU:Nat):Int)=l0):=el0
 clear el0
 have x5:w1.cell? ⟨w.heap.size,5,none⟩=some (.slice aF nF cF):=by rw[cell_of_row w1 w.heap.size 5 _ _ _ HE1.out.b0];rfl
 go_wp2_with fail
 clear x5 q0
 refine(szF_any _ _ _ _ _ z0 zz0 mF).mono ?_
 rintro e w2 ⟨rfl,rfl⟩
 have HE2:Hid (OE w 53 #[.bool ok,.int .u32 sgn,.int .u32 stl,.slice asD nsD csD,.slice asU nsU csU,.slice aF nF cF,.slice azD nzD czD,.slice azU nzU czU,.int .i64 zk,.slice azT nzT czT,.int .u32 nx] w2):=HE1.out
 clear HE1
 by_cases k1:l0<((nF:Nat):Int)
 ·have r:szQ (l0) (nF)=-1:=by rw[HZ.out,if_pos k1]
  have HR:Hid (szQ left (nsD+nsU+nF+nzD+nzU+nzT)=-1):=by show _=_;have:=HQ0.out;rw[HZ.out,if_pos (by omega)]
  have HF:Hid (Below w.heap.size w w2):=HE2.out.below;rw[r];clear r k1 HE2;go_wp2
  go_ret
  exact⟨ret_int HR.out.symm,HF.out⟩
 have r:szQ (l0) (nF)=l0-((nF:Nat):Int):=by rw[HZ.out,if_neg k1]
 rw[r]
 clear r
 have q1:¬ (l0-((nF:Nat):Int)<0):=by omega
 have z1:0≤l0-((nF:Nat):Int):=by omega
 have zz1:l0-((nF:Nat):Int)≤1048576:=by omega
 generalize el1:l0-((nF:Nat):Int)=l1 at *
 have HQ1:Hid (l0-((nF:Nat):Int)=l1):=el1
 clear el1
 have x6:w2.cell? ⟨w.heap.size,6,none⟩=some (.slice azD nzD czD):=by rw[cell_of_row w2 w.heap.size 6 _ _ _ HE2.out.b0];rfl
 have x7:w2.cell? ⟨w.heap.size,7,none⟩=some (.slice azU nzU czU):=by rw[cell_of_row w2 w.heap.size 7 _ _ _ HE2.out.b0];rfl
 have x8:w2.cell? ⟨w.heap.size,8,none⟩=some (.int .i64 zk):=by rw[cell_of_row w2 w.heap.size 8 _ _ _ HE2.out.b0];rfl
 have x9:w2.cell? ⟨w.heap.size,9,none⟩=some (.slice azT nzT czT):=by rw[cell_of_row w2 w.heap.size 9 _ _ _ HE2.out.b0];rfl
 go_wp2_with fail
 clear x6 x7 x8 x9 q1
 refine(szSt_any azD azU azT nzD czD nzU czU nzT czT zk _ _ z1 zz1 mzD mzU mzT).mono ?_
 rintro e w3 ⟨rfl,hb⟩
 have HE3:Hid (OE w 53 #[.bool ok,.int .u32 sgn,.int .u32 stl,.slice asD nsD csD,.slice asU nsU csU,.slice aF nF cF,.slice azD nzD czD,.slice azU nzU czU,.int .i64 zk,.slice azT nzT czT,.int .u32 nx] w3):=HE2.out.call hb
 clear HE2 hb
 by_cases k2:l1<((nzD+nzU+nzT:Nat):Int)
 ·have r:szQ (l1) (nzD+nzU+nzT)=-1:=by rw[HZ.out,if_pos k2]
  have HR:Hid (szQ left (nsD+nsU+nF+nzD+nzU+nzT)=-1):=by show _=_;have:=HQ0.out;have:=HQ1.out;rw[HZ.out,if_pos (by omega)]
  have HF:Hid (Below w.heap.size w w3):=HE3.out.below;rw[r];clear r k2 HE3;go_wp2
  go_ret
  exact⟨ret_int HR.out.symm,HF.out⟩
 have r:szQ (l1) (nzD+nzU+nzT)=l1-((nzD+nzU+nzT:Nat):Int):=by rw[HZ.out,if_neg k2]
 rw[r]
 clear r
 have q2:¬ (l1-((nzD+nzU+nzT:Nat):Int)<0):=by omega
 have z2:0≤l1-((nzD+nzU+nzT:Nat):Int):=by omega
 have zz2:l1-((nzD+nzU+nzT:Nat):Int)≤1048576:=by omega
 generalize el2:l1-((nzD+nzU+nzT:Nat):Int)=l2 at *
 have HQ2:Hid (l1-((nzD+nzU+nzT:Nat):Int)=l2):=el2
 clear el2
 have HR:Hid (szQ left (nsD+nsU+nF+nzD+nzU+nzT)=l2):=by show _=_;rw[HZ.out];have:=HQ0.out;have:=HQ1.out;have:=HQ2.out;rw[if_neg (by omega)];omega
 have HF:Hid (Below w.heap.size w w3):=HE3.out.below
 clear HE3
 go_wp2
 go_ret
 exact⟨ret_int HR.out.symm,HF.out⟩
end Go.Proofs.YtganeokokjodoaaGreat
namespace Go.Proofs.YtganeokokjodoaaGreat
open Go.ChangeShapes Go.WideShapes Go.ChangeAt Go.RowKit
set_option linter.unusedVariables false
def I64 (x:Int):Prop:=-9223372036854775808≤x∧x≤9223372036854775807
theorem I64.of_wf {x:Int} (h:(Lit.int .i64 x).wf=true):I64 x:=by
 simp[Lit.wf,IntKind.min,IntKind.max,IntKind.signed,IntKind.bits] at h
 exact⟨by omega,by omega⟩
section
variable {H:Type} {enc:TypeId×Value→H} {W:World}
set_option maxRecDepth 100000 in
theorem bytes_of {fuel:Nat} {v:Value} {y:DataW H×List MemPlace} (h:DataW.trod enc Tryz.prog W 0 (fun _=>true) true fuel 22 [v]=some y) :
  ∃ a n cap zs,v=.slice a n cap∧zs.length=n∧n≤9223372036854775807∧Byte zs∧At .u8 W a zs:=by
 rcases open_ints Tryz.underlying22 Tryz.underlying5 (by kernel_rfl) h with⟨hcs,_⟩|⟨x,l,c,zs,hcs,_,hl,hm,hz,_,hcell,hwz⟩
 ·simp at hcs;exact⟨none,0,0,[],hcs,rfl,by omega,by simp[Byte],.inl rfl⟩
 ·simp at hcs;have hz':zs.length=c:=by simpa using hz
  refine⟨some x,l,c,zs.take l,hcs,by simp;omega,by unfold maxLen at hm;omega,fun n hn=>?_,?_⟩
  ·have:=hwz n (List.mem_of_mem_take hn);simp[Lit.wf,IntKind.min,IntKind.max,IntKind.signed,IntKind.bits] at this;omega
  ·by_cases h0:l=0
   ·left;simp[h0]
   ·right;obtain⟨b,off,spot⟩:=x;have hc0:=hcell 0 (by omega);have hs:spot=none:=by simpa[Addr.add] using World.cell?_spot hc0
    subst hs;refine⟨b,off,rfl,block_lt_of_cell (a:=(⟨b,off,none⟩:Addr).add 0) hc0,fun i hi=>?_⟩;have hi':i<l:=by simp at hi;omega
    have:=hcell i (by omega);rw[Addr.add_lit] at this;rw[this];simp[List.getD,hi']
def PInt (ps:List PD):Prop:=∀ i,I64 (ps.getD i (0,[])).1∧Byte (ps.getD i (0,[])).2
set_option maxRecDepth 100000 in
theorem pends_of {fuel:Nat} {v:Value} {y:DataW H×List MemPlace} (h:DataW.trod enc Tryz.prog W 0 (fun _=>true) true fuel 23 [v]=some y) :
  ∃ a n cap ps,v=.slice a n cap∧ps.length=n∧n≤9223372036854775807∧PAt W a ps∧(∀ i,(ps.getD i (0,[])).2.length≤9223372036854775807)∧PInt ps:=by
 rcases Go.Deep.open_slice_pairs Tryz.underlying23 Tryz.underlying103 (by kernel_rfl) rfl rfl (by kernel_rfl) (by kernel_rfl) h with⟨hcs,_⟩|⟨x,l,c,m,nn,V0,V1,D0,D1,P0,P1,hcs,_,hl,hm,hmm,_,hx⟩
 ·simp at hcs;refine⟨none,0,0,[],hcs,rfl,by omega,.inl rfl,fun i=>by simp,fun i=>⟨⟨by simp,by simp⟩,by simp[Byte]⟩⟩
 ·simp at hcs hmm;subst hmm;have each:∀ i,i<m→∃ q:PD×Option Addr×Nat,V0 i=.int .i64 q.1.1∧V1 i=.slice q.2.1 q.1.2.length q.2.2∧At .u8 W q.2.1 q.1.2∧q.1.2.length≤9223372036854775807∧I64 q.1.1∧Byte q.1.2:=by
   intro i hi;obtain⟨h1,h2,h3,h4⟩:=hx i hi;obtain⟨s,e1,_,hw⟩:=DataW.trod_int (k:=.i64) Tryz.underlying2 h3;obtain⟨a,n,cap,zs,e2,hn,hn2,hb,ha⟩:=bytes_of h4;simp at e1;exact⟨((s,zs),a,cap),e1,by rw[e2,hn],ha,by show zs.length≤_;omega,I64.of_wf hw,hb⟩
  obtain⟨q,hq⟩:=Go.Deep.choose_lt each;have hget:∀ i,i<l→(((List.range l).map fun i=>(q i).1).getD i (0,[]))=(q i).1:=fun i hi=>by simp[List.getD,hi]
  have hout:∀ i,¬ i<l→(((List.range l).map fun i=>(q i).1).getD i (0,[]))=(0,[]):=fun i hi=>by
   rw[List.getD_eq_getElem?_getD,List.getElem?_eq_none (by simp;omega)];rfl
  refine⟨some x,l,m,(List.range l).map fun i=>(q i).1,hcs,by simp,by unfold maxLen at hm;omega,?_,fun i=>?_,fun i=>?_⟩
  ·by_cases h0:l=0
   ·left;simp[h0]
   ·right;obtain⟨b,off,spot⟩:=x;have hc0:=(hx 0 (by omega)).1;have hs:spot=none:=by simpa[Addr.add] using World.cell?_spot hc0
    subst hs;refine⟨b,off,rfl,block_lt_of_cell (a:=(⟨b,off,none⟩:Addr).add (0*2)) hc0,fun i hi=>?_⟩;have hi':i<l:=by simpa using hi
    obtain⟨h1,h2,_,_⟩:=hx i (by omega);obtain⟨g1,g2,g3,_,_,_⟩:=hq i (by omega);rw[Addr.add_lit] at h1 h2;rw[hget i hi'];exact⟨(q i).2.1,(q i).2.2,by rw[h1,g1],by rw[Nat.add_assoc,h2,g2],g3⟩
  ·by_cases hi:i<l
   ·rw[hget i hi];exact(hq i (by omega)).2.2.2.1
   ·rw[hout i hi];simp
  ·by_cases hi:i<l
   ·rw[hget i hi];exact(hq i (by omega)).2.2.2.2
   ·rw[hout i hi];exact⟨⟨by simp,by simp⟩,by simp[Byte]⟩
def ArgD (W:World) (v:Value):Prop:=
 ∃(a:Option Addr) (n cap:Nat) (a':Option Addr) (n' cap':Nat) (zs:List Int) (ps:List PD) (f:Int) (d:Bool),v=.agg #[.slice a n cap,.slice a' n' cap',.int .i64 f,.bool d]∧zs.length=n∧ps.length=n'∧
  n≤9223372036854775807∧n'≤9223372036854775807∧At .u8 W a zs∧PAt W a' ps∧(∀ i,(ps.getD i (0,[])).2.length≤9223372036854775807)∧Byte zs∧PInt ps∧I64 f
set_option maxRecDepth 100000 in
theorem dev_of {r:Reach} {b0:Nat} {v:Value} {d:DataW H} {p:List MemPlace} (hv:Value.okWide Tryz.prog W r b0 25 v) (h:DataW.Trod enc Tryz.prog W 0 (fun _=>true) true 25 v d p):ArgD W v:=by
 obtain⟨v0,v1,v2,v3,y0,y1,y2,y3,n,rfl,_,_,h0,h1,h2,h3⟩:=Go.Joins.open_agg4 Tryz.underlying25 (by kernel_rfl) (by kernel_rfl) hv h
 obtain⟨a,n,cap,zs,rfl,hn,hn2,hb,ha⟩:=bytes_of h0
 obtain⟨a',n',cap',ps,rfl,hn',hn2',ha',hps,hpi⟩:=pends_of h1
 obtain⟨f,e2,_,hf⟩:=DataW.trod_int (k:=.i64) Tryz.underlying2 h2
 obtain⟨b,e3,_⟩:=DataW.trod_bool Tryz.underlying4 h3
 simp at e2 e3
 subst e2 e3
 exact⟨a,n,cap,a',n',cap',zs,ps,f,b,rfl,hn,hn',hn2,hn2',ha,ha',hps,hb,hpi,I64.of_wf hf⟩
end
end Go.Proofs.YtganeokokjodoaaGreat
namespace Go.Proofs.YtganeokokjodoaaGreat
open Go.ChangeShapes Go.WideShapes Go.ChangeAt Go.RowKit
set_option linter.unusedVariables false
structure LV (w w':World) (C:Array Value):Prop where
 below:Below w.heap.size w w'
 box:w'.heap[w.heap.size]?=some (.cells C 25 (0,0))
theorem LV.grow {w w' w'':World} {C:Array Value} (h:LV w w' C) (hb:Below w'.heap.size w' w''):LV w w'' C:=
 ⟨h.below.trans (hb.mono h.below.size),by rw[hb.block _ (Array.getElem?_eq_some_iff.1 h.box).1];exact h.box⟩
theorem LV.cells {w w':World} {a0 a1 a2 a3:Value} (h:LV w w' #[a0,a1,a2,a3]) :
  w'.cell? ⟨w.heap.size,0,none⟩=some a0∧w'.cell? ⟨w.heap.size,1,none⟩=some a1∧w'.cell? ⟨w.heap.size,2,none⟩=some a2∧w'.cell? ⟨w.heap.size,3,none⟩=some a3:=
 ⟨cell_of_row _ _ _ _ _ _ h.box,cell_of_row _ _ _ _ _ _ h.box,cell_of_row _ _ _ _ _ _ h.box,cell_of_row _ _ _ _ _ _ h.box⟩
theorem row4 {w:World} {g:Nat} {t:TypeId} {a0 a1 a2 a3:Value} (h:w.heap[g]?=some (.cells #[a0,a1,a2,a3] t (0,0))) :
  w.cell? ⟨g,0,none⟩=some a0∧w.cell? ⟨g,1,none⟩=some a1∧w.cell? ⟨g,2,none⟩=some a2∧w.cell? ⟨g,3,none⟩=some a3:=
 ⟨cell_of_row _ _ _ _ _ _ h,cell_of_row _ _ _ _ _ _ h,cell_of_row _ _ _ _ _ _ h,cell_of_row _ _ _ _ _ _ h⟩
def G10 (zs:List Int) (ps:List PD) (f:Int) (d:Bool) (x arg:Value):Nat→World→Value→Prop
 |0,_,v=>v=x
 |1,_,v=>v=arg
 |2,w,v=>DAt w v zs ps f d
 |3,_,v=>v=.bool true
 |_,_,v=>v=.bool false
theorem DAt.mono {w w':World} {v:Value} {zs:List Int} {ps:List PD} {f:Int} {d:Bool} (h:DAt w v zs ps f d) (hm:Mono w w'):DAt w' v zs ps f d:=by
 obtain⟨da,dc,ca,cc,hv,h1,h2,h3⟩:=h
 have kAt:∀ {x:Option Addr} {zs:List Int},At .u8 w x zs→At .u8 w' x zs:=fun {x zs} h=>by
  rcases h with h|⟨b,off,rfl,hl,hc⟩
  ·exact .inl h
  ·exact .inr ⟨b,off,rfl,by have:=hm.size;omega,fun i hi=>by rw[hm.cell ⟨b,off+i,none⟩ hl];exact hc i hi⟩
 refine⟨da,dc,ca,cc,hv,kAt h1,?_,h3⟩
 rcases h2 with h|⟨b,off,rfl,hl,hc⟩
 ·exact .inl h
 ·exact .inr ⟨b,off,rfl,by have:=hm.size;omega,fun i hi=>by
   obtain⟨x,c,p1,p2,p3⟩:=hc i hi;exact⟨x,c,by rw[hm.cell ⟨b,off+i*2,none⟩ hl];exact p1,by rw[hm.cell ⟨b,off+i*2+1,none⟩ hl];exact p2,kAt p3⟩⟩
theorem G10_mono (zs:List Int) (ps:List PD) (f:Int) (d:Bool) (x arg:Value) (i:Nat) (w w':World) (v:Value) (hm:Mono w w') (h:G10 zs ps f d x arg i w v):G10 zs ps f d x arg i w' v:=by
 unfold G10 at *
 split at h<;>first|exact h|exact DAt.mono h hm
end Go.Proofs.YtganeokokjodoaaGreat
namespace Go.Proofs.YtganeokokjodoaaGreat
open Go.ChangeShapes Go.WideShapes Go.ChangeAt Go.RowKit
set_option linter.unusedVariables false
set_option maxRecDepth 100000 in
set_option maxHeartbeats 4000000 in
theorem szG_any (a x:Option Addr) (n c m cx:Nat) (f:Int) (d:Bool) (ps:List PD) (ka:Option Addr) (kn kc:Nat) (ok:Bool) (gn tl k nx:Int) (aF aSD aSU aD aU aT:Option Addr) (nF cF nSD cSD nSU cSU nD cD nU cU nT cT:Nat) (w:World) (hm:ps.length=m) (hn:n≤9223372036854775807) (hn':m≤9223372036854775807) (hx:PAt w x ps) (hps:∀ i,(ps.getD i (0,[])).2.length≤9223372036854775807) (hk:kn≤9223372036854775807) (b1:nF≤9223372036854775807) (b2:nSD≤9223372036854775807) (b3:nSU≤9223372036854775807) (b4:nD≤9223372036854775807) (b5:nU≤9223372036854775807) (b6:nT≤9223372036854775807) :
  Calls Tryz.prog 14 #[.agg #[.slice a n c,.slice x m cx,.int .i64 f,.bool d,.slice ka kn kc,.bool ok,.int .u32 gn,.int .u32 tl,.slice aSD nSD cSD,.slice aSU nSU cSU,.slice aF nF cF,.slice aD nD cD,.slice aU nU cU,.int .i64 k,.slice aT nT cT,.int .u32 nx],.int .i64 1048576] w fun e w'=>∃ q:Int,e=.returned (.int .i64 q)∧Below w.heap.size w w'∧(¬ q<0→n+(m+pSum ps)+kn+(nSD+nSU+nF+nD+nU+nT)≤1048576):=by
 have HZ:Hid (∀ left n,szR left n=if left<n then -1 else left-n):=fun _ _=>rfl
 have HY:Hid (∀ left n,szQ left n=if left<n then -1 else left-n):=fun _ _=>rfl
 have HE0:Hid (OE w 55 #[.slice a n c,.slice x m cx,.int .i64 f,.bool d,.slice ka kn kc,.bool ok,.int .u32 gn,.int .u32 tl,.slice aSD nSD cSD,.slice aSU nSU cSU,.slice aF nF cF,.slice aD nD cD,.slice aU nU cU,.int .i64 k,.slice aT nT cT,.int .u32 nx] (w.alloc (.cells #[.slice a n c,.slice x m cx,.int .i64 f,.bool d,.slice ka kn kc,.bool ok,.int .u32 gn,.int .u32 tl,.slice aSD nSD cSD,.slice aSU nSU cSU,.slice aF nF cF,.slice aD nD cD,.slice aU nU cU,.int .i64 k,.slice aT nT cT,.int .u32 nx] 55))):=OE.start _ _ _
 have HPX:=hid_ofV (And.intro hx hps)
 clear hx hps
 go_enter Tryz.func14,Tryz.ntmps14
 go_upto_region 1 with fail
 generalize (w.alloc (.cells #[.slice a n c,.slice x m cx,.int .i64 f,.bool d,.slice ka kn kc,.bool ok,.int .u32 gn,.int .u32 tl,.slice aSD nSD cSD,.slice aSU nSU cSU,.slice aF nF cF,.slice aD nD cD,.slice aU nU cU,.int .i64 k,.slice aT nT cT,.int .u32 nx] 55))=w0 at *
 have v0:=cell_of_row w0 w.heap.size 0 _ _ _ HE0.out.b0
 have v1:=cell_of_row w0 w.heap.size 1 _ _ _ HE0.out.b0
 have v2:=cell_of_row w0 w.heap.size 2 _ _ _ HE0.out.b0
 have v3:=cell_of_row w0 w.heap.size 3 _ _ _ HE0.out.b0
 simp at v0 v1 v2 v3
 go_wp2_with fail
 refine(szD_any a n c x m cx ps f d 1048576 w0 hm (by decide) (by decide) hn hn' (HPX.out.1.below HE0.out.below) HPX.out.2).mono ?_
 rintro e w1 ⟨rfl,b⟩
 have HE1:=hid_ofV (HE0.out.call b)
 clear v0 v1 v2 v3 HE0 b
 by_cases hbig:(1048576:Int)<((n+(m+pSum ps):Nat):Int)
 ·have hr:szR 1048576 (n+(m+pSum ps))=-1:=by rw[HZ.out,if_pos hbig]
  rw[hr];clear hr;go_wp2
  go_ret
  exact⟨-1,rfl,HE1.out.below,fun h=>by omega⟩
 have hr:szR 1048576 (n+(m+pSum ps))=1048576-((n+(m+pSum ps):Nat):Int):=by rw[HZ.out,if_neg hbig]
 rw[hr]
 have q0:¬ (1048576-((n+(m+pSum ps):Nat):Int)<0):=by omega
 have q1:1048576-((n+(m+pSum ps):Nat):Int)≤1048576:=by omega
 have HL1:Hid (((n+(m+pSum ps):Nat):Int)=1048576-(1048576-((n+(m+pSum ps):Nat):Int))):=by show _=_;omega
 generalize 1048576-((n+(m+pSum ps):Nat):Int)=l1 at *
 clear hr hbig
 have v4:=cell_of_row w1 w.heap.size 4 _ _ _ HE1.out.b0
 simp at v4
 go_wp2_with fail
 refine(szB_any ka kn kc l1 w1 (by omega) q1 hk).mono ?_
 rintro e w2 ⟨rfl,h2⟩
 obtain rfl:w1=w2:=h2.symm
 by_cases hbig:l1<(kn:Int)
 ·have hr:szR l1 kn=-1:=by rw[HZ.out,if_pos hbig]
  rw[hr];clear hr;go_wp2
  go_ret
  exact⟨-1,rfl,HE1.out.below,fun h=>by omega⟩
 have hr:szR l1 kn=l1-(kn:Int):=by rw[HZ.out,if_neg hbig]
 rw[hr]
 have q2:¬ (l1-(kn:Int)<0):=by omega
 have q3:l1-(kn:Int)≤1048576:=by omega
 have HL2:Hid ((kn:Int)=l1-(l1-(kn:Int))):=by show _=_;omega
 generalize l1-(kn:Int)=l2 at *
 clear hr hbig v4
 have v5:=cell_of_row w1 w.heap.size 5 _ _ _ HE1.out.b0
 have v6:=cell_of_row w1 w.heap.size 6 _ _ _ HE1.out.b0
 have v7:=cell_of_row w1 w.heap.size 7 _ _ _ HE1.out.b0
 have v8:=cell_of_row w1 w.heap.size 8 _ _ _ HE1.out.b0
 have v9:=cell_of_row w1 w.heap.size 9 _ _ _ HE1.out.b0
 have v10:=cell_of_row w1 w.heap.size 10 _ _ _ HE1.out.b0
 have v11:=cell_of_row w1 w.heap.size 11 _ _ _ HE1.out.b0
 have v12:=cell_of_row w1 w.heap.size 12 _ _ _ HE1.out.b0
 have v13:=cell_of_row w1 w.heap.size 13 _ _ _ HE1.out.b0
 have v14:=cell_of_row w1 w.heap.size 14 _ _ _ HE1.out.b0
 have v15:=cell_of_row w1 w.heap.size 15 _ _ _ HE1.out.b0
 simp at v5 v6 v7 v8 v9 v10 v11 v12 v13 v14 v15
 go_wp2_with fail
 refine(szIm_any aSD aSU aF aD aU aT nSD cSD nSU cSU nF cF nD cD nU cU nT cT gn tl k nx ok l2 w1 (by omega) q3 b2 b3 b1 b4 b5 b6).mono ?_
 rintro e w3 ⟨rfl,bb⟩
 have HB3:=hid_ofV (HE1.out.below.trans (bb.mono HE1.out.below.size))
 clear v5 v6 v7 v8 v9 v10 v11 v12 v13 v14 v15 bb HE1
 by_cases hbig:l2<((nSD+nSU+nF+nD+nU+nT:Nat):Int)
 ·have hr:szQ l2 (nSD+nSU+nF+nD+nU+nT)=-1:=by rw[HY.out,if_pos hbig]
  rw[hr];clear hr;go_wp2
  go_ret
  exact⟨-1,rfl,HB3.out,fun h=>by omega⟩
 have hr:szQ l2 (nSD+nSU+nF+nD+nU+nT)=l2-((nSD+nSU+nF+nD+nU+nT:Nat):Int):=by rw[HY.out,if_neg hbig]
 rw[hr]
 have q4:¬ (l2-((nSD+nSU+nF+nD+nU+nT:Nat):Int)<0):=by omega
 have HFin:Hid (n+(m+pSum ps)+kn+(nSD+nSU+nF+nD+nU+nT)≤1048576):=by
  have h1:=HL1.out;have h2:=HL2.out;show _≤_
  omega
 generalize l2-((nSD+nSU+nF+nD+nU+nT:Nat):Int)=l3 at *
 clear hr hbig
 go_wp2
 go_ret
 exact⟨l3,rfl,HB3.out,fun _=>HFin.out⟩
end Go.Proofs.YtganeokokjodoaaGreat
