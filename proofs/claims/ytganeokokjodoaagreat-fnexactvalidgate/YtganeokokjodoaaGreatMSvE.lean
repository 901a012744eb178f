import Derived.Test.YtganeokokjodoaaGreatMReg5
namespace Go.Proofs.YtganeokokjodoaaGreat
open Go.ChangeShapes Go.WideShapes Go.ChangeAt Go.RowKit
set_option linter.unusedVariables false
set_option maxHeartbeats 400000 in
theorem toI_any (a:Option Addr) (n cap:Nat) (zs:List Int) (w:World) (hn:zs.length=n) (hm:n≤1048576) (ha:At .i64 w a zs) :
  Calls Tryz.prog 123 #[.slice a n cap] w fun e w'=>e=.returned (.slice (some ⟨w.heap.size,0,none⟩) n n)∧
   w'.ownsRow w.heap.size 2 1 (.slice (some ⟨w.heap.size,0,none⟩) n n) n (zs.map (Value.int .i64))∧Below w.heap.size w w':=by
 obtain⟨i0,hi,hz0,hz1,hz2⟩:=info_parts Tryz.infoI64
 have HI:Hid (i0.bytes=8):=hz2
 clear hz2
 go_enter Tryz.func123,Tryz.ntmps123
 go_wp2_with (first
  |(at_make;refine wpList_make_full _ rfl _ _ 28 rfl w.heap.size 2 i0 (.int .i64 0) 1 Tryz.underlying28 hi hz0 hz1 _ _ _ _ n rfl rfl rfl rfl ?c1 ?c2 ?c3 ?_)
  |fail)
 case c1=>rw[HI.out];omega
 case c2=>unfold maxLen;omega
 case c3=>exact Nat.le_refl _
 intro w1 hown hgrow
 have hb1:Below w.heap.size w w1:=(Below.refl _ _).grown hgrow (Nat.le_refl _) (by simp)
 have hown0:w1.ownsRow w.heap.size 2 1 (.slice (some ⟨w.heap.size,0,none⟩) n n) n ((cp zs 0).map (Value.int .i64)):=by
  have e:(madeCells #[Value.int IntKind.i64 0] n).toList=(cp zs 0).map (Value.int .i64):=by
   rw[cp_zero];simp only[toList_madeCells_one,List.map_replicate,hn]
  rw[←e];exact hown
 clear hown hgrow
 go_wp2
 go_loopw [4] (fun i wr=>∃ k:Nat,k≤n∧i=.int .i64 k∧wr.ownsRow w.heap.size 2 1 (.slice (some ⟨w.heap.size,0,none⟩) n n) n ((cp zs k).map (Value.int .i64))∧Below w.heap.size w wr) (fun i _=>n-(intOf i).toNat)
 case atStart=>exact⟨0,Nat.zero_le _,rfl,hown0,hb1⟩
 case round=>
  obtain⟨k,hk,rfl,hown,hbel⟩:=hrel;by_cases hlt:k<n
  ·obtain⟨b,off,rfl,hb,hc⟩:=ha.get (by omega);have hck:wr.cell? ⟨b,off+k,none⟩=some (.int .i64 (zs.getD k 0)):=by rw[hbel.cell (p:=⟨b,off+k,none⟩) hb];exact hc k (by omega)
   have hst:=hown.stored k (.int .i64 (zs.getD k 0));have hmem:wr.cell? ⟨w.heap.size,k,none⟩=some (.int .i64 ((cp zs k).getD k 0)):=by
    rw[hown.cellAt k (by omega)];have:=cp_len zs k (by omega);simp[show k<(cp zs k).length by omega]
   have hfz:=hown.frozenAt k;rw[←List.map_set,cp_succ zs k (by omega)] at hst;have HX:=hst.1;have HB:Below w.heap.size w (wr.setCell ⟨w.heap.size,k,none⟩ (.int .i64 (zs.getD k 0))):=hbel.setCell (Nat.le_refl _) _;clear hst hown hc ha hbel hown0 hb1;generalize zs.getD k 0=x at *;generalize (cp zs k).getD k 0=y at *;have HXX:Hid _:=HX;have HBB:Hid _:=HB;clear HX HB;go_wp2;go_roundw
   case rel=>exact⟨k+1,by omega,by go_num,HXX.out,HBB.out⟩
   case measure=>simp[intOf];omega
  ·have hkn:k=zs.length:=by omega
   have HO:Hid (wr.ownsRow w.heap.size 2 1 (.slice (some ⟨w.heap.size,0,none⟩) n n) n (zs.map (Value.int .i64))):=by rw[hkn,cp_all] at hown;exact hown
   clear hown;go_wp2
   go_ret
   exact⟨rfl,HO.out,hbel⟩
set_option maxHeartbeats 400000 in
theorem szI_any (a:Option Addr) (n cap:Nat) (left:Int) (w:World) (h0:0≤left) (h1:left≤1048576) (hn:n≤9223372036854775807) :
  Calls Tryz.prog 121 #[.slice a n cap,.int .i64 left] w fun e w'=>e=.returned (.int .i64 (szQ left n))∧w'=w:=by
 have HZ:Hid (szQ left n=if left<n then -1 else left-n):=rfl
 by_cases h:left<n
 ·have t:left-(n:Int)<0:=by omega
  go_enter Tryz.func121,Tryz.ntmps121;go_wp2
  go_ret
  exact⟨ret_int (by rw[HZ.out,if_pos h]),rfl⟩
 ·have t:¬ (left-(n:Int)<0):=by omega
  go_enter Tryz.func121,Tryz.ntmps121;go_wp2
  go_ret
  exact⟨ret_int (by rw[HZ.out,if_neg (by omega)]),rfl⟩
set_option maxHeartbeats 400000 in
theorem szT_any (a:Option Addr) (n cap:Nat) (left:Int) (w:World) (h0:0≤left) (h1:left≤1048576) (hn:n≤9223372036854775807) :
  Calls Tryz.prog 122 #[.slice a n cap,.int .i64 left] w fun e w'=>e=.returned (.int .i64 (szQ left n))∧w'=w:=by
 have HZ:Hid (szQ left n=if left<n then -1 else left-n):=rfl
 by_cases h:left<n
 ·have t:left-(n:Int)<0:=by omega
  go_enter Tryz.func122,Tryz.ntmps122;go_wp2
  go_ret
  exact⟨ret_int (by rw[HZ.out,if_pos h]),rfl⟩
 ·have t:¬ (left-(n:Int)<0):=by omega
  go_enter Tryz.func122,Tryz.ntmps122;go_wp2
  go_ret
  exact⟨ret_int (by rw[HZ.out,if_neg (by omega)]),rfl⟩
set_option maxHeartbeats 1000000 in
theorem szS_any (aD aU aT:Option Addr) (nD cD nU cU nT cT:Nat) (k:Int) (w:World) (mD:nD≤9223372036854775807) (mU:nU≤9223372036854775807) (mT:nT≤9223372036854775807) :
  Calls Tryz.prog 86 #[.agg #[.slice aD nD cD,.slice aU nU cU,.int .i64 k,.slice aT nT cT],.int .i64 1048576] w fun e w'=>e=.returned (.int .i64 (szQ 1048576 (nD+nU+nT)))∧Below w.heap.size w w':=by
 have HZ:Hid (∀ left n,szQ left n=if left<n then -1 else left-n):=fun _ _=>rfl
 have hb:=(Below.refl w.heap.size w).alloc (Nat.le_refl _) (.cells #[.slice aD nD cD,.slice aU nU cU,.int .i64 k,.slice aT nT cT] 51)
 have HB:Hid (Below w.heap.size w (w.alloc (.cells #[.slice aD nD cD,.slice aU nU cU,.int .i64 k,.slice aT nT cT] 51))):=hb
 clear hb
 by_cases h1:(1048576:Int)<nD
 ·have r1:szQ 1048576 nD=-1:=by rw[HZ.out,if_pos h1]
  have e0:szQ 1048576 (nD+nU+nT)=-1:=by rw[HZ.out,if_pos (by omega)]
  have HE:Hid (szQ 1048576 (nD+nU+nT)=-1):=e0;clear e0 h1;go_enter Tryz.func86,Tryz.ntmps86;go_wp2_with (first|(go_at_call 121;refine(szI_any _ _ _ _ _ (by decide) (by decide) mD).mono ?_;rintro e w1 ⟨rfl,rfl⟩;rw[r1])|fail)
  go_ret
  exact⟨ret_int HE.out.symm,HB.out⟩
 ·have r1:szQ 1048576 nD=1048576-nD:=by rw[HZ.out,if_neg h1]
  by_cases h2:(1048576:Int)-nD<nU
  ·have r2:szQ (1048576-nD) nU=-1:=by rw[HZ.out,if_pos h2]
   have HE:Hid (szQ 1048576 (nD+nU+nT)=-1):=by show _=_;rw[HZ.out,if_pos (by omega)]
   have HR:Hid (szQ 1048576 nD=1048576-nD∧szQ (1048576-nD) nU=-1):=⟨r1,r2⟩
   have g1:¬ ((1048576:Int)-nD<0):=by omega
   have p0:0≤(1048576:Int)-nD:=by omega
   have p1:(1048576:Int)-nD≤1048576:=by omega
   clear r1 r2 h1 h2;go_enter Tryz.func86,Tryz.ntmps86;go_wp2_with fail;refine(szI_any _ _ _ _ _ (by decide) (by decide) mD).mono ?_;rintro e w1 ⟨rfl,rfl⟩;rw[HR.out.1];go_wp2_with fail;refine(szI_any _ _ _ _ _ p0 p1 mU).mono ?_;rintro e w1 ⟨rfl,rfl⟩;rw[HR.out.2];go_wp2
   go_ret
   exact⟨ret_int HE.out.symm,HB.out⟩
  ·have r2:szQ (1048576-nD) nU=1048576-nD-nU:=by rw[HZ.out,if_neg h2]
   have HE:Hid (szQ (1048576-nD-nU) nT=szQ 1048576 (nD+nU+nT)):=by
    show _=_
    rw[HZ.out,HZ.out];by_cases h3:(1048576:Int)-nD-nU<nT
    ·rw[if_pos h3,if_pos (by omega)]
    ·rw[if_neg h3,if_neg (by omega)];omega
   have HR:Hid (szQ 1048576 nD=1048576-nD∧szQ (1048576-nD) nU=1048576-nD-nU):=⟨r1,r2⟩
   have g1:¬ ((1048576:Int)-nD<0):=by omega
   have g2:¬ ((1048576:Int)-nD-nU<0):=by omega
   have p0:0≤(1048576:Int)-nD:=by omega
   have p1:(1048576:Int)-nD≤1048576:=by omega
   have p2:0≤(1048576:Int)-nD-nU:=by omega
   have p3:(1048576:Int)-nD-nU≤1048576:=by omega
   clear r1 r2 h1 h2;go_enter Tryz.func86,Tryz.ntmps86;go_wp2_with fail;refine(szI_any _ _ _ _ _ (by decide) (by decide) mD).mono ?_;rintro e w1 ⟨rfl,rfl⟩;rw[HR.out.1];go_wp2_with fail;refine(szI_any _ _ _ _ _ p0 p1 mU).mono ?_;rintro e w1 ⟨rfl,rfl⟩;rw[HR.out.2];go_wp2_with fail;refine(szT_any _ _ _ _ _ p2 p3 mT).mono ?_;rintro e w1 ⟨rfl,rfl⟩;rw[HE.out];have HM:Hid (szQ 1048576 (nD+nU+nT)<0→szQ 1048576 (nD+nU+nT)=-1):=fun h=>by rw[HZ.out] at h ⊢;split at h<;>(try split)<;>omega
   by_cases h3:szQ 1048576 (nD+nU+nT)<0
   ·have e3:=HM.out h3;rw[e3];go_wp2
    go_ret
    exact⟨ret_int e3.symm,HB.out⟩
   ·clear HE HM;generalize hz:szQ 1048576 (nD+nU+nT)=z at *;have HZZ:Hid (szQ 1048576 (nD+nU+nT)=z):=hz;clear hz;go_wp2
    go_ret
    exact⟨ret_int HZZ.out.symm,HB.out⟩
end Go.Proofs.YtganeokokjodoaaGreat
namespace Go.Proofs.YtganeokokjodoaaGreat
open Go.ChangeShapes Go.WideShapes Go.ChangeAt Go.RowKit
set_option linter.unusedVariables false
set_option maxHeartbeats 400000 in
theorem toT1_any (s nw:Int) (w:World):Calls Tryz.prog 145 #[.agg #[.int .i64 s,.int .i64 nw]] w fun e w'=>e=.returned (.agg #[.int .i64 s,.int .i64 nw])∧Below w.heap.size w w':=by
 have HB:Hid (Below w.heap.size w (((w.alloc (.cells #[.int .i64 s,.int .i64 nw] 190)).alloc (.cells #[.int .i64 s,.int .i64 nw] 132)).alloc (.cells #[.int .i64 s,.int .i64 nw] 132))):=(((Below.refl _ _).alloc (Nat.le_refl _) _).alloc (by simp) _).alloc (by simp;omega) _
 have HR:Hid ((((w.alloc (.cells #[.int .i64 s,.int .i64 nw] 190)).alloc (.cells #[.int .i64 s,.int .i64 nw] 132)).alloc (.cells #[.int .i64 s,.int .i64 nw] 132)).heap[w.heap.size+1]?=some (.cells #[.int .i64 s,.int .i64 nw] 132 (0,0))):=by
  show _=_
  rw[Below.heap_alloc _ _ (w.heap.size+1) (by simp)];have:=heap_alloc_new (w.alloc (.cells #[.int .i64 s,.int .i64 nw] 190)) (.cells #[.int .i64 s,.int .i64 nw] 132)
  rwa [show(w.alloc (.cells #[.int .i64 s,.int .i64 nw] 190)).heap.size=w.heap.size+1 by simp] at this
 have HSZ:Hid ((Tryz.prog.info? 132).map (·.size)=some 2):=by show _=_;kernel_rfl
 go_enter Tryz.func145,Tryz.ntmps145
 go_wp2
 exact bodyPost_ret (v:=.agg #[.int .i64 s,.int .i64 nw]) (results_cell_row rfl _ _ (w.heap.size+1) 132 _ (0,0) _ rfl HR.out Tryz.underlying132 rfl HSZ.out) rfl ⟨rfl,HB.out⟩
structure TT (w wr:World) (g n:Nat) (T:List Int) (k:Nat):Prop where
 below:Below w.heap.size w wr
 blk:∃ cur:Array Value,wr.heap[g]?=some (.cells cur 132 (0,0))∧cur.size=n*2∧∀ i,i<k*2→cur[i]?=some (.int .i64 (T.getD i 0))
theorem TT.step {w wr w1:World} {g n:Nat} {T:List Int} {k:Nat} (h:TT w wr g n T k) (hk:k<n) (hg:w.heap.size≤g) (hb:Below wr.heap.size wr w1) :
  TT w ((w1.setCell ⟨g,k*2,none⟩ (.int .i64 (T.getD (k*2) 0))).setCell ⟨g,k*2+1,none⟩ (.int .i64 (T.getD (k*2+1) 0))) g n T (k+1):=by
 obtain⟨cur,h1,h2,h3⟩:=h.blk
 have hgl:=(Array.getElem?_eq_some_iff.1 h1).1
 have h1':w1.heap[g]?=some (.cells cur 132 (0,0)):=by rw[hb.block g hgl];exact h1
 have e1:=heap_setCell_same w1 g (k*2) _ _ (.int .i64 (T.getD (k*2) 0)) h1'
 have e2:=heap_setCell_same _ g (k*2+1) _ _ (.int .i64 (T.getD (k*2+1) 0)) e1
 refine⟨((h.below.trans (hb.mono h.below.size)).setCell hg _).setCell hg _,⟨_,e2,by simp[h2],fun i hi=>?_⟩⟩
 by_cases ea:i=k*2
 ·subst ea;rw[Array.getElem?_setIfInBounds_ne (by omega),Array.getElem?_setIfInBounds_self_of_lt (by omega)]
 ·by_cases eb:i=k*2+1
  ·subst eb;rw[Array.getElem?_setIfInBounds_self_of_lt (by simp;omega)]
  ·rw[Array.getElem?_setIfInBounds_ne (by omega),Array.getElem?_setIfInBounds_ne (by omega)];exact h3 i (by omega)
set_option maxHeartbeats 1000000 in
theorem toT_any (a:Option Addr) (n cap:Nat) (T:List Int) (w:World) (hl:T.length=n*2) (hn:n≤1048576) (ha:At .i64 w a T) :
  Calls Tryz.prog 125 #[.slice a n cap] w fun e w'=>e=.returned (.slice (some ⟨w.heap.size,0,none⟩) n n)∧At .i64 w' (some ⟨w.heap.size,0,none⟩) T∧Below w.heap.size w w':=by
 obtain⟨i0,hi,hz0,hz1,hz2⟩:=info_parts Tryz.infoTap
 have HI:Hid (i0.bytes=16):=hz2
 have HLT:Hid (T.length=n*2):=hl
 have HA:Hid (At .i64 w a T):=ha
 clear hz2 hl ha
 go_enter Tryz.func125,Tryz.ntmps125
 go_wp2_with (first
  |(at_make;refine wpList_make_full _ rfl _ _ 32 rfl w.heap.size 132 i0 (.agg #[.int .i64 0,.int .i64 0]) 2 Tryz.underlying32 hi hz0 hz1 _ _ _ _ n rfl rfl rfl rfl ?c1 ?c2 ?c3 ?_)
  |fail)
 case c1=>rw[HI.out];omega
 case c2=>unfold maxLen;omega
 case c3=>exact Nat.le_refl _
 intro w1 hown hgrow
 have hb1:Below w.heap.size w w1:=(Below.refl _ _).grown hgrow (Nat.le_refl _) (by simp)
 have hst:TT w w1 w.heap.size n T 0:=by
  obtain⟨h1,⟨h2,_⟩|⟨g',cap,cur,hv,hb,hh,hc,hm,hs,ht⟩⟩:=hown
  ·cases h2
  ·cases hv;exact⟨hb1,⟨cur,hh,hs,fun i hi=>by omega⟩⟩
 have HST:Hid (TT w w1 w.heap.size n T 0):=hst
 clear hown hgrow hb1 hst hi hz0 hz1
 go_wp2
 go_loopw [4] (fun i wr=>∃ k:Nat,k≤n∧i=.int .i64 k∧TT w wr w.heap.size n T k) (fun i _=>n-(intOf i).toNat)
 case atStart=>exact⟨0,Nat.zero_le _,rfl,HST.out⟩
 case round=>
  clear HST;obtain⟨k,hk,rfl,st⟩:=hrel;by_cases hlt:k<n
  ·have hlt':(k:Int)<n:=by omega
   obtain⟨b,off,ea,hb,hc⟩:=(HA.out.below st.below).get (by have:=HLT.out;omega);have t0:=hc (k*2) (by have:=HLT.out;omega);have t1:=hc (k*2+1) (by have:=HLT.out;omega);rw[←Nat.add_assoc] at t1;subst ea;obtain⟨cur,c1,c2,c3⟩:=st.blk;have hgl:=(Array.getElem?_eq_some_iff.1 c1).1;have HC1:Hid (wr.heap[w.heap.size]?=some (.cells cur 132 (0,0))):=c1;have HSP:Hid (∀ w1,Below wr.heap.size wr w1→TT w ((w1.setCell ⟨w.heap.size,k*2,none⟩ (.int .i64 (T.getD (k*2) 0))).setCell ⟨w.heap.size,k*2+1,none⟩ (.int .i64 (T.getD (k*2+1) 0))) w.heap.size n T (k+1)):=fun w1 hb=>st.step hlt (Nat.le_refl _) hb
   clear hc hb c3 st c1;generalize T.getD (k*2) 0=s at *;generalize T.getD (k*2+1) 0=nw at *;go_wp2_with fail;refine(toT1_any s nw wr).mono ?_;rintro e w2 ⟨rfl,hb2⟩;have k1:w2.heap[w.heap.size]?=some (.cells cur 132 (0,0)):=by rw[hb2.block _ hgl];exact HC1.out
   have d0:w2.cell? ⟨w.heap.size,k*2,none⟩=some (cur[k*2]'(by omega)):=by rw[cell_of_row w2 _ _ _ _ _ k1];simp
   have d1:w2.cell? ⟨w.heap.size,k*2+1,none⟩=some (cur[k*2+1]'(by omega)):=by rw[cell_of_row w2 _ _ _ _ _ k1];simp
   have f0:=frozen_of_row w2 w.heap.size (k*2) _ _ k1;have f1:=frozen_of_row w2 w.heap.size (k*2+1) _ _ k1;generalize (cur[k*2]'(by omega))=o0 at *;generalize (cur[k*2+1]'(by omega))=o1 at *;have HEN:Hid (TT w ((w2.setCell ⟨w.heap.size,k*2,none⟩ (.int .i64 s)).setCell ⟨w.heap.size,k*2+1,none⟩ (.int .i64 nw)) w.heap.size n T (k+1)):=HSP.out w2 hb2;clear k1 hb2 t0 t1 HSP HC1;go_wp2;go_roundw
   case rel=>exact⟨k+1,by omega,by go_num,HEN.out⟩
   case measure=>simp[intOf];omega
  ·have hkn:k=n:=by omega
   have hlt':¬ ((k:Int)<n):=by omega
   have HM:Hid (At .i64 wr (some ⟨w.heap.size,0,none⟩) T∧Below w.heap.size w wr):=by
    obtain⟨cur,c1,c2,c3⟩:=st.blk;refine⟨.inr ⟨w.heap.size,0,rfl,(Array.getElem?_eq_some_iff.1 c1).1,fun i hi=>?_⟩,st.below⟩;rw[cell_of_row wr _ _ _ _ _ c1,Nat.zero_add];exact c3 i (by have:=HLT.out;omega)
   clear st;go_wp2
   go_ret
   exact⟨rfl,HM.out.1,HM.out.2⟩
def ToS (w:World) (D U:List Int) (k:Int) (T:List Int) (nD nU nT:Nat) (e:Ending) (w':World):Prop:=
 ∃ gD gU gT,e=.returned (.agg #[.slice (some ⟨gD,0,none⟩) nD nD,.slice (some ⟨gU,0,none⟩) nU nU,.int .i64 k,.slice (some ⟨gT,0,none⟩) nT nT])∧At .i64 w' (some ⟨gD,0,none⟩) D∧At .i64 w' (some ⟨gU,0,none⟩) U∧At .i64 w' (some ⟨gT,0,none⟩) T∧Below w.heap.size w w'
end Go.Proofs.YtganeokokjodoaaGreat
