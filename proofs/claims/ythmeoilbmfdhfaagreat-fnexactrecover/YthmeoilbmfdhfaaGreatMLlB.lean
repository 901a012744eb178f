import Derived.Test.YthmeoilbmfdhfaaGreatMEqSn
import Derived.Test.YthmeoilbmfdhfaaGreatMMkF
import Derived.Test.YthmeoilbmfdhfaaGreatMRowB
import Derived.Test.YthmeoilbmfdhfaaGreatMBase
import Derived.Test.YthmeoilbmfdhfaaGreatMCatF
import Derived.Deep.WholeRow
import Derived.Test.YthmeoilbmfdhfaaGreatMReg
import Derived.Test.YthmeoilbmfdhfaaGreatMDevRd
import Derived.Test.YthmeoilbmfdhfaaGreatMSnV
import Derived.Test.YthmeoilbmfdhfaaGreatMSEnc
namespace Go.Proofs.YthmeoilbmfdhfaaGreat
open Go.ChangeShapes Go.WideShapes Go.ChangeAt Go.RowKit
set_option linter.unusedVariables false
theorem FO.open_ {B:Nat} {w:World} {a:Option Addr} {n c:Nat} {F:List Int} (h:FO B w (.slice a n c) F n):Open w a (n*4):=by
 rcases h.2 with⟨h',h0⟩|⟨g,cap,cur,h',hb,hh,hc,hm,hs,ht⟩
 ·subst h0;exact .inl (Nat.zero_mul _)
 ·cases h';have hlt:=(Array.getElem?_eq_some_iff.1 hh).1;refine .inr ⟨g,0,rfl,hlt,fun i hi=>?_⟩;rw[Nat.zero_add];refine⟨?_,frozen_of_row _ _ _ _ _ hh⟩;rw[cell_of_row w g i _ _ _ hh];have:i<cur.size:=by have:=Nat.mul_le_mul_right 4 hc;omega
  simp[this]
theorem ImV.six2 {lo:Nat} {w:World} {v:Value} {r:ImR} (h:ImV lo w v r):∃ aSD nSD cSD aSU nSU cSU aF mF cF aD nD cD aU nU cU aT cT b1 b2,
  v=.agg #[.bool r.ok,.int .u32 r.g,.int .u32 r.t,.slice aSD nSD cSD,.slice aSU nSU cSU,.slice aF mF cF,.slice aD nD cD,.slice aU nU cU,.int .i64 r.k,.slice aT r.n cT,.int .u32 r.nx]∧
  I6 lo b1 b2 w aSD aSU aF aD aU aT nSD nSU mF nD nU r.n∧I6L w aSD aSU aF aD aU aT nSD nSU mF nD nU r∧mF≤cF:=by
 obtain⟨aSD,nSD,cSD,aSU,nSU,cSU,vF,m,aD,nD,cD,aU,nU,cU,aT,cT,b1,b2,rfl,s1,l1,l2,f1,l3,s2,h1,h2⟩:=h;have fl:=f1.len;obtain⟨aF,cF,rfl,fA,fc,fL⟩:=f1.form;refine⟨aSD,nSD,cSD,aSU,nSU,cSU,aF,m,cF,aD,nD,cD,aU,nU,cU,aT,cT,b1,b2,rfl,⟨s1.d.open_ s1.nd,s1.u.open_ s1.nu,f1.open_,s2.d.open_ s2.nd,s2.u.open_ s2.nu,s2.t.open_ s2.nt,s1.ld,s1.lu,fun ad e=>⟨Nat.le_trans h1 (fL ad e).1,(fL ad e).2⟩,fun ad e=>⟨by have:=s2.ld ad e;omega,(s2.ld ad e).2⟩,fun ad e=>⟨by have:=s2.lu ad e;omega,(s2.lu ad e).2⟩,fun ad e=>⟨by have:=s2.lt ad e;omega,(s2.lt ad e).2⟩,s1.du,s2.du,s2.dt,s2.ut,fun ad e=>?_,fun ad e=>?_⟩,⟨s1.d.at_,s1.u.at_,fA,s2.d.at_,s2.u.at_,s2.t.at_,s1.nd,s1.nu,fl,s2.nd,s2.nu,s2.nt⟩,fc⟩
 ·have q:ad.block<b1:=by rcases e with e|e;exact l1 ad e;exact l2 ad e
  exact⟨fun x hx=>by have:=(fL x hx).1;omega,fun x hx=>by have:=s2.ld x hx;omega,fun x hx=>by have:=s2.lu x hx;omega,fun x hx=>by have:=s2.lt x hx;omega⟩
 ·have q:ad.block<b2:=l3 _ (by subst e;rfl);exact⟨fun x hx=>by have:=s2.ld x hx;omega,fun x hx=>by have:=s2.lu x hx;omega,fun x hx=>by have:=s2.lt x hx;omega⟩
theorem ImV.six {lo:Nat} {w:World} {v:Value} {r:ImR} (h:ImV lo w v r):∃ aSD nSD cSD aSU nSU cSU aF mF cF aD nD cD aU nU cU aT cT b1 b2,
  v=.agg #[.bool r.ok,.int .u32 r.g,.int .u32 r.t,.slice aSD nSD cSD,.slice aSU nSU cSU,.slice aF mF cF,.slice aD nD cD,.slice aU nU cU,.int .i64 r.k,.slice aT r.n cT,.int .u32 r.nx]∧
  I6 lo b1 b2 w aSD aSU aF aD aU aT nSD nSU mF nD nU r.n∧I6L w aSD aSU aF aD aU aT nSD nSU mF nD nU r:=by
 obtain⟨aSD,nSD,cSD,aSU,nSU,cSU,aF,mF,cF,aD,nD,cD,aU,nU,cU,aT,cT,b1,b2,h1,h2,h3,_⟩:=h.six2;exact⟨aSD,nSD,cSD,aSU,nSU,cSU,aF,mF,cF,aD,nD,cD,aU,nU,cU,aT,cT,b1,b2,h1,h2,h3⟩
def imC (r:ImR) (aSD aSU aF aD aU aT:Option Addr) (nSD cSD nSU cSU mF cF nD cD nU cU cT:Nat):Array Value:=#[.bool r.ok,.int .u32 r.g,.int .u32 r.t,.slice aSD nSD cSD,.slice aSU nSU cSU,.slice aF mF cF,.slice aD nD cD,.slice aU nU cU,.int .i64 r.k,.slice aT r.n cT,.int .u32 r.nx]
def ImLe (r:ImR):Prop:=r.sD.length≤16∧r.sU.length≤256∧r.F.length≤1008∧r.D.length≤16∧r.U.length≤256∧r.n≤256
def IG (lo hi:Nat) (w:World) (C:Array Value) (r:ImR):Prop:=∃ aSD aSU aF aD aU aT nSD cSD nSU cSU mF cF nD cD nU cU cT b1 b2,C=imC r aSD aSU aF aD aU aT nSD cSD nSU cSU mF cF nD cD nU cU cT∧I6 lo b1 b2 w aSD aSU aF aD aU aT nSD nSU mF nD nU r.n∧I6L w aSD aSU aF aD aU aT nSD nSU mF nD nU r∧(∀ j,hi≤j→NotIn j aSD∧NotIn j aSU∧NotIn j aF∧NotIn j aD∧NotIn j aU∧NotIn j aT)
theorem wpList_wanted {ops:Array Oper} {rest:List Oper} {o:Oper} {a:Act} {w:World} {Q:Exit→Act→World→Prop} (hw:Region.wanted o (yielded ops a.tmps)=true)
  (h:∀ K:Act→World→Prop,(∀ a w,wpList Tryz.prog ops Q rest a w→K a w)→o.wp Tryz.prog a w K Q):wpList Tryz.prog ops Q (o::rest) a w:=
 wpList_step fun K hK=>by rw[if_pos hw];exact h K hK
structure QT (w4:World) (G lo:Nat) (C:Array Value) (r:ImR) (w:World):Prop where
 bel:Below w4.heap.size w4 w
 g:w.heap[G]?=some (.cells C 36 (0,0))
 im:IG lo G w C r
set_option maxHeartbeats 400000 in
theorem heldB_any (a:Option Addr) (n cap:Nat) (k:Int) (w:World) (ha:At .u8 w a (marks k n)) (hk:0≤k) (hk':k+n≤1099511627776) :
  Calls Tryz.prog 112 #[.slice a n cap,.int .i64 k] w fun e w'=>e=.returned (.int .i64 (k+n))∧w'=w:=by
 go_enter Tryz.func112,Tryz.ntmps112;go_wp2
 go_loop [1,5] (fun q i=>∃ j:Nat,j≤n∧i=.int .i64 j∧q=.int .i64 (k+j)) (fun _ i=>n-(intOf i).toNat)
 case atStart=>exact⟨0,Nat.zero_le _,rfl,by simp⟩
 case round=>
  obtain⟨j,hj,rfl,rfl⟩:=hrel;by_cases hlt:j<n
  ·obtain⟨b,off,rfl,hb,hc⟩:=ha.get (by rw[marks_len];omega);have hcj:=hc j (by rw[marks_len];omega);rw[marks_get k n j hlt] at hcj;have hne:((k+(j:Int))%256 != (k+(j:Int))%256)=false:=by simp
   clear hc ha;go_wp2
   go_round
   case rel=>exact⟨j+1,by omega,by go_num,by go_num⟩
   case measure=>simp[intOf];omega
  ·have hjn:j=n:=by omega
   subst hjn;go_wp2
   go_ret
   exact⟨rfl,rfl⟩
def Mine (B:Nat) (w:World) (a:Option Addr) (zs:List Int):Prop:=At .u8 w a zs∧Open w a zs.length∧∀ ad,a=some ad→B≤ad.block∧ad.block<w.heap.size
def overL (zs:List Int) (s:Nat) (z:List Int):List Int:=zs.take (s*64)++(z++zs.drop (s*64+z.length))
theorem overL_len (zs:List Int) (s:Nat) (z:List Int) (h:s*64+z.length≤zs.length):(overL zs s z).length=zs.length:=by simp[overL];omega
set_option maxHeartbeats 1000000 in
theorem overS_any (b off n cap:Nat) (s:Nat) (b' off' m cap':Nat) (zs z:List Int) (w:World) (hn:zs.length=n) (hm:z.length=m) (hn2:n≤1048576) (hcap:n≤cap) (hs:s*64+m≤n) (hA:At .u8 w (some ⟨b,off,none⟩) zs) (hz:At .u8 w (some ⟨b',off',none⟩) z) :
  Calls Tryz.prog 104 #[.slice (some ⟨b,off,none⟩) n cap,.int .i64 s,.slice (some ⟨b',off',none⟩) m cap'] w fun e w'=>∃ v,e=.returned v∧Own w' w.heap.size v (overL zs s z)∧Below w.heap.size w w':=by
 have HA:Hid _:=hA;have HZ:Hid _:=hz;have HN:Hid _:=hn;have HM:Hid _:=hm;clear hA hz hn hm;have t1:(s:Int)*64≤cap:=by omega
 go_enter Tryz.func104,Tryz.ntmps104;have hL1:(zs.take (s*64)).length=s*64:=by have:=HN.out;simp;omega
 have hN1:∀ j,j<s*64→(w.alloc (.cells #[] 5)).cell? ((⟨b,off,none⟩:Addr).add j)=some (.int .u8 ((zs.take (s*64)).getD j 0)):=by
  intro j hj;have hn:=HN.out;obtain⟨b1,o1,e1,hb1,hc1⟩:=At.get HA.out (by omega);cases e1;rw[Addr.add_lit,((Below.refl w.heap.size w).alloc (Nat.le_refl _) _).cell (p:=⟨b,off+j,none⟩) hb1,hc1 j (by omega)];simp[List.getD,hj]
 have HL1:Hid _:=hL1;have HN1:Hid _:=hN1;clear hL1 hN1;go_wp2_with (at_builtin;refine wpList_app _ rfl _ _ rfl w.heap.size _ _ rfl (Own.empty w w.heap.size (Nat.le_refl _)) ⟨b,off,none⟩ (s*64) _ (zs.take (s*64)) rfl HL1.out HN1.out ?c2 ?c3 ?_)
 (try(case c2=>first|omega|(simp;omega)))
 (try(case c3=>first|omega|(simp;try omega)))
 intro v1 w1 ho1 hb1 _;have hB1:Below w.heap.size w w1:=((Below.refl _ _).alloc (Nat.le_refl _) _).trans hb1;have ho1':Own w1 w.heap.size v1 (zs.take (s*64)):=by simpa using ho1
 have hs1:=hB1.size;have HO1:Hid _:=ho1';have HB1:Hid _:=hB1;have hN2:∀ j,j<m→w1.cell? ((⟨b',off',none⟩:Addr).add j)=some (.int .u8 (z.getD j 0)):=by
  intro j hj;have hm:=HM.out;obtain⟨b2,o2,e2,hb2,hc2⟩:=At.get HZ.out (by omega);cases e2;rw[Addr.add_lit,hB1.cell (p:=⟨b',off'+j,none⟩) hb2];exact hc2 j (by omega)
 have HN2:Hid _:=hN2;clear hN2 ho1 ho1' hb1 hB1;have hll:(zs.take (s*64)).length+m≤1099511627776:=by have:=HL1.out;omega
 go_wp2_with (at_builtin;refine wpList_app _ rfl _ _ rfl w.heap.size _ _ rfl HO1.out ⟨b',off',none⟩ m cap' z rfl HM.out HN2.out ?d2 ?d3 ?_)
 (try(case d2=>first|omega|(simp;omega)))
 (try(case d3=>first|omega|(simp;try omega)))
 intro v2 w2 ho2 hb2 _;have hB2:Below w.heap.size w w2:=HB1.out.trans hb2;have hs2:=hB2.size;have hl2:(zs.take (s*64)++z).length=s*64+m:=by have:=HN.out;have:=HM.out;simp;omega
 have HO2:Hid _:=ho2;have HB2:Hid _:=hB2;have HL2:Hid _:=hl2;have hfin:∀ v3 w3,Own w3 w.heap.size v3 (zs.take (s*64)++(z++zs.drop (s*64+m)))→Own w3 w.heap.size v3 (overL zs s z):=fun v3 w3 h=>by
  have e:overL zs s z=zs.take (s*64)++(z++zs.drop (s*64+m)):=by unfold overL;rw[HM.out]
  rw[e];exact h
 have HFIN:Hid _:=hfin;have hL3:(zs.drop (s*64+m)).length=n-(s*64+m):=by have:=HN.out;simp;omega
 have HL3:Hid _:=hL3;have t2:(s:Int)*64+m≤n:=by omega
 have t3:(n:Int)≤cap:=by omega
 clear ho2 hb2 hB2 hl2 hfin hL3 HN2 HO1 HB1 hll;by_cases hcl:cap=s*64+m
 ·have hn0:n-(s*64+m)=0:=by omega
  have hN3:∀ j,j<n-(s*64+m)→w2.cell? ((⟨b,off,none⟩:Addr).add j)=some (.int .u8 ((zs.drop (s*64+m)).getD j 0)):=fun j hj=>by omega
  have HN3:Hid _:=hN3;have HN0:Hid _:=hn0;clear hN3 hn0;go_wp2_with (at_builtin;refine wpList_app _ rfl _ _ rfl w.heap.size _ _ rfl HO2.out ⟨b,off,none⟩ (n-(s*64+m)) _ (zs.drop (s*64+m)) rfl HL3.out HN3.out ?e2 ?e3 ?_)
  (try(case e2=>have:=HL2.out;first|omega|(simp;omega)))
  (try(case e3=>first|omega|(simp;try omega)))
  intro v3 w3 ho3 hb3 _;have HO3:Hid _:=HFIN.out v3 w3 ho3;have HB3:Hid _:=HB2.out.trans hb3;clear ho3 hb3;go_wp2
  go_ret
  exact⟨_,rfl,HO3.out,HB3.out⟩
 ·have hN3:∀ j,j<n-(s*64+m)→w2.cell? ((⟨b,off+(s*64+m),none⟩:Addr).add j)=some (.int .u8 ((zs.drop (s*64+m)).getD j 0)):=fun j hj=>by
   have hn:=HN.out;obtain⟨b1,o1,e1,hb1,hc1⟩:=At.get HA.out (by omega);cases e1;rw[Addr.add_lit,Nat.add_assoc,HB2.out.cell (p:=⟨b,off+(s*64+m+j),none⟩) hb1,hc1 (s*64+m+j) (by omega)];simp[List.getD]
  have HN3:Hid _:=hN3;clear hN3;go_wp2_with (at_builtin;refine wpList_app _ rfl _ _ rfl w.heap.size _ _ rfl HO2.out ⟨b,off+(s*64+m),none⟩ (n-(s*64+m)) _ (zs.drop (s*64+m)) rfl HL3.out HN3.out ?e2 ?e3 ?_)
  (try(case e2=>have:=HL2.out;first|omega|(simp;omega)))
  (try(case e3=>first|omega|(simp;try omega)))
  intro v3 w3 ho3 hb3 _;have HO3:Hid _:=HFIN.out v3 w3 ho3;have HB3:Hid _:=HB2.out.trans hb3;clear ho3 hb3;go_wp2
  go_ret
  exact⟨_,rfl,HO3.out,HB3.out⟩
def OwnN (w:World) (B:Nat) (v:Value) (zs:List Int):Prop:=(v=.slice none 0 0∧zs=[])∨Own w B v zs
theorem run_nilSlice (w:World) (a:Option Addr) (n c:Nat):(binOp .eql 22 (.slice a n c) (.slice none 0 0)).run Tryz.prog w=.ok (.bool a.isNone) w:=by
 have h:∀ d,(Op.equalIn (d+1) 22 (.slice a n c) (.slice none 0 0)).run Tryz.prog w=.ok a.isNone w:=fun d=>by
  cases a<;>simp[Op.equalIn,run_underlying Tryz.underlying22]
 have h':(Op.equal 22 (.slice a n c) (.slice none 0 0)).run Tryz.prog w=.ok a.isNone w:=h 9999;simp only[binOp];simp[h']
set_option maxHeartbeats 400000 in
set_option maxRecDepth 100000 in
theorem clone_any (a:Option Addr) (n cap:Nat) (zs:List Int) (w:World) (hn:zs.length=n) (hm:n≤1048576) (ha:At .u8 w a zs) (hnil:a=none→n=0∧cap=0) :
  Calls Tryz.prog 110 #[.slice a n cap] w fun e w'=>∃ v,e=.returned v∧OwnN w' w.heap.size v zs∧Below w.heap.size w w':=by
 cases a with
 |none=>
  obtain⟨rfl,rfl⟩:=hnil rfl;have E:=run_nilSlice w none 0 0;go_enter Tryz.func110,Tryz.ntmps110;go_wp2
  go_ret
  exact⟨_,rfl,.inl ⟨rfl,List.eq_nil_of_length_eq_zero hn⟩,Below.refl _ _⟩
 |some ad=>
  obtain⟨b,off,sp⟩:=ad;have hN:∀ j,j<n→(w.alloc (.cells #[] 5)).cell? ((⟨b,off,sp⟩:Addr).add j)=some (.int .u8 (zs.getD j 0)):=by
   intro j hj;obtain⟨b1,o1,e1,hb1,hc1⟩:=ha.get (by omega);cases e1;rw[Addr.add_lit,((Below.refl w.heap.size w).alloc (Nat.le_refl _) _).cell (p:=⟨b,off+j,none⟩) hb1];exact hc1 j (by omega)
  have HN:Hid _:=hN;clear hN ha;have E:=run_nilSlice w (some ⟨b,off,sp⟩) n cap;go_enter Tryz.func110,Tryz.ntmps110;go_wp2_with (at_builtin;refine wpList_app _ rfl _ _ rfl w.heap.size _ _ rfl (Own.empty w w.heap.size (Nat.le_refl _)) ⟨b,off,sp⟩ n cap zs rfl hn HN.out ?c2 ?c3 ?_)
  (try(case c2=>first|omega|(simp;omega)))
  (try(case c3=>first|omega|(simp;try omega)))
  intro v' w3 hown' hbel' _;have HO:Hid (Own w3 w.heap.size v' zs):=by unfold Hid;simpa using hown'
  have HB:Hid (Below w.heap.size w w3):=((Below.refl _ _).alloc (Nat.le_refl _) _).trans hbel';clear hown' hbel';go_wp2
  go_ret
  exact⟨_,rfl,.inr HO.out,HB.out⟩
theorem upd_ne2 {u:Nat→Value} {i j:Nat} {v:Value} (h:i≠j):upd u i v j=u j:=by unfold upd;rw[if_neg (Ne.symm h)]
def rch (bs:List Bool) (t u:Int) (i:Nat):Nat:=if(i:Int)=t then(min (max u 0) 64).toNat else if bs.getD i false then 64 else 0
theorem rch_le (bs:List Bool) (t u:Int) (i:Nat):rch bs t u i≤64:=by unfold rch;split;· omega
                                                                    split<;>omega
theorem rch_keep {bs:List Bool} {t u:Int} {i:Nat} (h:¬ (i:Int)=t) (h':bs.getD i false=true):rch bs t u i=64:=by unfold rch;rw[if_neg h,if_pos h']
def crL (zs:List Int) (ps:List PD) (bs:List Bool) (t u:Int):Nat→List Int
 |0=>zs
 |k+1=>overL (crL zs ps bs t u k) (ps.getD k (0,[])).1.toNat ((ps.getD k (0,[])).2.take (rch bs t u k))
def PsOk (L:Nat) (ps:List PD):Prop:=∀ i,i<ps.length→pOk (L/64) (ps.getD i (0,[]))
theorem validB_of {L:Nat} {ps:List PD} {f:Int} (h:validB L ps f=true):vBase L ps.length f∧PsOk L ps:=by
 constructor
 ·by_cases hv:vBase L ps.length f
  ·exact hv
  ·rw[validB_no hv] at h;cases h
 ·intro i hi;by_cases hp:pOk (L/64) (ps.getD i (0,[]))
  ·exact hp
  ·rw[validB_bad hi hp] at h;cases h
theorem PsOk.at_ {L:Nat} {ps:List PD} (h:PsOk L ps) (hL:L%64=0) {i:Nat} (hi:i<ps.length) :
  ∃ s:Nat,(ps.getD i (0,[])).1=(s:Int)∧s*64+64≤L∧(ps.getD i (0,[])).2.length=64:=by
 obtain⟨h1,h2,h3⟩:=h i hi;refine⟨(ps.getD i (0,[])).1.toNat,by omega,?_,h3⟩;omega
theorem crL_len {zs:List Int} {ps:List PD} {bs:List Bool} {t u:Int} (h:PsOk zs.length ps) (hL:zs.length%64=0):∀ k,k≤ps.length→(crL zs ps bs t u k).length=zs.length:=by
 intro k
 induction k with
 |zero=>intro _;rfl
 |succ k ih=>
  intro hk;obtain⟨s,h1,h2,h3⟩:=h.at_ hL (i:=k) (by omega);have:=rch_le bs t u k;have ihk:=ih (by omega);show(overL _ _ _).length=_
  rw[overL_len,ihk];rw[ihk,h1];simp;omega
theorem Own.at_ {w:World} {B:Nat} {v:Value} {zs:List Int} (h:Own w B v zs):∃ g c,v=.slice (some ⟨g,0,none⟩) zs.length c∧B≤g∧g<w.heap.size∧zs.length≤c∧At .u8 w (some ⟨g,0,none⟩) zs∧Open w (some ⟨g,0,none⟩) zs.length:=by
 obtain⟨g,c,rfl,hb,hg,hc⟩:=h.base;have hcell:∀ i,i<zs.length→w.cell? ⟨g,0+i,none⟩=some (.int .u8 (zs.getD i 0)):=fun i hi=>by
  rw[Nat.zero_add,h.1.cellAt i (by omega)];simp[hi]
 refine⟨g,c,rfl,hb,hg,hc,.inr ⟨g,0,rfl,hg,hcell⟩,.inr ⟨g,0,rfl,hg,fun i hi=>⟨by rw[hcell i hi];rfl,?_⟩⟩⟩;rw[Nat.zero_add];exact h.1.frozenAt i
end Go.Proofs.YthmeoilbmfdhfaaGreat
