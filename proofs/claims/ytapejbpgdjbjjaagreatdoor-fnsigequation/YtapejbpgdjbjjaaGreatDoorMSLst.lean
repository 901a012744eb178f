import Derived.Test.YtapejbpgdjbjjaaGreatDoorMOwnK
import Derived.Test.YtapejbpgdjbjjaaGreatDoorMFe3
import Derived.Test.YtapejbpgdjbjjaaGreatDoorSAd
namespace Go.Proofs.YtapejbpgdjbjjaaGreatDoor
open Go.ChangeShapes Go.WideShapes Go.ChangeAt Go.RowKit
set_option linter.unusedVariables false
set_option maxHeartbeats 400000 in
theorem l4P_any (i:Nat) (w:World) (hi:i<16):Calls Tryz.prog 90 #[.int .i64 i] w fun e w'=>e=.returned (.int .i64 (pD.getD i 0))∧w'=w:=by
 rw[pD_get i hi]
 by_cases h0:i=0
 ·subst h0;go_enter Tryz.func90,Tryz.ntmps90;go_wp2
  go_ret
  exact⟨rfl,rfl⟩
 ·rw[if_neg h0];have h0':((i:Int) == 0)=false:=by simp;omega
  by_cases h15:i=15
  ·subst h15;go_enter Tryz.func90,Tryz.ntmps90;go_wp2
   go_ret
   exact⟨rfl,rfl⟩
  ·rw[if_neg h15];have h15':((i:Int) == 15)=false:=by simp;omega
   go_enter Tryz.func90,Tryz.ntmps90;go_wp2
   go_ret
   exact⟨rfl,rfl⟩
def LsA (w:World) (a:Option Addr) (x:Int):Prop:=∃ zs,At .i64 w a zs∧zs.length=16∧(∀ i,0≤zs.getD i 0∧zs.getD i 0<65536)∧val 65536 zs=x
def LsP (w:World) (x:Int) (e:Ending) (w':World):Prop:=
 ∃ g c,e=.returned (.slice (some ⟨g,0,none⟩) 16 c)∧w.heap.size≤g∧g<w'.heap.size∧LsA w' (some ⟨g,0,none⟩) x∧Below w.heap.size w w'
theorem LsA.below {w w':World} {a:Option Addr} {x:Int} (h:LsA w a x) (hb:Below w.heap.size w w'):LsA w' a x:=by
 obtain⟨zs,h1,h2⟩:=h
 exact⟨zs,h1.below hb,h2⟩
structure LsS (w:World) (x:Int) (v:Value) (wr:World):Prop where
 ls:∃ g c,v=.slice (some ⟨g,0,none⟩) 16 c∧w.heap.size≤g∧g<wr.heap.size∧LsA wr (some ⟨g,0,none⟩) x
 below:Below w.heap.size w wr
def less1 (x:Int):Int:=if fp≤x then x-fp else x
def lessN (x:Int):Nat→Int
 |0=>x
 |k+1=>less1 (lessN x k)
theorem lessN_two {x:Int} (h0:0≤x) (h1:x<65536^16):lessN x 2=x%fp:=by
 have e:(65536:Int)^16=2*fp+38:=by decide
 rw[e] at h1
 have e2:lessN x 2=less1 (less1 x):=rfl
 rw[e2]
 unfold less1
 unfold fp at *
 split<;>(try split)<;>omega
set_option maxHeartbeats 1000000 in
theorem least_any (a:Option Addr) (cap:Nat) (x:Int) (w:World) (ha:FeA w a x):Calls Tryz.prog 61 #[.slice a 16 cap] w (LsP w x):=by
 obtain⟨xs,hA,hR,hx⟩:=ha
 have hd:=least_dig hR
 have h1b:Bd 65700 xs:=hR.2
 have h2b:Bd 65611 (carryL xs):=by
  have hc:=cy_bd (C:=2) hR.2 (by decide) (by decide) 16;exact(carry_bd (by decide) hc).1
 have h3b:Bd 65535 (carryL (carryL xs)):=fun i=>by have:=hd i;omega
 have hid:=carry_id (carryL_len _) hd
 have hfv:val 65536 (carryL (carryL xs))%fp=x:=by
  rw[←hx];have:=fv_carry (carryL xs) (carryL_len _);rw[fv_carry xs hR.1] at this;exact this
 have hv0:0≤val 65536 (carryL (carryL xs)):=val_nonneg (by decide) (dig_of_get hd)
 have hv1:val 65536 (carryL (carryL xs))<65536^16:=by
  have:=val_lt (B:=65536) (by decide) (dig_of_get hd)
  rwa [carryL_len] at this
 have hfin:=lessN_two hv0 hv1
 rw[hfv] at hfin
 have HD:Hid (∀ i,0≤(carryL (carryL xs)).getD i 0∧(carryL (carryL xs)).getD i 0<65536):=hd
 have HFIN:Hid (lessN (val 65536 (carryL (carryL xs))) 2=x):=hfin
 have HR:Hid (xs.length=16):=hR.1
 clear hfv hv0 hv1 hfin hR hx hd
 go_enter Tryz.func61,Tryz.ntmps61
 go_wp2_with fail
 refine(carry_any _ cap xs _ HR.out hA 65700 2 h1b (by decide) (by decide) (by decide) (by decide)).mono ?_
 rintro e w1 ⟨g1,c1,rfl,o1,b1⟩
 obtain⟨hA1,_,_⟩:=o1.atS
 clear o1 hA
 go_wp2_with fail
 refine(carry_any _ c1 (carryL xs) _ (carryL_len _) hA1 65611 2 h2b (by decide) (by decide) (by decide) (by decide)).mono ?_
 rintro e w2 ⟨g2,c2,rfl,o2,b2⟩
 obtain⟨hA2,_,_⟩:=o2.atS
 have B2:Below w.heap.size w w2:=b1.trans (b2.mono b1.size)
 clear o2 hA1 b1 b2 h1b h2b
 generalize hys:carryL (carryL xs)=ys at *
 have HYL:Hid (ys.length=16):=by rw[←hys];exact carryL_len _
 clear hys
 go_wp2_with fail
 refine(carry_any _ c2 ys _ HYL.out hA2 65535 1 h3b (by decide) (by decide) (by decide) (by decide)).mono ?_
 rintro e w3 ⟨g3,c3,rfl,o3,b3⟩
 rw[hid] at o3
 obtain⟨hA3,_,_⟩:=o3.atS
 have B3:Below w.heap.size w w3:=B2.trans (b3.mono B2.size)
 clear o3 hA2 b3 B2
 go_wp2_with fail
 refine(carry_any _ c3 ys _ HYL.out hA3 65535 1 h3b (by decide) (by decide) (by decide) (by decide)).mono ?_
 rintro e w4 ⟨g4,c4,rfl,o4,b4⟩
 rw[hid] at o4
 obtain⟨hA4,hg4,hg4'⟩:=o4.atS
 have B4:Below w.heap.size w w4:=B3.trans (b4.mono B3.size)
 have HS:Hid (LsS w (lessN (val 65536 ys) 0) (.slice (some ⟨g4,0,none⟩) 16 c4) w4):=⟨⟨g4,c4,rfl,by have:=B3.size;omega,hg4',⟨ys,hA4,HYL.out,HD.out,rfl⟩⟩,B4⟩
 clear o4 hA3 hA4 b4 B3 B4 h3b hid HD HYL
 generalize val 65536 ys=V at *
 go_wp2
 go_loopw [3,4] (fun v i wr=>∃ m:Nat,m≤2∧i=.int .i64 m∧LsS w (lessN V m) v wr) (fun _ i _=>2-(intOf i).toNat)
 case atStart=>exact⟨0,by decide,rfl,HS.out⟩
 case round=>
  clear HS;obtain⟨m,hm,rfl,⟨⟨g,c,rfl,hg,hg',⟨zs,hzA,hzl,hzd,hzv⟩⟩,hbel⟩⟩:=hrel;by_cases hm2:m<2
  ·have hm2':(m:Int)<2:=by omega
   have HN:Hid (lessN V (m+1)=less1 (lessN V m)):=rfl;have HZ:Hid (At .i64 wr (some ⟨g,0,none⟩) zs∧zs.length=16∧(∀ i,0≤zs.getD i 0∧zs.getD i 0<65536)∧val 65536 zs=lessN V m):=⟨hzA,hzl,hzd,hzv⟩
   have HB:Hid (Below w.heap.size w wr):=hbel;clear hzA hzl hzd hzv hbel;generalize lessN V m=U at *;obtain⟨w5,hw5⟩:∃ x,x=wr:=⟨_,rfl⟩
   subst hw5;go_wp2
   go_loopw [5,6,7] (fun v b i wq=>∃(k:Nat) (ds:List Int) (bb:Int),k≤16∧i=.int .i64 k∧b=.int .i64 bb∧(bb=0∨bb=1)∧ds.length=k∧(∀ i,0≤ds.getD i 0∧ds.getD i 0<65536)∧val 65536 (zs.take k)-val 65536 (pD.take k)=val 65536 ds-bb*65536^k∧OwnI wq w5.heap.size v ds∧Below w5.heap.size w5 wq) (fun _ _ i _=>16-(intOf i).toNat)
   case atStart=>exact⟨0,[],0,by decide,rfl,rfl,.inl rfl,rfl,fun i=>by simp,by simp[val],OwnK.empty _ _ (Nat.le_refl _),(Below.refl _ _).alloc (Nat.le_refl _) _⟩
   case round=>
    obtain⟨k,ds,bb,hk,rfl,rfl,hbb,hdl,hdd,hdv,hown,hbq⟩:=hrel;by_cases hk16:k<16
    ·have hk16':(k:Int)<16:=by omega
     have hsz:=hbq.size;have c0:wr.cell? ⟨g,k,none⟩=some (.int .i64 (zs.getD k 0)):=by
      obtain⟨_,_,e,_,hc⟩:=HZ.out.1.get (by have:=HZ.out.2.1;omega);cases e;rw[hbq.cell (p:=⟨g,k,none⟩) hg'];have:=hc k (by have:=HZ.out.2.1;omega)
      rwa [Nat.zero_add] at this
     have hx:=HZ.out.2.2.1 k;have hy:=pD_dig k;have vx:=val_take 65536 zs k (by have:=HZ.out.2.1;omega);have vy:=val_take 65536 pD k (by simpa[pD] using hk16);obtain⟨x',b',hb',hx0',hx1',hx2⟩:∃ x' b':Int,(b'=0∨b'=1)∧0≤x'∧x'<65536∧x'-b'*65536=zs.getD k 0-pD.getD k 0-bb:=by
      by_cases h:zs.getD k 0-pD.getD k 0-bb<0
      ·exact⟨zs.getD k 0-pD.getD k 0-bb+65536,1,.inr rfl,by omega,by omega,by omega⟩
      ·exact⟨zs.getD k 0-pD.getD k 0-bb,0,.inl rfl,by omega,by omega,by omega⟩
     have hstep:=sub_step16 _ _ _ _ _ _ _ _ _ _ hdv hx2;rw[←vx,←vy,←Int.pow_succ,←hdl,←val_snoc,hdl] at hstep;have HST:Hid (val 65536 (zs.take (k+1))-val 65536 (pD.take (k+1))=val 65536 (ds++[x'])-b'*65536^(k+1)):=hstep;have HDD:Hid (∀ i,0≤(ds++[x']).getD i 0∧(ds++[x']).getD i 0<65536):=by
      intro i;rcases Nat.lt_trichotomy i ds.length with h|h|h
      ·rw[List.getD_eq_getElem?_getD,List.getElem?_append_left h,←List.getD_eq_getElem?_getD];exact hdd i
      ·subst h;rw[List.getD_eq_getElem?_getD,List.getElem?_append_right (Nat.le_refl _)];simp;omega
      ·rw[getD_past (by simp;omega)];omega
     have HDL:Hid (ds.length=k):=hdl;have LP:=l4P_any k;clear hstep hdv vx vy hdd hdl;generalize zs.getD k 0=x at *;generalize pD.getD k 0=y at *;obtain⟨hx0,hx1⟩:=hx;obtain⟨hy0,hy1⟩:=hy;go_wp2
     go_quiet (first|(go_at_call 90;refine Calls.quiet_of_same (LP _ hk16)))
     have O2:OwnI (wr.drewN nq) w5.heap.size u5 ds:=hown;have B2:Below w5.heap.size w5 (wr.drewN nq):=⟨hbq.os,hbq.tape,hbq.output,hbq.size,hbq.block⟩
     have Z2:w5.heap.size≤(wr.drewN nq).heap.size:=hsz;clear hown hbq hsz c0 LP;generalize wr.drewN nq=w6 at *;have ht0:-65538<x-y-bb:=by omega
     have ht1:x-y-bb<65536:=by omega
     generalize x-y-bb=t at *;by_cases hneg:t<0
     ·obtain rfl:b'=1:=by omega
      obtain rfl:x'=t+65536:=by omega
      clear hx2 hbb hb';go_wp2_with (at_builtin;refine wpList_appK _ ktI rfl _ _ rfl w5.heap.size _ _ rfl (O2.alloc _) ⟨w6.heap.size,0,none⟩ 1 1 [t+65536] rfl rfl ?c1 ?c2 ?c3 ?_);all_goals first|(intro j hj;obtain rfl:j=0:=by omega
                                                                                                                                                                                                    simp[Addr.add];done)|skip
      case c2=>rw[HDL.out];omega
      case c3=>first|omega|(rw[World.size_alloc];omega)
      intro v' w7 hown' hbel' _;have HO:Hid (OwnI w7 w5.heap.size v' (ds++[t+65536])):=hown';have HB7:Hid (Below w5.heap.size w5 w7):=(B2.alloc (by omega) _).trans hbel';clear O2 hown' B2 hbel';go_wp2;go_roundw
      case rel=>exact⟨k+1,ds++[t+65536],1,by omega,by go_num,rfl,.inr rfl,by rw[List.length_append,HDL.out];rfl,HDD.out,HST.out,HO.out,HB7.out⟩
      case measure=>simp[intOf];omega
     ·obtain rfl:b'=0:=by omega
      obtain rfl:x'=t:=by omega
      clear hx2 hbb hb';go_wp2_with (at_builtin;refine wpList_appK _ ktI rfl _ _ rfl w5.heap.size _ _ rfl (O2.alloc _) ⟨w6.heap.size,0,none⟩ 1 1 [x'] rfl rfl ?d1 ?d2 ?d3 ?_);all_goals first|(intro j hj;obtain rfl:j=0:=by omega
                                                                                                                                                                                               simp[Addr.add];done)|skip
      case d2=>rw[HDL.out];omega
      case d3=>first|omega|(rw[World.size_alloc];omega)
      intro v' w7 hown' hbel' _;have HO:Hid (OwnI w7 w5.heap.size v' (ds++[x'])):=hown';have HB7:Hid (Below w5.heap.size w5 w7):=(B2.alloc (by omega) _).trans hbel';clear O2 hown' B2 hbel';go_wp2;go_roundw
      case rel=>exact⟨k+1,ds++[x'],0,by omega,by go_num,rfl,.inl rfl,by rw[List.length_append,HDL.out];rfl,HDD.out,HST.out,HO.out,HB7.out⟩
      case measure=>simp[intOf];omega
    ·have hk16e:k=16:=by omega
     rw[hk16e,List.take_of_length_le (by have:=HZ.out.2.1;omega),List.take_of_length_le (by simp[pD]),pD_val,HZ.out.2.2.2] at hdv;have z0:0≤val 65536 ds:=val_nonneg (by decide) (dig_of_get hdd);have z1:val 65536 ds<65536^16:=by
      have:=val_lt (B:=65536) (by decide) (dig_of_get hdd)
      rwa [hdl,hk16e] at this
     have hk16':¬ (k:Int)<16:=by omega
     have hUl:U<65536^16:=by
      have:=val_lt (B:=65536) (by decide) (dig_of_get HZ.out.2.2.1)
      rwa [HZ.out.2.1,HZ.out.2.2.2] at this
     obtain⟨gd,cd,rfl,hgd,hgd',hdA⟩:=hown.at_;have hdl16:ds.length=16:=by omega
     rw[hdl16];have hs5:=HB.out.size;have HB8:Hid (Below w.heap.size w wr):=HB.out.trans (hbq.mono hs5);rcases hbb with rfl|rfl
     ·have HP:Hid (LsS w (lessN V (m+1)) (.slice (some ⟨gd,0,none⟩) 16 cd) wr):=by
       refine⟨⟨gd,cd,rfl,by omega,hgd',⟨ds,hdA,hdl16,hdd,?_⟩⟩,HB8.out⟩;rw[HN.out];unfold less1;rw[if_pos (by omega)];omega
      clear hdv z0 z1 hUl hdA hdd hown hbq hdl hdl16 HN HZ hk16e;go_wp2;go_roundw
      case rel=>exact⟨m+1,by omega,by go_num,HP.out⟩
      case measure=>simp[intOf];omega
     ·have HP:Hid (LsS w (lessN V (m+1)) (.slice (some ⟨g,0,none⟩) 16 c) wr):=by
       obtain⟨q1,q2,q3,q4⟩:=HZ.out;refine⟨⟨g,c,rfl,hg,by have:=hbq.size;omega,⟨zs,q1.below hbq,q2,q3,?_⟩⟩,HB8.out⟩;rw[HN.out,q4];unfold less1;rw[if_neg (by omega)]
      clear hdv z0 z1 hUl hdA hdd hown hbq hdl hdl16 HN HZ hk16e;go_wp2;go_roundw
      case rel=>exact⟨m+1,by omega,by go_num,HP.out⟩
      case measure=>simp[intOf];omega
  ·have hme:m=2:=by omega
   have HP:Hid (LsP w x (.returned (.slice (some ⟨g,0,none⟩) 16 c)) wr):=⟨g,c,rfl,hg,hg',⟨zs,hzA,hzl,hzd,by rw[hzv,hme];exact HFIN.out⟩,hbel⟩
   clear hzA hzl hzd hzv hbel hme;go_wp2
   go_ret
   exact HP.out
end Go.Proofs.YtapejbpgdjbjjaaGreatDoor
namespace Go.Proofs.YtapejbpgdjbjjaaGreatDoor
open Go.ChangeShapes Go.WideShapes Go.ChangeAt Go.RowKit
set_option linter.unusedVariables false
theorem ls_eq {xs ys:List Int} (hx:xs.length=16) (hy:ys.length=16) (dx:∀ i,0≤xs.getD i 0∧xs.getD i 0<65536) (dy:∀ i,0≤ys.getD i 0∧ys.getD i 0<65536):val 65536 xs=val 65536 ys↔∀ i,i<16→xs.getD i 0=ys.getD i 0:=by
 constructor
 ·intro h i _;rw[val_inj (B:=65536) (by decide) (dig_of_get dx) (dig_of_get dy) (by omega) h]
 ·intro h;rw[list16 hx hy h]
set_option maxHeartbeats 1000000 in
theorem equal_any (a a':Option Addr) (cap cap':Nat) (x y:Int) (w:World) (ha:FeA w a x) (ha':FeA w a' y) :
  Calls Tryz.prog 63 #[.slice a 16 cap,.slice a' 16 cap'] w fun e w'=>e=.returned (.bool (decide (x=y)))∧Below w.heap.size w w':=by
 have HA':Hid (FeA w a' y):=ha'
 go_enter Tryz.func63,Tryz.ntmps63
 go_wp2_with fail
 refine(least_any a cap x _ ha).mono ?_
 rintro e w1 ⟨g1,c1,rfl,hg1,hg1',hl1,hb1⟩
 have HB1:Hid (Below w.heap.size w w1):=hb1
 have HL1:Hid (LsA w1 (some ⟨g1,0,none⟩) x):=hl1
 have ha2:=HA'.out.below hb1
 clear ha ha' HA' hl1 hb1
 go_wp2_with fail
 refine(least_any a' cap' y _ ha2).mono ?_
 rintro e w2 ⟨g2,c2,rfl,hg2,hg2',hl2,hb2⟩
 have HB2:Hid (Below w.heap.size w w2):=HB1.out.trans (hb2.mono HB1.out.size)
 have hl1:=HL1.out.below hb2
 obtain⟨xs,hA1,hx1,hx2,hx3⟩:=hl1
 obtain⟨ys,hA2,hy1,hy2,hy3⟩:=hl2
 have HEQ:Hid (x=y↔∀ i,i<16→xs.getD i 0=ys.getD i 0):=by
  show _↔_
  rw[←hx3,←hy3];exact ls_eq hx1 hy1 hx2 hy2
 have HC1:Hid (∀ i,i<16→w2.cell? ⟨g1,i,none⟩=some (.int .i64 (xs.getD i 0))):=fun i hi=>by
  obtain⟨b,o,e,_,h⟩:=hA1.get (by omega);cases e;have:=h i (by omega)
  rwa [Nat.zero_add] at this
 have HC2:Hid (∀ i,i<16→w2.cell? ⟨g2,i,none⟩=some (.int .i64 (ys.getD i 0))):=fun i hi=>by
  obtain⟨b,o,e,_,h⟩:=hA2.get (by omega);cases e;have:=h i (by omega)
  rwa [Nat.zero_add] at this
 clear ha2 hb2 HB1 HL1 hA1 hA2 hx1 hx2 hx3 hy1 hy2 hy3
 go_wp2
 go_loopw [7] (fun i wr=>∃(k q:Nat),k≤16∧i=.int .i64 k∧wr=w2.drewN q∧∀ i,i<k→xs.getD i 0=ys.getD i 0) (fun i _=>16-(intOf i).toNat)
 case atStart=>exact⟨0,0,by decide,rfl,rfl,fun i hi=>by omega⟩
 case round=>
  obtain⟨k,q,hk,rfl,rfl,hall⟩:=hrel;have HALL:Hid (∀ i,i<k→xs.getD i 0=ys.getD i 0):=hall;clear hall;by_cases hlt:k<16
  ·have hlt':(k:Int)<16:=by omega
   have c1':=HC1.out k hlt;have c2':=HC2.out k hlt;have HXY:Hid (∀ d e:Int,xs.getD k 0=d→ys.getD k 0=e→d=e→∀ i,i<k+1→xs.getD i 0=ys.getD i 0):=fun d e h1 h2 h3 i hi=>by
    by_cases h:i=k
    ·subst h;rw[h1,h2,h3]
    ·exact HALL.out i (by omega)
   have HNE:Hid (xs.getD k 0≠ys.getD k 0→decide (x=y)=false):=fun h=>decide_eq_false (fun e=>h (HEQ.out.1 e k hlt))
   by_cases hxy:xs.getD k 0=ys.getD k 0
   ·have HS:Hid (∀ i,i<k+1→xs.getD i 0=ys.getD i 0):=HXY.out _ _ rfl rfl hxy;rw[←hxy] at c2';clear HXY HNE hxy;generalize xs.getD k 0=d at *;go_wp2
    go_quiet (fail)
    rw[dN_dN];clear c1' c2';go_wp2;go_roundw
    case rel=>exact⟨k+1,q+nq,by omega,by go_num,rfl,HS.out⟩
    case measure=>simp[intOf];omega
   ·have HD:Hid (decide (x=y)=false):=HNE.out hxy;clear HXY HNE;generalize xs.getD k 0=d at *;generalize ys.getD k 0=d' at *;have hdd:(d == d')=false:=by simpa using hxy
    have hdn:(d != d')=true:=by simpa using hxy
    clear hxy;go_wp2
    go_quiet (fail)
    rw[dN_dN];clear c1' c2' hdd hdn;go_wp2
    go_ret
    exact⟨by rw[HD.out];rfl,⟨HB2.out.os,HB2.out.tape,HB2.out.output,HB2.out.size,HB2.out.block⟩⟩
  ·have hk16:k=16:=by omega
   have HD:Hid (decide (x=y)=true):=decide_eq_true (HEQ.out.2 (fun i hi=>HALL.out i (by omega)));have hlt':¬ (k:Int)<16:=by omega
   clear hk16;go_wp2
   go_ret
   exact⟨by rw[HD.out];rfl,⟨HB2.out.os,HB2.out.tape,HB2.out.output,HB2.out.size,HB2.out.block⟩⟩
structure SR (w wr:World) (L:List (Option Addr×Int)):Prop where
 below:Below w.heap.size w wr
 fe:∀ e∈L,FeA wr e.1 e.2
theorem SR.start (w:World) (L:List (Option Addr×Int)) (h:∀ e∈L,FeA w e.1 e.2):SR w w L:=⟨Below.refl _ _,h⟩
theorem SR.at {w wr:World} {L:List (Option Addr×Int)} (h:SR w wr L) (i:Nat) (a:Option Addr) (x:Int) (hi:L[i]?=some (a,x)):FeA wr a x:=h.fe _ (List.mem_of_getElem? hi)
theorem SR.low {w wr w':World} {L:List (Option Addr×Int)} (h:SR w wr L) (b:Below wr.heap.size wr w'):SR w w' L:=⟨h.below.trans (b.mono h.below.size),fun e he=>(h.fe e he).below b⟩
theorem SR.add {w wr w':World} {L:List (Option Addr×Int)} {a:Option Addr} {x:Int} (h:SR w wr L) (hf:FeA w' a x) (b:Below wr.heap.size wr w'):SR w w' ((a,x)::L):=
 ⟨(h.low b).below,fun e he=>by
  rcases List.mem_cons.1 he with rfl|he
  ·exact hf
  ·exact(h.low b).fe e he⟩
def inv0 (x:Int):Int:=pwF x 11 5 254 255
def pw1 (x:Int):Int:=pwF x 5 3 251 252
def pw2 (x:Int):Int:=pwF x 3 3 252 253
def mdD:Int:=(-121665)%fp*inv0 (121666%fp)%fp
def mdU (Y:Int):Int:=(Y*Y%fp-1%fp)%fp
def mdV (Y D:Int):Int:=(D*(Y*Y%fp)%fp+1%fp)%fp
def mdW (Y D:Int):Int:=mdU Y*inv0 (mdV Y D)%fp
def mdR (Y D:Int):Int:=mdW Y D*pw1 (mdW Y D)%fp
def mdQ (Y D:Int):Int:=mdR Y D*pw2 (2%fp)%fp
def mdOk (Y D:Int):Bool:=decide (mdR Y D*mdR Y D%fp=mdW Y D) || decide (mdQ Y D*mdQ Y D%fp=mdW Y D)
def mdX (Y D:Int):Int:=if mdR Y D*mdR Y D%fp=mdW Y D then mdR Y D else mdQ Y D
def RtP (w:World) (Y D:Int) (e:Ending) (w':World):Prop:=
 ∃ g c,e=.returned (.tuple #[.bool (mdOk Y D),.slice (some ⟨g,0,none⟩) 16 c])∧w.heap.size≤g∧g<w'.heap.size∧FeA w' (some ⟨g,0,none⟩) (mdX Y D)∧Below w.heap.size w w'
set_option maxHeartbeats 2000000 in
theorem d_any (w:World):Calls Tryz.prog 28 #[] w (FeP w mdD):=by
 have HS0:Hid (SR w w []):=SR.start w [] (by simp)
 go_enter Tryz.func28,Tryz.ntmps28
 go_wp2_with fail
 refine(small_any (-121665) _ (by decide) (by decide)).mono ?_
 rintro e w1 ⟨g1,c1,rfl,k1,l1,hf,hb⟩
 have HS1:Hid (SR w w1 [(some ⟨g1,0,none⟩,(-121665)%fp)]):=HS0.out.add hf hb
 have m1:=hb.size
 clear hf hb HS0
 go_wp2_with fail
 refine(small_any 121666 _ (by decide) (by decide)).mono ?_
 rintro e w2 ⟨g2,c2,rfl,k2,l2,hf,hb⟩
 have HS2:Hid (SR w w2 [(some ⟨g2,0,none⟩,121666%fp),(some ⟨g1,0,none⟩,(-121665)%fp)]):=HS1.out.add hf hb
 have m2:=hb.size
 clear hf hb HS1
 go_wp2_with fail
 refine(pow0_any _ c2 (121666%fp) _ (HS2.out.at 0 _ _ rfl)).mono ?_
 rintro e w3 ⟨g3,c3,rfl,k3,l3,hf,hb⟩
 have HS3:Hid (SR w w3 [(some ⟨g3,0,none⟩,inv0 (121666%fp)),(some ⟨g2,0,none⟩,121666%fp),(some ⟨g1,0,none⟩,(-121665)%fp)]):=HS2.out.add hf hb
 have m3:=hb.size
 clear hf hb HS2
 go_wp2_with fail
 refine(fmul_any _ _ c1 c3 ((-121665)%fp) (inv0 (121666%fp)) _ (HS3.out.at 2 _ _ rfl) (HS3.out.at 0 _ _ rfl)).mono ?_
 rintro e w4 ⟨g4,c4,rfl,k4,l4,hf,hb⟩
 have HS4:Hid (SR w w4 [(some ⟨g4,0,none⟩,mdD),(some ⟨g3,0,none⟩,inv0 (121666%fp)),(some ⟨g2,0,none⟩,121666%fp),(some ⟨g1,0,none⟩,(-121665)%fp)]):=HS3.out.add hf hb
 have m4:=hb.size
 clear hf hb HS3
 have HP:Hid (w.heap.size≤g4∧g4<w4.heap.size):=⟨by omega,by omega⟩
 go_wp2
 go_ret
 exact⟨g4,c4,rfl,HP.out.1,HP.out.2,HS4.out.at 0 _ _ rfl,HS4.out.below⟩
set_option maxHeartbeats 4000000 in
theorem root_any (a a':Option Addr) (cap cap':Nat) (Y D:Int) (w:World) (ha:FeA w a Y) (ha':FeA w a' D) :
  Calls Tryz.prog 62 #[.slice a 16 cap,.slice a' 16 cap'] w (RtP w Y D):=by
 have HS0:Hid (SR w w [(a,Y),(a',D)]):=SR.start w _ (fun e he=>by
  simp only[List.mem_cons,List.not_mem_nil,or_false] at he;rcases he with rfl|rfl
  ·exact ha
  ·exact ha')
 clear ha ha'
 go_enter Tryz.func62,Tryz.ntmps62
 go_wp2_with fail
 refine(fmul_any _ _ cap cap (Y) (Y) _ (HS0.out.at 0 _ _ rfl) (HS0.out.at 0 _ _ rfl)).mono ?_
 rintro e w1 ⟨g1,c1,rfl,k1,l1,hf,hb⟩
 have HS1:Hid (SR w w1 [(some ⟨g1,0,none⟩,Y*Y%fp),(a,Y),(a',D)]):=HS0.out.add hf hb
 have m1:=hb.size
 clear hf hb HS0
 go_wp2_with fail
 refine(small_any 1 _ (by decide) (by decide)).mono ?_
 rintro e w2 ⟨g2,c2,rfl,k2,l2,hf,hb⟩
 have HS2:Hid (SR w w2 [(some ⟨g2,0,none⟩,1%fp),(some ⟨g1,0,none⟩,Y*Y%fp),(a,Y),(a',D)]):=HS1.out.add hf hb
 have m2:=hb.size
 clear hf hb HS1
 go_wp2_with fail
 refine(fsub_any _ _ c1 c2 (Y*Y%fp) (1%fp) _ (HS2.out.at 1 _ _ rfl) (HS2.out.at 0 _ _ rfl)).mono ?_
 rintro e w3 ⟨g3,c3,rfl,k3,l3,hf,hb⟩
 have HS3:Hid (SR w w3 [(some ⟨g3,0,none⟩,mdU Y),(some ⟨g2,0,none⟩,1%fp),(some ⟨g1,0,none⟩,Y*Y%fp),(a,Y),(a',D)]):=HS2.out.add hf hb
 have m3:=hb.size
 clear hf hb HS2
 go_wp2_with fail
 refine(fmul_any _ _ cap' c1 (D) (Y*Y%fp) _ (HS3.out.at 4 _ _ rfl) (HS3.out.at 2 _ _ rfl)).mono ?_
 rintro e w4 ⟨g4,c4,rfl,k4,l4,hf,hb⟩
 have HS4:Hid (SR w w4 [(some ⟨g4,0,none⟩,D*(Y*Y%fp)%fp),(some ⟨g3,0,none⟩,mdU Y),(some ⟨g2,0,none⟩,1%fp),(some ⟨g1,0,none⟩,Y*Y%fp),(a,Y),(a',D)]):=HS3.out.add hf hb
 have m4:=hb.size
 clear hf hb HS3
 go_wp2_with fail
 refine(small_any 1 _ (by decide) (by decide)).mono ?_
 rintro e w5 ⟨g5,c5,rfl,k5,l5,hf,hb⟩
 have HS5:Hid (SR w w5 [(some ⟨g5,0,none⟩,1%fp),(some ⟨g4,0,none⟩,D*(Y*Y%fp)%fp),(some ⟨g3,0,none⟩,mdU Y),(some ⟨g2,0,none⟩,1%fp),(some ⟨g1,0,none⟩,Y*Y%fp),(a,Y),(a',D)]):=HS4.out.add hf hb
 have m5:=hb.size
 clear hf hb HS4
 go_wp2_with fail
 refine(fadd_any _ _ c4 c5 (D*(Y*Y%fp)%fp) (1%fp) _ (HS5.out.at 1 _ _ rfl) (HS5.out.at 0 _ _ rfl)).mono ?_
 rintro e w6 ⟨g6,c6,rfl,k6,l6,hf,hb⟩
 have HS6:Hid (SR w w6 [(some ⟨g6,0,none⟩,mdV Y D),(some ⟨g5,0,none⟩,1%fp),(some ⟨g4,0,none⟩,D*(Y*Y%fp)%fp),(some ⟨g3,0,none⟩,mdU Y),(some ⟨g2,0,none⟩,1%fp),(some ⟨g1,0,none⟩,Y*Y%fp),(a,Y),(a',D)]):=HS5.out.add hf hb
 have m6:=hb.size
 clear hf hb HS5
 go_wp2_with fail
 refine(pow0_any _ c6 (mdV Y D) _ (HS6.out.at 0 _ _ rfl)).mono ?_
 rintro e w7 ⟨g7,c7,rfl,k7,l7,hf,hb⟩
 have HS7:Hid (SR w w7 [(some ⟨g7,0,none⟩,inv0 (mdV Y D)),(some ⟨g6,0,none⟩,mdV Y D),(some ⟨g5,0,none⟩,1%fp),(some ⟨g4,0,none⟩,D*(Y*Y%fp)%fp),(some ⟨g3,0,none⟩,mdU Y),(some ⟨g2,0,none⟩,1%fp),(some ⟨g1,0,none⟩,Y*Y%fp),(a,Y),(a',D)]):=HS6.out.add hf hb
 have m7:=hb.size
 clear hf hb HS6
 go_wp2_with fail
 refine(fmul_any _ _ c3 c7 (mdU Y) (inv0 (mdV Y D)) _ (HS7.out.at 4 _ _ rfl) (HS7.out.at 0 _ _ rfl)).mono ?_
 rintro e w8 ⟨g8,c8,rfl,k8,l8,hf,hb⟩
 have HS8:Hid (SR w w8 [(some ⟨g8,0,none⟩,mdW Y D),(some ⟨g7,0,none⟩,inv0 (mdV Y D)),(some ⟨g6,0,none⟩,mdV Y D),(some ⟨g5,0,none⟩,1%fp),(some ⟨g4,0,none⟩,D*(Y*Y%fp)%fp),(some ⟨g3,0,none⟩,mdU Y),(some ⟨g2,0,none⟩,1%fp),(some ⟨g1,0,none⟩,Y*Y%fp),(a,Y),(a',D)]):=HS7.out.add hf hb
 have m8:=hb.size
 clear hf hb HS7
 go_wp2_with fail
 refine(pow1_any _ c8 (mdW Y D) _ (HS8.out.at 0 _ _ rfl)).mono ?_
 rintro e w9 ⟨g9,c9,rfl,k9,l9,hf,hb⟩
 have HS9:Hid (SR w w9 [(some ⟨g9,0,none⟩,pw1 (mdW Y D)),(some ⟨g8,0,none⟩,mdW Y D),(some ⟨g7,0,none⟩,inv0 (mdV Y D)),(some ⟨g6,0,none⟩,mdV Y D),(some ⟨g5,0,none⟩,1%fp),(some ⟨g4,0,none⟩,D*(Y*Y%fp)%fp),(some ⟨g3,0,none⟩,mdU Y),(some ⟨g2,0,none⟩,1%fp),(some ⟨g1,0,none⟩,Y*Y%fp),(a,Y),(a',D)]):=HS8.out.add hf hb
 have m9:=hb.size
 clear hf hb HS8
 go_wp2_with fail
 refine(fmul_any _ _ c8 c9 (mdW Y D) (pw1 (mdW Y D)) _ (HS9.out.at 1 _ _ rfl) (HS9.out.at 0 _ _ rfl)).mono ?_
 rintro e w10 ⟨g10,c10,rfl,k10,l10,hf,hb⟩
 have HS10:Hid (SR w w10 [(some ⟨g10,0,none⟩,mdR Y D),(some ⟨g9,0,none⟩,pw1 (mdW Y D)),(some ⟨g8,0,none⟩,mdW Y D),(some ⟨g7,0,none⟩,inv0 (mdV Y D)),(some ⟨g6,0,none⟩,mdV Y D),(some ⟨g5,0,none⟩,1%fp),(some ⟨g4,0,none⟩,D*(Y*Y%fp)%fp),(some ⟨g3,0,none⟩,mdU Y),(some ⟨g2,0,none⟩,1%fp),(some ⟨g1,0,none⟩,Y*Y%fp),(a,Y),(a',D)]):=HS9.out.add hf hb
 have m10:=hb.size
 clear hf hb HS9
 go_wp2_with fail
 refine(fmul_any _ _ c10 c10 (mdR Y D) (mdR Y D) _ (HS10.out.at 0 _ _ rfl) (HS10.out.at 0 _ _ rfl)).mono ?_
 rintro e w11 ⟨g11,c11,rfl,k11,l11,hf,hb⟩
 have HS11:Hid (SR w w11 [(some ⟨g11,0,none⟩,mdR Y D*mdR Y D%fp),(some ⟨g10,0,none⟩,mdR Y D),(some ⟨g9,0,none⟩,pw1 (mdW Y D)),(some ⟨g8,0,none⟩,mdW Y D),(some ⟨g7,0,none⟩,inv0 (mdV Y D)),(some ⟨g6,0,none⟩,mdV Y D),(some ⟨g5,0,none⟩,1%fp),(some ⟨g4,0,none⟩,D*(Y*Y%fp)%fp),(some ⟨g3,0,none⟩,mdU Y),(some ⟨g2,0,none⟩,1%fp),(some ⟨g1,0,none⟩,Y*Y%fp),(a,Y),(a',D)]):=HS10.out.add hf hb
 have m11:=hb.size
 clear hf hb HS10
 go_wp2_with fail
 refine(equal_any _ _ c11 c8 (mdR Y D*mdR Y D%fp) (mdW Y D) _ (HS11.out.at 0 _ _ rfl) (HS11.out.at 3 _ _ rfl)).mono ?_
 rintro e wq ⟨rfl,hb⟩
 have HSq:Hid (SR w wq [(some ⟨g11,0,none⟩,mdR Y D*mdR Y D%fp),(some ⟨g10,0,none⟩,mdR Y D),(some ⟨g9,0,none⟩,pw1 (mdW Y D)),(some ⟨g8,0,none⟩,mdW Y D),(some ⟨g7,0,none⟩,inv0 (mdV Y D)),(some ⟨g6,0,none⟩,mdV Y D),(some ⟨g5,0,none⟩,1%fp),(some ⟨g4,0,none⟩,D*(Y*Y%fp)%fp),(some ⟨g3,0,none⟩,mdU Y),(some ⟨g2,0,none⟩,1%fp),(some ⟨g1,0,none⟩,Y*Y%fp),(a,Y),(a',D)]):=HS11.out.low hb
 have mq:=hb.size
 clear hb HS11
 by_cases hq:mdR Y D*mdR Y D%fp=mdW Y D
 ·have HQ:Hid (mdOk Y D=true∧mdX Y D=mdR Y D):=⟨by unfold mdOk;rw[decide_eq_true hq];rfl,by unfold mdX;rw[if_pos hq]⟩
  rw[decide_eq_true hq];clear hq;have HP:Hid (w.heap.size≤g10∧g10<wq.heap.size):=⟨by omega,by omega⟩
  go_wp2
  go_ret2
  exact⟨g10,c10,by rw[HQ.out.1];rfl,HP.out.1,HP.out.2,by rw[HQ.out.2];exact HSq.out.at 1 _ _ rfl,HSq.out.below⟩
 ·have HQ:Hid (¬ (mdR Y D*mdR Y D%fp=mdW Y D)):=hq;rw[decide_eq_false hq];clear hq;go_wp2_with fail;refine(small_any 2 _ (by decide) (by decide)).mono ?_;rintro e w12 ⟨g12,c12,rfl,k12,l12,hf,hb⟩;have HS12:Hid (SR w w12 [(some ⟨g12,0,none⟩,2%fp),(some ⟨g11,0,none⟩,mdR Y D*mdR Y D%fp),(some ⟨g10,0,none⟩,mdR Y D),(some ⟨g9,0,none⟩,pw1 (mdW Y D)),(some ⟨g8,0,none⟩,mdW Y D),(some ⟨g7,0,none⟩,inv0 (mdV Y D)),(some ⟨g6,0,none⟩,mdV Y D),(some ⟨g5,0,none⟩,1%fp),(some ⟨g4,0,none⟩,D*(Y*Y%fp)%fp),(some ⟨g3,0,none⟩,mdU Y),(some ⟨g2,0,none⟩,1%fp),(some ⟨g1,0,none⟩,Y*Y%fp),(a,Y),(a',D)]):=HSq.out.add hf hb;have m12:=hb.size;clear hf hb HSq;go_wp2_with fail;refine(pow2_any _ c12 (2%fp) _ (HS12.out.at 0 _ _ rfl)).mono ?_;rintro e w13 ⟨g13,c13,rfl,k13,l13,hf,hb⟩;have HS13:Hid (SR w w13 [(some ⟨g13,0,none⟩,pw2 (2%fp)),(some ⟨g12,0,none⟩,2%fp),(some ⟨g11,0,none⟩,mdR Y D*mdR Y D%fp),(some ⟨g10,0,none⟩,mdR Y D),(some ⟨g9,0,none⟩,pw1 (mdW Y D)),(some ⟨g8,0,none⟩,mdW Y D),(some ⟨g7,0,none⟩,inv0 (mdV Y D)),(some ⟨g6,0,none⟩,mdV Y D),(some ⟨g5,0,none⟩,1%fp),(some ⟨g4,0,none⟩,D*(Y*Y%fp)%fp),(some ⟨g3,0,none⟩,mdU Y),(some ⟨g2,0,none⟩,1%fp),(some ⟨g1,0,none⟩,Y*Y%fp),(a,Y),(a',D)]):=HS12.out.add hf hb;have m13:=hb.size;clear hf hb HS12;go_wp2_with fail;refine(fmul_any _ _ c10 c13 (mdR Y D) (pw2 (2%fp)) _ (HS13.out.at 3 _ _ rfl) (HS13.out.at 0 _ _ rfl)).mono ?_;rintro e w14 ⟨g14,c14,rfl,k14,l14,hf,hb⟩;have HS14:Hid (SR w w14 [(some ⟨g14,0,none⟩,mdQ Y D),(some ⟨g13,0,none⟩,pw2 (2%fp)),(some ⟨g12,0,none⟩,2%fp),(some ⟨g11,0,none⟩,mdR Y D*mdR Y D%fp),(some ⟨g10,0,none⟩,mdR Y D),(some ⟨g9,0,none⟩,pw1 (mdW Y D)),(some ⟨g8,0,none⟩,mdW Y D),(some ⟨g7,0,none⟩,inv0 (mdV Y D)),(some ⟨g6,0,none⟩,mdV Y D),(some ⟨g5,0,none⟩,1%fp),(some ⟨g4,0,none⟩,D*(Y*Y%fp)%fp),(some ⟨g3,0,none⟩,mdU Y),(some ⟨g2,0,none⟩,1%fp),(some ⟨g1,0,none⟩,Y*Y%fp),(a,Y),(a',D)]):=HS13.out.add hf hb;have m14:=hb.size;clear hf hb HS13;go_wp2_with fail;refine(fmul_any _ _ c14 c14 (mdQ Y D) (mdQ Y D) _ (HS14.out.at 0 _ _ rfl) (HS14.out.at 0 _ _ rfl)).mono ?_;rintro e w15 ⟨g15,c15,rfl,k15,l15,hf,hb⟩;have HS15:Hid (SR w w15 [(some ⟨g15,0,none⟩,mdQ Y D*mdQ Y D%fp),(some ⟨g14,0,none⟩,mdQ Y D),(some ⟨g13,0,none⟩,pw2 (2%fp)),(some ⟨g12,0,none⟩,2%fp),(some ⟨g11,0,none⟩,mdR Y D*mdR Y D%fp),(some ⟨g10,0,none⟩,mdR Y D),(some ⟨g9,0,none⟩,pw1 (mdW Y D)),(some ⟨g8,0,none⟩,mdW Y D),(some ⟨g7,0,none⟩,inv0 (mdV Y D)),(some ⟨g6,0,none⟩,mdV Y D),(some ⟨g5,0,none⟩,1%fp),(some ⟨g4,0,none⟩,D*(Y*Y%fp)%fp),(some ⟨g3,0,none⟩,mdU Y),(some ⟨g2,0,none⟩,1%fp),(some ⟨g1,0,none⟩,Y*Y%fp),(a,Y),(a',D)]):=HS14.out.add hf hb;have m15:=hb.size;clear hf hb HS14;go_wp2_with fail;refine(equal_any _ _ c15 c8 (mdQ Y D*mdQ Y D%fp) (mdW Y D) _ (HS15.out.at 0 _ _ rfl) (HS15.out.at 7 _ _ rfl)).mono ?_;rintro e wz ⟨rfl,hb⟩;have HSz:Hid (SR w wz [(some ⟨g15,0,none⟩,mdQ Y D*mdQ Y D%fp),(some ⟨g14,0,none⟩,mdQ Y D),(some ⟨g13,0,none⟩,pw2 (2%fp)),(some ⟨g12,0,none⟩,2%fp),(some ⟨g11,0,none⟩,mdR Y D*mdR Y D%fp),(some ⟨g10,0,none⟩,mdR Y D),(some ⟨g9,0,none⟩,pw1 (mdW Y D)),(some ⟨g8,0,none⟩,mdW Y D),(some ⟨g7,0,none⟩,inv0 (mdV Y D)),(some ⟨g6,0,none⟩,mdV Y D),(some ⟨g5,0,none⟩,1%fp),(some ⟨g4,0,none⟩,D*(Y*Y%fp)%fp),(some ⟨g3,0,none⟩,mdU Y),(some ⟨g2,0,none⟩,1%fp),(some ⟨g1,0,none⟩,Y*Y%fp),(a,Y),(a',D)]):=HS15.out.low hb;have mz:=hb.size;clear hb HS15;have HD:Hid (decide (mdQ Y D*mdQ Y D%fp=mdW Y D)=mdOk Y D∧mdX Y D=mdQ Y D):=⟨by unfold mdOk;rw[decide_eq_false HQ.out];simp,by unfold mdX;rw[if_neg HQ.out]⟩
  rw[HD.out.1];have HP:Hid (w.heap.size≤g14∧g14<wz.heap.size):=⟨by omega,by omega⟩
  go_wp2
  go_ret2
  exact⟨g14,c14,rfl,HP.out.1,HP.out.2,by rw[HD.out.2];exact HSz.out.at 1 _ _ rfl,HSz.out.below⟩
end Go.Proofs.YtapejbpgdjbjjaaGreatDoor
