import Derived.Test.YtapejbpgdjbjjaaGreatDoorMShH
import Derived.Test.YtapejbpgdjbjjaaGreatDoorMRConS
import Derived.Test.YtapejbpgdjbjjaaGreatDoorMSMul
import Derived.Test.YtapejbpgdjbjjaaGreatDoorMBb
import Derived.Maps.AppendAt
namespace Go.Proofs.YtapejbpgdjbjjaaGreatDoor
open Go.ChangeShapes Go.WideShapes Go.ChangeAt Go.RowKit
set_option linter.unusedVariables false
set_option maxHeartbeats 1000000 in
theorem bytesS_any (x:Int) (w:World) (hx:U64 x) :
  Calls Tryz.prog 56 #[.int .u64 x] w fun e w'=>∃ v,e=.returned v∧Own w' w.heap.size v (by8 x)∧Below w.heap.size w w':=by
 obtain⟨hx0,hx1⟩:=hx
 go_enter Tryz.func56,Tryz.ntmps56
 go_wp2
 go_loopw [3,4] (fun v i wr=>∃ j:Nat,j≤8∧i=.int .i64 (56-8*(j:Int))∧Own wr w.heap.size v ((by8 x).take j)∧Below w.heap.size w wr) (fun _ i _=>(intOf i+8).toNat)
 case atStart=>exact⟨0,by omega,rfl,Own.empty _ _ (Nat.le_refl _),(Below.refl _ _).alloc (Nat.le_refl _) _⟩
 case round=>
  obtain⟨j,hj,rfl,hown,hbel⟩:=hrel;by_cases hlj:j<8
  ·have hlj':(0:Int)≤56-8*(j:Int):=by omega
   have hsz:=hbel.size;have HE:=hid_ofS (by8_take x j hlj);have HLJ:Hid (((by8 x).take j).length+1≤1099511627776):=by show _≤_;rw[List.length_take,by8_len];omega
   have HO:=hid_ofS hown;have HB:=hid_ofS hbel;clear hown hbel;go_wp2_with (at_builtin;refine wpList_app _ rfl _ _ rfl w.heap.size _ _ rfl (HO.out.alloc _) ⟨wr.heap.size,0,none⟩ 1 1 [x/2^(56-8*j)%256] rfl rfl ?c1 HLJ.out ?c3 ?_);all_goals first|(intro j' hj';obtain rfl:j'=0:=by omega
                                                                                                                                                                                                                                                      simp[Addr.add];done)|skip
   case c3=>rw[World.size_alloc];omega
   intro v' w2 hown' hbel' _;have HO2:Hid (Own w2 w.heap.size v' ((by8 x).take (j+1))):=by rw[HE.out];exact hown'
   have HB2:Hid (Below w.heap.size w w2):=(HB.out.alloc hsz _).trans hbel';clear hown' hbel' HO HB HE HLJ;go_wp2;go_roundw
   case rel=>exact⟨j+1,by omega,by go_num,HO2.out,HB2.out⟩
   case measure=>simp[intOf];omega
  ·obtain rfl:j=8:=by omega
   have HOW:=hid_ofS hown;rw[List.take_of_length_le (by rw[by8_len];exact Nat.le_refl _)] at HOW;have HBE:=hid_ofS hbel;clear hown hbel;go_wp2
   go_ret
   exact⟨_,rfl,HOW.out,HBE.out⟩
def lenOf:Value→Nat
 |.slice _ n _=>n
 |_=>0
def padZ (n:Nat):Nat:=(239-n%128)%128
theorem padZ_spec (n:Nat):(n+1+padZ n)%128=112∧padZ n<128:=by unfold padZ;omega
theorem padZ_min (n j:Nat) (h:j<padZ n):(n+1+j)%128≠112:=by unfold padZ at h;omega
def padL (zs:List Int):List Int:=zs++[128]++List.replicate (padZ zs.length) 0++List.replicate 8 0++by8 (8*(zs.length:Int))
theorem own_grow {w w':World} {B:Nat} {v:Value} {zs:List Int} (h:Own w B v zs) (hb:Below w.heap.size w w'):Own w' B v zs:=by
 refine⟨⟨h.1.1,?_⟩,h.2⟩
 rcases h.1.2 with h'|⟨g,c,cur,h1,h2,h3,h4⟩
 ·exact .inl h'
 ·exact .inr ⟨g,c,cur,h1,h2,by rw[hb.block g (Array.getElem?_eq_some_iff.1 h3).1];exact h3,h4⟩
theorem wpList_app1b (w:World) {ops:Array Oper} {rest:List Oper} {o:Oper} {a:Act} {Q:Exit→Act→World→Prop}
  (hg:o.guard=none) (s x:Operand) (hop:o.op=Op.call { callee:=Callee.builtin Builtin.append,args:=#[s,x],argTypes:=#[22,22] })
  (B:Nat) (v:Value) (xs:List Int) (hs:a.eval s=v) (hown:Own w B v xs) (g:Nat) (ns:List Int) (m:Nat) (hm:ns.length=m) (hx:a.eval x=.slice (some ⟨g,0,none⟩) m m) (hr:Row w g 5 ns) (hb:xs.length+m≤1099511627776) (hB:B≤w.heap.size)
  (hK:∀ v' w',Own w' B v' (xs++ns)→Below B w w'→wpList Tryz.prog ops Q rest (a.put o.dst v') w') :
  wpList Tryz.prog ops Q (o::rest) a w:=
 wpList_app w hg s x hop B v xs hs hown ⟨g,0,none⟩ m m ns hx hm (fun j hj=>by rw[Addr.add_lit,Nat.zero_add];exact hr.cell j (by omega)) hb hB (fun v' w' h1 h2 _=>hK v' w' h1 h2)
set_option maxRecDepth 100000 in
set_option maxHeartbeats 2000000 in
theorem padS_any (b off cap n:Nat) (zs:List Int) (w:World) (hn:zs.length=n) (hb:b<w.heap.size) (hc:∀ i,i<zs.length→w.cell? ⟨b,off+i,none⟩=some (.int .u8 (zs.getD i 0))) (hm:n≤2097152) :
  Calls Tryz.prog 54 #[.slice (some ⟨b,off,none⟩) n cap] w fun e w'=>∃ v,e=.returned v∧Own w' w.heap.size v (padL zs)∧Below w.heap.size w w':=by
 have HC:=hid_ofS hc
 have HN:=hid_ofS hn
 have HE0:=hid_ofS (Own.empty w w.heap.size (Nat.le_refl _))
 have HAL:Hid (Below w.heap.size w (w.alloc (.cells #[] 5))):=(Below.refl _ _).alloc (Nat.le_refl _) _
 clear hc hn
 go_enter Tryz.func54,Tryz.ntmps54
 go_wp2_with (at_builtin;refine wpList_app _ rfl _ _ rfl w.heap.size _ [] rfl HE0.out ⟨b,off,none⟩ n cap zs rfl HN.out ?c1 (by simp;omega) (by simp) ?_)
 case c1=>
  intro j hj;rw[Addr.add_lit,HAL.out.cell (p:=⟨b,off+j,none⟩) hb];exact HC.out j (by rw[HN.out];exact hj)
 intro v1 w1 o1 b1 _
 have HO1:Hid (Own w1 w.heap.size v1 zs):=o1
 have HB1:Hid (Below w.heap.size w w1):=HAL.out.trans b1
 clear o1 b1 HE0 HAL
 have HLN:Hid (zs.length+1≤1099511627776):=by show _≤_;rw[HN.out];omega
 have hs1:=HB1.out.size
 go_wp2_with (at_builtin;refine wpList_app _ rfl _ _ rfl w.heap.size _ _ rfl (HO1.out.alloc _) ⟨w1.heap.size,0,none⟩ 1 1 [128] rfl rfl ?c1 HLN.out ?c3 ?_)
 all_goals first|(intro j' hj';obtain rfl:j'=0:=by omega
                  simp[Addr.add];done)|skip
 case c3=>rw[World.size_alloc];omega
 intro v2 w2 o2 b2 _
 have HO2:Hid (Own w2 w.heap.size v2 (zs++[128]++List.replicate 0 0)):=by show Own _ _ _ _;simpa using o2
 have HB2:Hid (Below w.heap.size w w2):=(HB1.out.alloc hs1 _).trans b2
 clear o2 b2 HO1 HB1 HLN hs1
 go_wp2
 go_loopw [3] (fun v wr=>∃ j:Nat,j≤padZ n∧Own wr w.heap.size v (zs++[128]++List.replicate j 0)∧Below w.heap.size w wr) (fun v _=>n+200-lenOf v)
 case atStart=>exact⟨0,Nat.zero_le _,HO2.out,HB2.out⟩
 case round=>
  clear HO2 HB2;obtain⟨j,hj,hown,hbel⟩:=hrel;have hsz:=hbel.size;obtain⟨g,c,rfl,hg1,hg2,hg3⟩:=hown.base;have HO:=hid_ofS hown;have HB:=hid_ofS hbel;have hps:=padZ_spec n;have hll:(zs++[128]++List.replicate j 0).length=n+1+j:=by simp[HN.out];omega
  rw[hll] at HO hg3 ⊢;have HLL:=hid_ofS hll;clear hown hbel hll;obtain⟨L,hL⟩:∃ L,L=n+1+j:=⟨_,rfl⟩
  rw[←hL] at HO hg3 HLL ⊢;have hLb:L≤2097700:=by omega
  by_cases hlt:j<padZ n
  ·have hne:=padZ_min n j hlt;have hne':¬ ((L:Int)%128=112):=by omega
   have HJ:Hid (j+1≤padZ n):=by show _≤_;omega
   have HLm:Hid (L<n+200):=by show _<_;omega
   clear hne hL hps hj hlt;have HLJ:Hid ((zs++[128]++List.replicate j 0).length+1≤1099511627776):=by show _≤_;rw[HLL.out];omega
   have hO:=HO.out;obtain⟨ys,hys⟩:∃ ys,ys=zs++[128]++List.replicate j 0:=⟨_,rfl⟩
   rw[←hys] at HO HLL HLJ;clear hO;have HYS:Hid (zs++[128]++List.replicate (j+1) 0=ys++[0]):=by show _=_;rw[hys,List.replicate_succ'];simp
   clear hys;go_wp2_with (at_builtin;refine wpList_app _ rfl _ _ rfl w.heap.size _ _ rfl (HO.out.alloc _) ⟨wr.heap.size,0,none⟩ 1 1 [0] rfl rfl ?d1 HLJ.out ?d3 ?_);all_goals first|(intro j' hj';obtain rfl:j'=0:=by omega
                                                                                                                                                                                     simp[Addr.add];done)|skip
   case d3=>rw[World.size_alloc];omega
   intro v2 w2 o2 b2 _;obtain⟨g',c2,e2,_,_,_⟩:=o2.base;have HO2:Hid (Own w2 w.heap.size v2 (zs++[128]++List.replicate (j+1) 0)):=by rw[HYS.out];exact o2
   have HB2:Hid (Below w.heap.size w w2):=(HB.out.alloc hsz _).trans b2;have HV2:Hid (lenOf v2=L+1):=by rw[e2];show _=_;simp[lenOf,HLL.out]
   clear o2 b2 HO HB HLJ HYS e2;go_wp2;go_roundw
   case rel=>exact⟨j+1,HJ.out,HO2.out,HB2.out⟩
   case measure=>
    have h1:=HV2.out;have h2:=HLm.out;have h3:lenOf (.slice (some ⟨g,0,none⟩) L c)=L:=rfl
    first|(rw[h3,h1];omega)|(simp[lenOf,h1] at *;omega)
  ·obtain rfl:j=padZ n:=by omega
   have hne':((L:Int)%128=112):=by omega
   have HLJ:Hid ((zs++[128]++List.replicate (padZ n) 0).length+8≤1099511627776):=by show _≤_;rw[HLL.out];omega
   clear hL hps hj hlt;obtain⟨ys,hys⟩:∃ ys,ys=zs++[128]++List.replicate (padZ n) 0:=⟨_,rfl⟩
   rw[←hys] at HO HLL HLJ;have HYS:Hid (padL zs=ys++[0,0,0,0,0,0,0,0]++by8 (8*(n:Int))):=by show _=_;rw[hys];unfold padL;rw[HN.out];rfl
   clear hys;go_wp2_with (at_builtin;refine wpList_app _ rfl _ _ rfl w.heap.size _ _ rfl (HO.out.alloc _) ⟨wr.heap.size,0,none⟩ 8 8 [0,0,0,0,0,0,0,0] rfl rfl ?e1 HLJ.out ?e3 ?_)
   case e1=>
    intro j' hj';have:j'=0∨j'=1∨j'=2∨j'=3∨j'=4∨j'=5∨j'=6∨j'=7:=by omega
    rcases this with rfl|rfl|rfl|rfl|rfl|rfl|rfl|rfl<;>simp[Addr.add]
   case e3=>rw[World.size_alloc];omega
   intro v2 w2 o2 b2 _;have HO2:=hid_ofS o2;have HB2:Hid (Below w.heap.size w w2):=(HB.out.alloc hsz _).trans b2;clear o2 b2 HO HB HLJ;have e8:(8:Int)*(n:Int)<18446744073709551616:=by omega
   have A:=hid_ofS (bytesS_any (8*(n:Int)) w2 ⟨by omega,by omega⟩);go_wp2_with fail;refine A.out.mono ?_;rintro e w3 ⟨v3,rfl,o3,b3⟩;obtain⟨g3,c3,rfl,_,hg3',hc3⟩:=o3.base;have HO3:Hid (Own w3 w.heap.size v2 (ys++[0,0,0,0,0,0,0,0])):=by
    obtain⟨hh,g2,c2,e2⟩:=HO2.out;exact own_grow ⟨hh,g2,c2,e2⟩ b3
   have HB3:Hid (Below w.heap.size w w3):=HB2.out.trans (b3.mono HB2.out.size);have HP3:=hid_ofS o3.part;have HLY:Hid ((ys++[0,0,0,0,0,0,0,0]).length+8≤1099511627776):=by show _≤_;rw[List.length_append,HLL.out];simp;omega
   have hsz3:=HB3.out.size;rw[by8_len] at hc3 ⊢;clear o3 b3 A HO2 HB2;go_wp2_with (at_builtin;refine wpList_app _ rfl _ _ rfl w.heap.size _ _ rfl HO3.out ⟨g3,0,none⟩ 8 c3 (by8 (8*(n:Int))) rfl (by8_len _) ?f1 HLY.out ?f3 ?_)
   case f1=>
    intro j' hj';obtain⟨b',o',c',e',_,hcc⟩:=HP3.out;cases e';rw[Addr.add_lit];exact hcc j' (by rw[by8_len];exact hj')
   case f3=>exact hsz3
   intro v4 w4 o4 b4 _;have HO4:Hid (Own w4 w.heap.size v4 (padL zs)):=by rw[HYS.out,List.append_assoc];exact o4
   have HB4:Hid (Below w.heap.size w w4):=HB3.out.trans b4;clear o4 b4 HO3 HB3 HP3;go_wp2
   go_ret
   exact⟨_,rfl,HO4.out,HB4.out⟩
end Go.Proofs.YtapejbpgdjbjjaaGreatDoor
namespace Go.Proofs.YtapejbpgdjbjjaaGreatDoor
open Go.ChangeShapes Go.WideShapes Go.ChangeAt Go.RowKit
set_option linter.unusedVariables false
theorem run_sliceB (w:World) (b o c t:Nat) (ht:t<16) (hc:128≤c):(Instr.sliceAt 22 (.slice (some ⟨b,o,none⟩) 128 c) (some (.int .i64 (8*(t:Int)))) (some (.int .i64 (8*(t:Int)+8))) none).run Tryz.prog w=.ok (.slice (some ⟨b,o+8*t,none⟩) 8 (c-8*t)) w:=by
 have h2:(8*(t:Int)+8)≤(c:Int):=by omega
 have h3:(8*(t:Int)+8).toNat=8*t+8:=by omega
 have h4:¬ (c=8*t):=by omega
 have h5:(8*(t:Int)).toNat=8*t:=by omega
 have h6:(0:Int)≤8*(t:Int):=by omega
 have h7:(0:Int)≤8*(t:Int)+8:=by omega
 unfold Instr.sliceAt
 simp[run_underlying Tryz.underlying22,go_sem,Instr.sliceBounds,h2,h3,h4,h5,h6,h7,Addr.add]
 rw[if_pos (by omega)]
 by_cases h0:t=0
 ·subst h0;simp
 ·rw[if_neg (by omega)]
structure BK (w:World) (bh oh bb ob bk:Nat) (hs bs:List Int):Prop where
 h:bh<w.heap.size∧∀ i,i<8→w.cell? ⟨bh,oh+i,none⟩=some (.int .u64 (hs.getD i 0))
 b:bb<w.heap.size∧∀ i,i<128→w.cell? ⟨bb,ob+i,none⟩=some (.int .u8 (bs.getD i 0))
 k:bk<w.heap.size∧∀ i,i<88→w.cell? ⟨bk,i,none⟩=some (.int .u64 (kt i))
theorem BK.below {w w':World} {bh oh bb ob bk:Nat} {hs bs:List Int} (h:BK w bh oh bb ob bk hs bs) (hb:Below w.heap.size w w'):BK w' bh oh bb ob bk hs bs:=by
 have:=hb.size
 exact⟨⟨by have:=h.h.1;omega,fun i hi=>by rw[World.cell?_of_block (w:=w) (hb.block bh h.h.1)];exact h.h.2 i hi⟩,⟨by have:=h.b.1;omega,fun i hi=>by rw[World.cell?_of_block (w:=w) (hb.block bb h.b.1)];exact h.b.2 i hi⟩,⟨by have:=h.k.1;omega,fun i hi=>by rw[World.cell?_of_block (w:=w) (hb.block bk h.k.1)];exact h.k.2 i hi⟩⟩
theorem rs1 (x:Int) (w:World) (hx:U64 x):Calls Tryz.prog 88 #[.int .u64 x,.int .u64 1] w fun e w'=>e=.returned (.int .u64 (rtr 1 x))∧w'=w:=rotS_any x 1 w (by decide) hx
theorem rs8 (x:Int) (w:World) (hx:U64 x):Calls Tryz.prog 88 #[.int .u64 x,.int .u64 8] w fun e w'=>e=.returned (.int .u64 (rtr 8 x))∧w'=w:=rotS_any x 8 w (by decide) hx
theorem rs19 (x:Int) (w:World) (hx:U64 x):Calls Tryz.prog 88 #[.int .u64 x,.int .u64 19] w fun e w'=>e=.returned (.int .u64 (rtr 19 x))∧w'=w:=rotS_any x 19 w (by decide) hx
theorem rs61 (x:Int) (w:World) (hx:U64 x):Calls Tryz.prog 88 #[.int .u64 x,.int .u64 61] w fun e w'=>e=.returned (.int .u64 (rtr 61 x))∧w'=w:=rotS_any x 61 w (by decide) hx
theorem rs28 (x:Int) (w:World) (hx:U64 x):Calls Tryz.prog 88 #[.int .u64 x,.int .u64 28] w fun e w'=>e=.returned (.int .u64 (rtr 28 x))∧w'=w:=rotS_any x 28 w (by decide) hx
theorem rs34 (x:Int) (w:World) (hx:U64 x):Calls Tryz.prog 88 #[.int .u64 x,.int .u64 34] w fun e w'=>e=.returned (.int .u64 (rtr 34 x))∧w'=w:=rotS_any x 34 w (by decide) hx
theorem rs39 (x:Int) (w:World) (hx:U64 x):Calls Tryz.prog 88 #[.int .u64 x,.int .u64 39] w fun e w'=>e=.returned (.int .u64 (rtr 39 x))∧w'=w:=rotS_any x 39 w (by decide) hx
theorem rs14 (x:Int) (w:World) (hx:U64 x):Calls Tryz.prog 88 #[.int .u64 x,.int .u64 14] w fun e w'=>e=.returned (.int .u64 (rtr 14 x))∧w'=w:=rotS_any x 14 w (by decide) hx
theorem rs18 (x:Int) (w:World) (hx:U64 x):Calls Tryz.prog 88 #[.int .u64 x,.int .u64 18] w fun e w'=>e=.returned (.int .u64 (rtr 18 x))∧w'=w:=rotS_any x 18 w (by decide) hx
theorem rs41 (x:Int) (w:World) (hx:U64 x):Calls Tryz.prog 88 #[.int .u64 x,.int .u64 41] w fun e w'=>e=.returned (.int .u64 (rtr 41 x))∧w'=w:=rotS_any x 41 w (by decide) hx
end Go.Proofs.YtapejbpgdjbjjaaGreatDoor
namespace Go.Proofs.YtapejbpgdjbjjaaGreatDoor
open Go.ChangeShapes Go.WideShapes Go.ChangeAt Go.RowKit
set_option linter.unusedVariables false
def ClG (tb:List (Nat×Nat)) (L:Nat→Bool):Prop:=∀ p,p∈tb→L p.1=true→L p.2=true
theorem updK_neO (L:Nat→Bool) {i j:Nat} (h:j≠i):updK L i j=L j:=by unfold updK;rw[if_neg h]
theorem updK_self (L:Nat→Bool) (i:Nat):updK L i i=true:=by unfold updK;rw[if_pos rfl]
theorem upd_ne (u:Nat→Value) {i j:Nat} (v:Value) (h:j≠i):upd u i v j=u j:=by unfold upd;rw[if_neg h]
theorem upd_self (u:Nat→Value) (i:Nat) (v:Value):upd u i v i=v:=by unfold upd;rw[if_pos rfl]
theorem ClG.step {tb:List (Nat×Nat)} {L:Nat→Bool} (h:ClG tb L) (i:Nat) (hd:∀ p,p∈tb→p.1=i→L p.2=true):ClG tb (updK L i):=by
 intro p hp h1
 have hu:∀ k,L k=true→updK L i k=true:=fun k hk=>by unfold updK;split<;>simp[hk]
 by_cases e:p.1=i
 ·exact hu _ (hd p hp e)
 ·rw[updK_neO L e] at h1;exact hu _ (h p hp h1)
theorem ClG.back {tb:List (Nat×Nat)} {L:Nat→Bool} (h:ClG tb L) {a b:Nat} (hp:(a,b)∈tb) (hb:L b=false):L a=false:=by
 cases ha:L a with
 |false=>rfl
 |true=>have:=h _ hp ha;rw[hb] at this;cases this
theorem ClG.none {tb:List (Nat×Nat)} {L:Nat→Bool} (h:∀ i,L i=false):ClG tb L:=fun p _ h1=>by rw[h] at h1;cases h1
structure AC (tb:List (Nat×Nat)) (b a s:Nat) (V0:Value) (W0 W1:World) (Fin:World→Value→Prop) (L:Nat→Bool) (u:Nat→Value) (w':World):Prop where
 cl:ClG tb L
 old:L s=false→u s=V0
 new:L s=true→u s=u a
 ph:(L a=true∧Fin w' (u a))∨(L a=false∧L b=true∧w'=W1)∨(L a=false∧L b=false∧w'=W0)
section
variable {tb:List (Nat×Nat)} {b a s:Nat} {V0:Value} {W0 W1:World} {Fin:World→Value→Prop} {L:Nat→Bool} {u:Nat→Value} {w':World}
theorem AC.start (h:∀ i,L i=false) (hu:u s=V0):AC tb b a s V0 W0 W1 Fin L u W0:=
 ⟨ClG.none h,fun _=>hu,fun h'=>(by rw[h] at h';cases h'),.inr (.inr ⟨h _,h _,rfl⟩)⟩
theorem AC.pure (h:AC tb b a s V0 W0 W1 Fin L u w') (i:Nat) (v:Value) (hb:b≠i) (ha:a≠i) (hs:s≠i) (hd:∀ p,p∈tb→p.1=i→L p.2=true):AC tb b a s V0 W0 W1 Fin (updK L i) (upd u i v) w':=
 ⟨h.cl.step i hd,by rw[updK_neO L hs,upd_ne u v hs];exact h.old,by rw[updK_neO L hs,upd_ne u v hs,upd_ne u v ha];exact h.new,by rw[updK_neO L ha,updK_neO L hb,upd_ne u v ha];exact h.ph⟩
theorem AC.world (h:AC tb b a s V0 W0 W1 Fin L u w') (hb:L b=false) (hp:(a,b)∈tb):w'=W0:=by
 have ha:=h.cl.back hp hb
 rcases h.ph with⟨h1,_⟩|⟨_,h1,_⟩|⟨_,_,h1⟩
 ·rw[ha] at h1;cases h1
 ·rw[hb] at h1;cases h1
 ·exact h1
theorem AC.build (h:AC tb b a s V0 W0 W1 Fin L u w') (v:Value) (hLb:L b=false) (hp:(a,b)∈tb) (ha:a≠b) (hs:s≠b) (hd:∀ p,p∈tb→p.1=b→L p.2=true):AC tb b a s V0 W0 W1 Fin (updK L b) (upd u b v) W1:=
 ⟨h.cl.step b hd,by rw[updK_neO L hs,upd_ne u v hs];exact h.old,by rw[updK_neO L hs,upd_ne u v hs,upd_ne u v ha];exact h.new,.inr (.inl ⟨by rw[updK_neO L ha];exact h.cl.back hp hLb,updK_self L b,rfl⟩)⟩
theorem AC.mid (h:AC tb b a s V0 W0 W1 Fin L u w') (hb:L b=true) (ha:L a=false):w'=W1:=by
 rcases h.ph with⟨h1,_⟩|⟨_,_,h1⟩|⟨_,h1,_⟩
 ·rw[ha] at h1;cases h1
 ·exact h1
 ·rw[hb] at h1;cases h1
theorem AC.app (h:AC tb b a s V0 W0 W1 Fin L u w') {v:Value} {w9:World} (hF:Fin w9 v) (hLa:L a=false) (hp:(s,a)∈tb) (hs:s≠a) (hd:∀ p,p∈tb→p.1=a→L p.2=true):AC tb b a s V0 W0 W1 Fin (updK L a) (upd u a v) w9:=
 have hls:=h.cl.back hp hLa
 ⟨h.cl.step a hd,by rw[updK_neO L hs,upd_ne u v hs];exact h.old,fun h'=>(by rw[updK_neO L hs,hls] at h';cases h'),.inl ⟨updK_self L a,by rw[upd_self];exact hF⟩⟩
theorem AC.asg (h:AC tb b a s V0 W0 W1 Fin L u w') (ha:a≠s) (hb:b≠s) (hd:∀ p,p∈tb→p.1=s→L p.2=true):AC tb b a s V0 W0 W1 Fin (updK L s) (upd u s (u a)) w':=
 ⟨h.cl.step s hd,fun h'=>(by rw[updK_self] at h';cases h'),fun _=>(by rw[upd_self,upd_ne u _ ha]),by rw[updK_neO L ha,updK_neO L hb,upd_ne u _ ha];exact h.ph⟩
theorem AC.fin (h:AC tb b a s V0 W0 W1 Fin L u w') (ha:L a=true) (hs:L s=true):u s=u a∧Fin w' (u a):=by
 refine⟨h.new hs,?_⟩
 rcases h.ph with⟨_,h1⟩|⟨h1,_⟩|⟨h1,_⟩
 ·exact h1
 ·rw[ha] at h1;cases h1
 ·rw[ha] at h1;cases h1
end
structure AD (tb:List (Nat×Nat)) (b s:Nat) (V0:Value) (W0 W1:World) (L:Nat→Bool) (u:Nat→Value) (w':World):Prop where
 cl:ClG tb L
 old:L s=false→u s=V0
 ph:(L b=true∧w'=W1)∨(L b=false∧w'=W0)
section
variable {tb:List (Nat×Nat)} {b s:Nat} {V0:Value} {W0 W1:World} {L:Nat→Bool} {u:Nat→Value} {w':World}
theorem AD.start (h:∀ i,L i=false) (hu:u s=V0):AD tb b s V0 W0 W1 L u W0:=⟨ClG.none h,fun _=>hu,.inr ⟨h _,rfl⟩⟩
theorem AD.pure (h:AD tb b s V0 W0 W1 L u w') (i:Nat) (v:Value) (hb:b≠i) (hs:s≠i) (hd:∀ p,p∈tb→p.1=i→L p.2=true):AD tb b s V0 W0 W1 (updK L i) (upd u i v) w':=
 ⟨h.cl.step i hd,by rw[updK_neO L hs,upd_ne u v hs];exact h.old,by rw[updK_neO L hb];exact h.ph⟩
theorem AD.world (h:AD tb b s V0 W0 W1 L u w') (hb:L b=false):w'=W0:=by
 rcases h.ph with⟨h1,_⟩|⟨_,h1⟩
 ·rw[hb] at h1;cases h1
 ·exact h1
theorem AD.build (h:AD tb b s V0 W0 W1 L u w') (v:Value) (hs:s≠b) (hd:∀ p,p∈tb→p.1=b→L p.2=true):AD tb b s V0 W0 W1 (updK L b) (upd u b v) W1:=
 ⟨h.cl.step b hd,by rw[updK_neO L hs,upd_ne u v hs];exact h.old,.inl ⟨updK_self L b,rfl⟩⟩
theorem AD.asg (h:AD tb b s V0 W0 W1 L u w') (v:Value) (hb:b≠s) (hd:∀ p,p∈tb→p.1=s→L p.2=true):AD tb b s V0 W0 W1 (updK L s) (upd u s v) w':=
 ⟨h.cl.step s hd,fun h'=>(by rw[updK_self] at h';cases h'),by rw[updK_neO L hb];exact h.ph⟩
theorem AD.fin (h:AD tb b s V0 W0 W1 L u w') (hb:L b=true):w'=W1:=by
 rcases h.ph with⟨_,h1⟩|⟨h1,_⟩
 ·exact h1
 ·rw[hb] at h1;cases h1
end
theorem wp_appU (w:World) {o:Oper} {a:Act} {K:Act→World→Prop} {Q:Exit→Act→World→Prop} (sx x:Operand)
  (hop:o.op=Op.call { callee:=Callee.builtin Builtin.append,args:=#[sx,x],argTypes:=#[80,80] }) (B:Nat) (v:Value) (xs:List Int) (hs:a.eval sx=v) (hown:OwnU w B v xs)
  (b off m c:Nat) (zs:List Int) (hx:a.eval x=.slice (some ⟨b,off,none⟩) m c) (hl:zs.length=m) (hc:∀ i,i<zs.length→w.cell? ⟨b,off+i,none⟩=some (.int .u64 (zs.getD i 0))) (hm:xs.length+m≤1048576) (hB:B≤w.heap.size)
  (hK:∀ v' w',OwnU w' B v' (xs++zs)→Below B w w'→K (a.put o.dst v') w'):o.wp Tryz.prog a w K Q:=by
 obtain⟨i0,hi,hz0,hz1,hz2⟩:=info_parts ktU.info
 have hbase:=hown.base
 obtain⟨v',w',hr,h2,h3,h4,h5⟩:=run_append_own_at (P:=Tryz.prog) w B 80 o.type 50 i0 (.int .u64 0) 1 8 Tryz.underlying80 hi hz0 hz1 hz2 rfl (by decide) v xs.length _ hown.1 ⟨b,off,none⟩ m c (zs.map (Value.int .u64)) (by simp[hl]) (by
  intro j u hu;have hj:j<zs.length:=by have:=(List.getElem?_eq_some_iff.1 hu).1;simpa using this
  rw[Addr.add_lit,hc j hj];simp[hj] at hu;simp[hj,hu]) (ints_oneCell _ _) (by unfold maxLen;omega) (by omega) hB
 obtain⟨g,c0,hv,hBg,_,_⟩:=hbase
 have hbel:Below B w w':=(Below.refl _ _).grown h3 hB (fun k hk=>by rw[hv] at hk;simp[Value.ownBlock] at hk;omega)
 have hk:=hK v' w' ⟨by rw[List.map_append,List.length_append,hl];exact h2,by
  rcases h2.2 with⟨h',h''⟩|⟨g',c',cur,h',_⟩
  ·exact absurd (h4.1 h').1 (by rw[hv];simp)
  ·exact⟨g',c',by rw[h',List.length_append,hl]⟩⟩ hbel
 unfold Oper.wp execOp
 simp only[hop,resolve,invoke,builtin,Sem.run_bind,Sem.run_pure,Result.andThen_ok,List.map_toArray,List.map_cons,List.map_nil,hs,hx,hr]
 exact hk
end Go.Proofs.YtapejbpgdjbjjaaGreatDoor
