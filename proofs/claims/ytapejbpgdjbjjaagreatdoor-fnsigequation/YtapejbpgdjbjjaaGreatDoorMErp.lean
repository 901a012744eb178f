import Derived.Test.YtapejbpgdjbjjaaGreatDoorMEpt
import Derived.Test.YtapejbpgdjbjjaaGreatDoorMVal
import Derived.Test.YtapejbpgdjbjjaaGreatDoorMBase
namespace Go.Proofs.YtapejbpgdjbjjaaGreatDoor
open Go.ChangeShapes Go.WideShapes Go.ChangeAt Go.RowKit
set_option linter.unusedVariables false
set_option maxRecDepth 100000 in
set_option maxHeartbeats 2000000 in
theorem resp_any (r a:Int) (kb ko kc:Nat) (ks:List Int) (w:World) (hr0:0≤r) (hr1:r≤1000) (ha0:0≤a) (ha1:a≤1000) (hl:ks.length=32) (hz:Byte ks) (hb:kb<w.heap.size)
  (hc:∀ i,i<ks.length→w.cell? ⟨kb,ko+i,none⟩=some (.int .u8 (ks.getD i 0))) :
  Calls Tryz.prog 27 #[.int .i64 r,.slice (some ⟨kb,ko,none⟩) 32 kc,.int .i64 a] w (fun e w'=>∃ v,e=.returned v∧TxO w' w.heap.size v 32∧Below w.heap.size w w'):=by
 have HC:=hid_ofE hc
 have HZ:=hid_ofE hz
 clear hc hz
 go_enter Tryz.func27,Tryz.ntmps27
 go_wp2
 go_loopw [7,8,9] (fun v c i wr=>∃(q:Nat) (zs:List Int) (cy:Int),q≤40∧i=.int .i64 q∧c=.int .i64 cy∧0≤cy∧cy≤1000000∧zs.length=q∧Byte zs∧Own wr w.heap.size v zs∧Below w.heap.size w wr) (fun _ _ i _=>40-(intOf i).toNat)
 case atStart=>exact⟨0,[],r,by omega,rfl,rfl,hr0,by omega,rfl,(fun v hv=>by cases hv),Own.empty _ _ (Nat.le_refl _),(Below.refl _ _).alloc (Nat.le_refl _) _⟩
 case round=>
  obtain⟨q,zs,cy,hq,rfl,rfl,c0,c1,zl,zb,hown,hbel⟩:=hrel;have hsz:=hbel.size;by_cases hlt:q<40
  ·have hlt':(q:Int)<40:=by omega
   have HO:=hid_ofE hown;have HB:=hid_ofE hbel;clear hown hbel;by_cases h32:q<32
   ·have h32':(q:Int)<32:=by omega
    have hce:wr.cell? ⟨kb,ko+q,none⟩=some (.int .u8 (ks.getD q 0)):=by rw[HB.out.cell (p:=⟨kb,ko+q,none⟩) hb];exact HC.out q (by omega)
    obtain⟨z0,z1⟩:=getD_byteE HZ.out q;have hm0:0≤ks.getD q 0*a:=Int.mul_nonneg z0 ha0;have hm1:ks.getD q 0*a≤255*1000:=Int.mul_le_mul (by omega) ha1 ha0 (by decide);clear HC HZ;generalize ks.getD q 0=z at *;obtain⟨p,hp⟩:∃ p,z*a=p:=⟨_,rfl⟩
    rw[hp] at hm0 hm1;have e1:wrap64 (z*a)=p:=by rw[hp];unfold wrap64;omega
    clear hp;go_wp2_with (at_builtin;refine wpList_app _ rfl _ _ rfl w.heap.size _ _ rfl (HO.out.alloc _) ⟨wr.heap.size,0,none⟩ 1 1 [(cy+p)%256] rfl rfl ?c1 ?c2 ?c3 ?_);all_goals first|(intro j hj;obtain rfl:j=0:=by omega
                                                                                                                                                                                          simp[Addr.add];done)|skip
    case c2=>simp;omega
    case c3=>first|omega|(rw[World.size_alloc];omega)
    intro v' w2 hown2 hb2 _;have HO2:=hid_ofE hown2;have HB2:Hid (Below w.heap.size w w2):=(HB.out.alloc hsz _).trans hb2;clear hown2 hb2 HO HB;go_wp2;go_roundw
    case rel=>exact⟨q+1,zs++[(cy+p)%256],(cy+p)/256,by omega,by go_num,by go_num,by omega,by omega,by simp;omega,byte_app1 zb (by omega),HO2.out,HB2.out⟩
    case measure=>simp[intOf];omega
   ·have h32':¬ (q:Int)<32:=by omega
    clear HC HZ;go_wp2_with (at_builtin;refine wpList_app _ rfl _ _ rfl w.heap.size _ _ rfl (HO.out.alloc _) ⟨wr.heap.size,0,none⟩ 1 1 [cy%256] rfl rfl ?d1 ?d2 ?d3 ?_);all_goals first|(intro j hj;obtain rfl:j=0:=by omega
                                                                                                                                                                                         simp[Addr.add];done)|skip
    case d2=>first|omega|(simp;omega)
    case d3=>first|omega|(rw[World.size_alloc];omega)
    intro v' w2 hown2 hb2 _;have HO2:=hid_ofE hown2;have HB2:Hid (Below w.heap.size w w2):=(HB.out.alloc hsz _).trans hb2;clear hown2 hb2 HO HB;go_wp2;go_roundw
    case rel=>exact⟨q+1,zs++[cy%256],cy/256,by omega,by go_num,by go_num,by omega,by omega,by simp;omega,byte_app1 zb (by omega),HO2.out,HB2.out⟩
    case measure=>simp[intOf];omega
  ·have hq40:q=40:=by omega
   subst hq40;clear HC HZ;obtain⟨g,c,rfl,_,_,hA⟩:=hown.at2;rw[zl];have HR:=hid_ofE (sred_any (some ⟨g,0,none⟩) 40 c zs wr zl (by decide) hA zb);have HB:=hid_ofE hbel;clear hA hown hbel;go_wp2_with fail;refine HR.out.mono ?_;rintro e w2 ⟨v2,rs,rfl,O2,b2,l2,_,B2⟩;have HF:=hid_ofE (And.intro (TxO.of_own (O2.monoE hsz) l2 b2) (HB.out.trans (B2.mono hsz)));clear HR HB O2 B2;go_wp2
   go_ret
   exact⟨_,rfl,HF.out.1,HF.out.2⟩
def TyPost (w:World) (g:Nat) (x:Option Addr) (n cap:Nat) (e:Ending) (w':World):Prop:=∃ v,e=.returned v∧TxO w' w.heap.size v 32∧CurB w' g x n cap∧WrG g w w'
def tyB:List Int:=[38,232,149,143,194,178,39,176,69,195,244,137,242,239,152,240,213,223,172,5,211,198,51,57,177,56,2,136,109,83,252,5]
theorem tyB_byte:Byte tyB:=by unfold Byte tyB;decide
set_option maxRecDepth 100000 in
set_option maxHeartbeats 2000000 in
theorem tiny_any (g:Nat) (x:Option Addr) (n cap:Nat) (w:World) (hc:CurB w g x n cap) (ht:CurT w g x n) (hg:g<w.heap.size) :
  Calls Tryz.prog 22 #[.pointer (some ⟨g,0,none⟩)] w (TyPost w g x n cap):=by
 go_enter Tryz.func22,Tryz.ntmps22
 go_wp2_with fail
 refine(below_any g x n cap 3 _ hc ht (by decide) (by decide)).mono ?_
 rintro e w1 ⟨k,rfl,hk0,hk1,hc1,hw1⟩
 have S1:Hid (w1.heap.size=w.heap.size):=hw1.size
 have HC1:=hid_ofE hc1
 have HW1:=hid_ofE hw1.wrG
 clear hc ht hc1 hw1
 by_cases hk2:k=2
 ·subst hk2;have s1:=S1.out;have hb0:Below w1.heap.size w1 ((w1.alloc (.cells #[] 5)).alloc (.cells (tyB.map (Value.int .u8)).toArray 5)):=((Below.refl _ _).alloc (Nat.le_refl _) _).alloc (by rw[World.size_alloc];omega) _;have O:=Own.lit (w1.alloc (.cells #[] 5)) w.heap.size tyB (by rw[World.size_alloc];omega) (by decide);rw[World.size_alloc] at O;have HF:=hid_ofE (And.intro O (And.intro (HC1.out.keepE (hb0.block g (by omega))) (HW1.out.trans (WrG.of_below hb0))));clear HC1 HW1 hb0 s1 S1 O;go_wp2
  go_ret
  exact⟨_,rfl,TxO.of_own HF.out.1 rfl tyB_byte,HF.out.2.1,HF.out.2.2⟩
 ·have hk2':(k == 2)=false:=beq_false_of_ne hk2;go_wp2_with fail
  go_loopw [4,5] (fun v i wr=>∃(q:Nat) (zs:List Int),q≤32∧i=.int .i64 q∧zs.length=q∧Byte zs∧Own wr w.heap.size v zs∧CurB wr g x n cap∧WrG g w wr) (fun _ i _=>32-(intOf i).toNat)
  case atStart=>
   have s1:=S1.out;have hb0:=(Below.refl w1.heap.size w1).alloc (Nat.le_refl _) (.cells #[] 5);exact⟨0,[],Nat.zero_le _,rfl,rfl,(fun v hv=>by cases hv),Own.empty w1 w.heap.size (by omega),HC1.out.keepE (hb0.block g (by omega)),HW1.out.trans (WrG.of_below hb0)⟩
  case round=>
   clear HC1 HW1 S1;obtain⟨q,zs,hq,rfl,zl,zb,hown,hcu,hwr⟩:=hrel;have hsz:=hwr.size;by_cases hlt:q<32
   ·have hlt':(q:Int)<32:=by omega
    have HS:=hid_ofE (And.intro hown (And.intro hcu hwr));clear hown hcu hwr;by_cases hk0':k=0
    ·subst hk0';go_wp2_with (at_builtin;refine wpList_app _ rfl _ _ rfl w.heap.size _ _ rfl (HS.out.1.alloc _) ⟨wr.heap.size,0,none⟩ 1 1 [0] rfl rfl ?c1 ?c2 ?c3 ?_);all_goals first|(intro j hj;obtain rfl:j=0:=by omega
                                                                                                                                                                                      simp[Addr.add];done)|skip
     case c2=>simp;omega
     case c3=>first|omega|(rw[World.size_alloc];omega)
     intro v' w3 hown' hb' _;have hb3:Below w.heap.size wr w3:=((Below.refl _ _).alloc hsz _).trans hb';have HO:=hid_ofE (And.intro hown' (And.intro (HS.out.2.1.keepE (hb3.block g hg)) (HS.out.2.2.bel hb3)));clear HS hown' hb' hb3;go_wp2;go_roundw
     case rel=>exact⟨q+1,zs++[0],by omega,by go_num,by simp;omega,byte_app1 zb (by omega),HO.out.1,HO.out.2.1,HO.out.2.2⟩
     case measure=>simp[intOf];omega
    ·have hk0f:(k == 0)=false:=beq_false_of_ne hk0';go_wp2_with (at_builtin;refine wpList_app _ rfl _ _ rfl w.heap.size _ _ rfl (HS.out.1.alloc _) ⟨wr.heap.size,0,none⟩ 1 1 [255] rfl rfl ?d1 ?d2 ?d3 ?_);all_goals first|(intro j hj;obtain rfl:j=0:=by omega
                                                                                                                                                                                                                            simp[Addr.add];done)|skip
     case d2=>first|omega|(simp;omega)
     case d3=>first|omega|(rw[World.size_alloc];omega)
     intro v' w3 hown' hb' _;have hb3:Below w.heap.size wr w3:=((Below.refl _ _).alloc hsz _).trans hb';have HO:=hid_ofE (And.intro hown' (And.intro (HS.out.2.1.keepE (hb3.block g hg)) (HS.out.2.2.bel hb3)));clear HS hown' hb' hb3;go_wp2;go_roundw
     case rel=>exact⟨q+1,zs++[255],by omega,by go_num,by simp;omega,byte_app1 zb (by omega),HO.out.1,HO.out.2.1,HO.out.2.2⟩
     case measure=>simp[intOf];omega
   ·have hq32:q=32:=by omega
    subst hq32;by_cases hk1':k=1
    ·subst hk1';obtain⟨q,cq,rfl,hq,hq',hqc⟩:=hown.base;rw[zl] at hown hqc ⊢;have h31:31≤cq:=by omega
     have h0:0≤cq:=by omega
     obtain⟨c1,f1,q1⟩:=hown.setE zl 0 236 (by decide);have l1:(zs.set 0 236).length=32:=by rw[List.length_set];exact zl
     obtain⟨c2,f2,q2⟩:=q1.setE l1 31 127 (by decide);have HF:=hid_ofE (And.intro q2 (And.intro ((hcu.keepE (w':=wr.setCell ⟨q,0,none⟩ (.int .u8 236)) (heap_setCell_other _ _ _ _ (by show g≠q;omega))).keepE (w':=(wr.setCell ⟨q,0,none⟩ (.int .u8 236)).setCell ⟨q,31,none⟩ (.int .u8 127)) (heap_setCell_other _ _ _ _ (by show g≠q;omega)))
      ((hwr.bel (below_setE (i:=0) (v:=.int .u8 236) hq)).bel (below_setE (i:=31) (v:=.int .u8 127) hq))))
     clear hown hcu hwr q1 q2;go_wp2
     go_ret
     exact⟨_,rfl,TxO.of_own HF.out.1 (by rw[List.length_set];exact l1) (byte_setE (byte_setE zb 0 (by omega)) 31 (by omega)),HF.out.2.1,HF.out.2.2⟩
    ·have hk1f:(k == 1)=false:=beq_false_of_ne hk1';have HF:=hid_ofE (And.intro hown (And.intro hcu hwr));clear hown hcu hwr;go_wp2
     go_ret
     exact⟨_,rfl,TxO.of_own HF.out.1 zl zb,HF.out.2.1,HF.out.2.2⟩
end Go.Proofs.YtapejbpgdjbjjaaGreatDoor
namespace Go.Proofs.YtapejbpgdjbjjaaGreatDoor
open Go.ChangeShapes Go.WideShapes Go.ChangeAt Go.RowKit
set_option linter.unusedVariables false
theorem flat_snoc (zss:List (List Int)) (k:Nat) (h:k<zss.length):(zss.take (k+1)).flatten=(zss.take k).flatten++zss.getD k []:=by
 rw[List.take_succ_eq_append_getElem h,List.flatten_append]
 simp[h]
theorem flat_le (zss:List (List Int)) (k:Nat):(zss.take k).flatten.length≤zss.flatten.length:=by
 conv=>rhs;rw[←List.take_append_drop k zss]
 rw[List.flatten_append,List.length_append];omega
end Go.Proofs.YtapejbpgdjbjjaaGreatDoor
namespace Go.Proofs.YtapejbpgdjbjjaaGreatDoor
open Go.ChangeShapes Go.WideShapes Go.ChangeAt Go.RowKit
set_option linter.unusedVariables false
set_option maxHeartbeats 400000 in
theorem cat_any (p m cap:Nat) (vs:List Value) (zss:List (List Int)) (w:World) (hm:zss.length=m) (hp:p<w.heap.size) (hc:∀ i,i<m→w.cell? ⟨p,i,none⟩=some (vs.getD i undef))
  (hz:∀ i,i<m→Part w (vs.getD i undef) (zss.getD i [])) (ht:zss.flatten.length≤2097152) (hm':m≤1048576) :
  Calls Tryz.prog 26 #[.slice (some ⟨p,0,none⟩) m cap] w fun e w'=>∃ v,e=.returned v∧Own w' w.heap.size v zss.flatten∧Below w.heap.size w w':=by
 go_enter Tryz.func26,Tryz.ntmps26
 go_wp2
 go_loopw [3,4] (fun v i wr=>∃ k:Nat,k≤m∧i=.int .i64 k∧Own wr w.heap.size v (zss.take k).flatten∧Below w.heap.size w wr) (fun _ i _=>m-(intOf i).toNat)
 case atStart=>exact⟨0,Nat.zero_le _,rfl,Own.empty _ _ (Nat.le_refl _),(Below.refl _ _).alloc (Nat.le_refl _) _⟩
 case round=>
  obtain⟨k,hk,rfl,hown,hbel⟩:=hrel;by_cases hlt:k<m
  ·have hsz:=hbel.size;obtain⟨b,o,c,hv,hb,hcell⟩:=hz k hlt;have hck:wr.cell? ⟨p,k,none⟩=some (.slice (some ⟨b,o,none⟩) (zss.getD k []).length c):=by rw[hbel.cell (p:=⟨p,k,none⟩) hp,hc k hlt,hv]
   have hnews:∀ j,j<(zss.getD k []).length→wr.cell? ((⟨b,o,none⟩:Addr).add j)=some (.int .u8 ((zss.getD k []).getD j 0)):=by
    intro j hj;rw[Addr.add_lit,hbel.cell (p:=⟨b,o+j,none⟩) hb];exact hcell j hj
   have hfl:=flat_snoc zss k (by omega);have hle:=flat_le zss (k+1);have hle2:(zss.take k).flatten.length+(zss.getD k []).length≤2097152:=by rw[hfl,List.length_append] at hle;omega
   have HF:Hid _:=hfl;clear hfl hle hv hcell hc hz;generalize zss.getD k []=z at *;generalize (zss.take k).flatten=y at *;generalize hzl:z.length=zl at *;have HL:Hid _:=hzl;clear hzl;have HN:Hid _:=hnews;clear hnews;go_wp2_with (at_builtin;refine wpList_app _ rfl _ _ rfl w.heap.size _ _ rfl hown ⟨b,o,none⟩ _ _ z rfl HL.out HN.out ?c2 ?c3 ?_)
   case c2=>omega
   case c3=>omega
   intro v' w1 hown' hbel' _;have HO:Hid (Own w1 w.heap.size v' (zss.take (k+1)).flatten):=by rw[HF.out];exact hown'
   have HB:Hid (Below w.heap.size w w1):=hbel.trans hbel';clear hown hown' hbel hbel';go_wp2;go_roundw
   case rel=>exact⟨k+1,by omega,by go_num,HO.out,HB.out⟩
   case measure=>simp[intOf];omega
  ·have hkn:zss.take k=zss:=List.take_of_length_le (by omega);rw[hkn] at hown;have HO:Hid _:=hown;clear hown hkn;go_wp2
   go_ret
   exact⟨_,rfl,HO.out,hbel⟩
end Go.Proofs.YtapejbpgdjbjjaaGreatDoor
namespace Go.Proofs.YtapejbpgdjbjjaaGreatDoor
open Go.ChangeShapes Go.WideShapes Go.ChangeAt Go.RowKit
set_option linter.unusedVariables false
def rtr (n:Nat) (x:Int):Int:=bits .or .u64 (x/2^n) (IntKind.u64.wrap (x*2^(64-n)))
theorem bor_comm (x y:Int):bits .or .u64 x y=bits .or .u64 y x:=by
 show IntKind.u64.wrap ((BitVec.ofInt 64 x ||| BitVec.ofInt 64 y).toNat:Int)=IntKind.u64.wrap ((BitVec.ofInt 64 y ||| BitVec.ofInt 64 x).toNat:Int)
 rw[BitVec.or_comm]
def U64 (x:Int):Prop:=0≤x∧x<18446744073709551616
theorem u64_wrap (n:Int):U64 (IntKind.u64.wrap n):=by unfold U64;rw[IntKind.wrap_u64];omega
theorem bits_u64 (o:BinOp) (x y:Int):U64 (bits o .u64 x y):=by unfold bits;cases o<;>exact u64_wrap _
theorem rtr_u64 (n:Nat) (x:Int):U64 (rtr n x):=bits_u64 _ _ _
def rotN:List Nat:=[1,8,19,61,28,34,39,14,18,41]
theorem and63:∀ n∈rotN,bits .and .u64 (18446744073709551616-(n:Int)) 63=64-(n:Int):=by decide +kernel
set_option maxHeartbeats 400000 in
theorem rotI_any (x:Int) (n:Nat) (w:World) (hn:n∈rotN) (hx:U64 x) :
  Calls Tryz.prog 114 #[.int .u64 x,.int .i64 n] w fun e w'=>e=.returned (.int .u64 (rtr n x))∧w'=w:=by
 have hb:1≤n∧n≤63:=by
  simp only[rotN,List.mem_cons,List.not_mem_nil,or_false] at hn;omega
 have h63:=and63 n hn
 obtain⟨hx0,hx1⟩:=hx
 have hr:Calls Tryz.prog 116 #[.int .u64 x,.int .i64 (-(n:Int))] w fun e w'=>e=.returned (.int .u64 (rtr n x))∧w'=w:=by
  have hw:IntKind.u64.wrap (-(n:Int))=18446744073709551616-(n:Int):=by rw[IntKind.wrap_u64];omega
  have HE:Hid (bits .or .u64 (IntKind.u64.wrap (x*2^(64-n))) (x/2^(64-(64-n)))=rtr n x):=by
   show _=_
   rw[bor_comm,show 64-(64-n)=n by omega];rfl
  go_enter Tryz.func116,Tryz.ntmps116;go_wp2
  go_ret
  exact⟨ret_int HE.out,rfl⟩
 go_enter Tryz.func114,Tryz.ntmps114
 go_wp2_with fail
 refine hr.mono ?_
 rintro e w1 ⟨rfl,rfl⟩
 go_wp2
 go_ret
 exact⟨rfl,rfl⟩
set_option maxHeartbeats 400000 in
theorem rotS_any (x:Int) (n:Nat) (w:World) (hn:n∈rotN) (hx:U64 x) :
  Calls Tryz.prog 88 #[.int .u64 x,.int .u64 n] w fun e w'=>e=.returned (.int .u64 (rtr n x))∧w'=w:=by
 have hb:1≤n∧n≤63:=by
  simp only[rotN,List.mem_cons,List.not_mem_nil,or_false] at hn;omega
 obtain⟨hx0,hx1⟩:=hx
 go_enter Tryz.func88,Tryz.ntmps88
 go_wp2
 go_ret
 exact⟨rfl,rfl⟩
def sg0 (x:Int):Int:=bits .xor .u64 (bits .xor .u64 (rtr 1 x) (rtr 8 x)) (x/128)
def sg1 (x:Int):Int:=bits .xor .u64 (bits .xor .u64 (rtr 19 x) (rtr 61 x)) (x/64)
def bg0 (x:Int):Int:=bits .xor .u64 (bits .xor .u64 (rtr 28 x) (rtr 34 x)) (rtr 39 x)
def bg1 (x:Int):Int:=bits .xor .u64 (bits .xor .u64 (rtr 14 x) (rtr 18 x)) (rtr 41 x)
theorem sg0_u64 (x:Int):U64 (sg0 x):=bits_u64 _ _ _
theorem sg1_u64 (x:Int):U64 (sg1 x):=bits_u64 _ _ _
theorem bg0_u64 (x:Int):U64 (bg0 x):=bits_u64 _ _ _
theorem bg1_u64 (x:Int):U64 (bg1 x):=bits_u64 _ _ _
theorem hid_ofS {p:Prop} (h:p):Hid p:=h
set_option maxHeartbeats 400000 in
theorem s0_any (x:Int) (w:World) (hx:U64 x) :
  Calls Tryz.prog 102 #[.int .u64 x] w fun e w'=>e=.returned (.int .u64 (sg0 x))∧w'=w:=by
 have HX:Hid (U64 x):=hx
 have HD:Hid (sg0 x=bits .xor .u64 (bits .xor .u64 (rtr 1 x) (rtr 8 x)) (x/128)):=rfl
 obtain⟨hx0,hx1⟩:=hx
 have C1:=hid_ofS (rotI_any x 1 w (by decide) HX.out)
 have C8:=hid_ofS (rotI_any x 8 w (by decide) HX.out)
 go_enter Tryz.func102,Tryz.ntmps102
 go_wp2_with fail
 refine C1.out.mono ?_
 rintro e w1 ⟨rfl,hw1⟩
 subst w1
 obtain⟨r1,hr1⟩:∃ r,rtr 1 x=r:=⟨_,rfl⟩
 have u1:U64 r1:=by rw[←hr1];exact rtr_u64 _ _
 rw[hr1] at HD ⊢
 obtain⟨u10,u11⟩:=u1
 clear hr1 C1
 go_wp2_with fail
 refine C8.out.mono ?_
 rintro e w8 ⟨rfl,hw8⟩
 subst w8
 obtain⟨r8,hr8⟩:∃ r,rtr 8 x=r:=⟨_,rfl⟩
 have u8:U64 r8:=by rw[←hr8];exact rtr_u64 _ _
 rw[hr8] at HD ⊢
 obtain⟨u80,u81⟩:=u8
 clear hr8 C8
 go_wp2
 go_ret
 exact⟨ret_int HD.out.symm,rfl⟩
set_option maxHeartbeats 400000 in
theorem s1_any (x:Int) (w:World) (hx:U64 x) :
  Calls Tryz.prog 101 #[.int .u64 x] w fun e w'=>e=.returned (.int .u64 (sg1 x))∧w'=w:=by
 have HX:Hid (U64 x):=hx
 have HD:Hid (sg1 x=bits .xor .u64 (bits .xor .u64 (rtr 19 x) (rtr 61 x)) (x/64)):=rfl
 obtain⟨hx0,hx1⟩:=hx
 have C19:=hid_ofS (rotI_any x 19 w (by decide) HX.out)
 have C61:=hid_ofS (rotI_any x 61 w (by decide) HX.out)
 go_enter Tryz.func101,Tryz.ntmps101
 go_wp2_with fail
 refine C19.out.mono ?_
 rintro e w19 ⟨rfl,hw19⟩
 subst w19
 obtain⟨r19,hr19⟩:∃ r,rtr 19 x=r:=⟨_,rfl⟩
 have u19:U64 r19:=by rw[←hr19];exact rtr_u64 _ _
 rw[hr19] at HD ⊢
 obtain⟨u190,u191⟩:=u19
 clear hr19 C19
 go_wp2_with fail
 refine C61.out.mono ?_
 rintro e w61 ⟨rfl,hw61⟩
 subst w61
 obtain⟨r61,hr61⟩:∃ r,rtr 61 x=r:=⟨_,rfl⟩
 have u61:U64 r61:=by rw[←hr61];exact rtr_u64 _ _
 rw[hr61] at HD ⊢
 obtain⟨u610,u611⟩:=u61
 clear hr61 C61
 go_wp2
 go_ret
 exact⟨ret_int HD.out.symm,rfl⟩
set_option maxHeartbeats 400000 in
theorem b0_any (x:Int) (w:World) (hx:U64 x) :
  Calls Tryz.prog 104 #[.int .u64 x] w fun e w'=>e=.returned (.int .u64 (bg0 x))∧w'=w:=by
 have HX:Hid (U64 x):=hx
 have HD:Hid (bg0 x=bits .xor .u64 (bits .xor .u64 (rtr 28 x) (rtr 34 x)) (rtr 39 x)):=rfl
 obtain⟨hx0,hx1⟩:=hx
 have C28:=hid_ofS (rotI_any x 28 w (by decide) HX.out)
 have C34:=hid_ofS (rotI_any x 34 w (by decide) HX.out)
 have C39:=hid_ofS (rotI_any x 39 w (by decide) HX.out)
 go_enter Tryz.func104,Tryz.ntmps104
 go_wp2_with fail
 refine C28.out.mono ?_
 rintro e w28 ⟨rfl,hw28⟩
 subst w28
 obtain⟨r28,hr28⟩:∃ r,rtr 28 x=r:=⟨_,rfl⟩
 have u28:U64 r28:=by rw[←hr28];exact rtr_u64 _ _
 rw[hr28] at HD ⊢
 obtain⟨u280,u281⟩:=u28
 clear hr28 C28
 go_wp2_with fail
 refine C34.out.mono ?_
 rintro e w34 ⟨rfl,hw34⟩
 subst w34
 obtain⟨r34,hr34⟩:∃ r,rtr 34 x=r:=⟨_,rfl⟩
 have u34:U64 r34:=by rw[←hr34];exact rtr_u64 _ _
 rw[hr34] at HD ⊢
 obtain⟨u340,u341⟩:=u34
 clear hr34 C34
 go_wp2_with fail
 refine C39.out.mono ?_
 rintro e w39 ⟨rfl,hw39⟩
 subst w39
 obtain⟨r39,hr39⟩:∃ r,rtr 39 x=r:=⟨_,rfl⟩
 have u39:U64 r39:=by rw[←hr39];exact rtr_u64 _ _
 rw[hr39] at HD ⊢
 obtain⟨u390,u391⟩:=u39
 clear hr39 C39
 go_wp2
 go_ret
 exact⟨ret_int HD.out.symm,rfl⟩
set_option maxHeartbeats 400000 in
theorem b1_any (x:Int) (w:World) (hx:U64 x) :
  Calls Tryz.prog 103 #[.int .u64 x] w fun e w'=>e=.returned (.int .u64 (bg1 x))∧w'=w:=by
 have HX:Hid (U64 x):=hx
 have HD:Hid (bg1 x=bits .xor .u64 (bits .xor .u64 (rtr 14 x) (rtr 18 x)) (rtr 41 x)):=rfl
 obtain⟨hx0,hx1⟩:=hx
 have C14:=hid_ofS (rotI_any x 14 w (by decide) HX.out)
 have C18:=hid_ofS (rotI_any x 18 w (by decide) HX.out)
 have C41:=hid_ofS (rotI_any x 41 w (by decide) HX.out)
 go_enter Tryz.func103,Tryz.ntmps103
 go_wp2_with fail
 refine C14.out.mono ?_
 rintro e w14 ⟨rfl,hw14⟩
 subst w14
 obtain⟨r14,hr14⟩:∃ r,rtr 14 x=r:=⟨_,rfl⟩
 have u14:U64 r14:=by rw[←hr14];exact rtr_u64 _ _
 rw[hr14] at HD ⊢
 obtain⟨u140,u141⟩:=u14
 clear hr14 C14
 go_wp2_with fail
 refine C18.out.mono ?_
 rintro e w18 ⟨rfl,hw18⟩
 subst w18
 obtain⟨r18,hr18⟩:∃ r,rtr 18 x=r:=⟨_,rfl⟩
 have u18:U64 r18:=by rw[←hr18];exact rtr_u64 _ _
 rw[hr18] at HD ⊢
 obtain⟨u180,u181⟩:=u18
 clear hr18 C18
 go_wp2_with fail
 refine C41.out.mono ?_
 rintro e w41 ⟨rfl,hw41⟩
 subst w41
 obtain⟨r41,hr41⟩:∃ r,rtr 41 x=r:=⟨_,rfl⟩
 have u41:U64 r41:=by rw[←hr41];exact rtr_u64 _ _
 rw[hr41] at HD ⊢
 obtain⟨u410,u411⟩:=u41
 clear hr41 C41
 go_wp2
 go_ret
 exact⟨ret_int HD.out.symm,rfl⟩
end Go.Proofs.YtapejbpgdjbjjaaGreatDoor
