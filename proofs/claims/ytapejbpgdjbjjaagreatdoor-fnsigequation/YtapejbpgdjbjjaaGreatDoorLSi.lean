import Derived.Test.YtapejbpgdjbjjaaGreatDoorEdv
import Derived.Test.YtapejbpgdjbjjaaGreatDoorVsS
import Derived.Test.YtapejbpgdjbjjaaGreatDoorVsI
import Derived.Test.YtapejbpgdjbjjaaGreatDoorMGr
import Derived.Test.YtapejbpgdjbjjaaGreatDoorMIRed
import Derived.Test.YtapejbpgdjbjjaaGreatDoorMPOs
import Derived.Test.YtapejbpgdjbjjaaGreatDoorTie
import Derived.Test.YtapejbpgdjbjjaaGreatDoorCards
import Derived.WalkKit
import Derived.ProofKit
import Derived.OpenShut
import Derived.ShutString
import Derived.ChangeOld
import Derived.Below
import Derived.OpenVars
import Derived.ChangeVars
import Derived.LaidMore
import Derived.Lay
import Derived.SevenTiedAt
import Derived.Stop.Joined
namespace Go.Proofs.YtapejbpgdjbjjaaGreatDoor.lsi
open Go.ChangeShapes Go.WideShapes Go.ChangeAt Go.RowKit
open Go.ChangeMaps (open_string shut_string)
set_option linter.unusedVariables false
theorem own:ownKnob Tryz.prog.godebug=none:=by kernel_rfl
theorem laidOut:laidOutB Tryz.prog=true:=by kernel_rfl
abbrev laid : List (String × DataW Unit) := [("loop.example/s02127/impl.roundConstants", Rows.laid_loop_example_s02127_impl_roundConstants)]
theorem laid_eq:(Rows.laid_loop_example_s02127_impl_roundConstants:DataW Unit)=.agg (tab.map fun n:Nat=>.lit (.int .u64 (n:Int))):=by kernel_rfl
theorem tab_len:tab.length=88:=by kernel_rfl
theorem tab_cell {W:World} (h:laidMetH Tryz.prog laid W):TabIn W:=by
 intro r hr
 rw[MakeChecks.laidMetH_plain _ _ _ (by kernel_rfl)] at h
 obtain⟨ps,⟨g,t,cs,fuel,p,q,hg,ht,hv,hd,_,_⟩,_,_⟩:=h
 obtain rfl := Option.some.inj ((show Tryz.prog.globalNamed "loop.example/s02127/impl.roundConstants" = some 0 by kernel_rfl).symm.trans hg)
 obtain rfl:=Option.some.inj ((show(Tryz.prog.globals[0]?).map (·.type)=some 102 by kernel_rfl).symm.trans ht)
 rw[laid_eq] at hd
 obtain⟨xs,m,_,ex,_,hl,hel⟩:=DataW.trod_array Tryz.underlying102 hd
 have c5:Tryz.prog.cellsOf 50=1:=by kernel_rfl
 have hE:=hel r hr
 rw[c5,Nat.mul_one,List.getElem?_eq_getElem (by omega)] at hE
 obtain⟨z,e1,e2,_⟩:=DataW.trod_int Tryz.underlying50 hE
 have hlen:=tab_len
 have e3:(xs.map (·.1))=tab.map fun n:Nat=>.lit (.int .u64 (n:Int)):=(DataW.agg.inj (Prod.mk.inj ex).1).symm
 have e4:(xs.map (·.1))[r]?=(tab.map fun n:Nat=>(DataW.lit (.int .u64 (n:Int)):DataW Unit))[r]?:=by rw[e3]
 rw[List.getElem?_map,List.getElem?_map,List.getElem?_eq_getElem (by omega:r<xs.length),List.getElem?_eq_getElem (by omega:r<tab.length),e2] at e4
 have hz:z=(tab.getD r 0:Nat):=by
  simp only[Option.map_some,Option.some.injEq,DataW.lit.injEq,Lit.int.injEq,true_and] at e4;rw[e4,List.getD,List.getElem?_eq_getElem (by omega:r<tab.length)];rfl
 rw[World.var?_cell hg hv r,←hz]
 have:cs.toList[r]?=some (.int .u64 z):=by
  have h0:((cs.toList.drop r).take 1)[0]?=some (.int .u64 z):=by rw[e1];rfl
  simpa using h0
 simpa using this
def IsRow (k:IntKind) (w:World) (a:Option Addr) (len cap:Nat) (zs:List Int):Prop:=
 (a=none∧len=0∧cap=0∧zs=[])∨
 ∃ x,a=some x∧len≤cap∧cap≤maxLen∧zs.length=cap∧(∀ i,i<zs.length→w.cell? (x.add i)=some (.int k (zs.getD i 0)))∧∀ n∈zs,(Lit.int k n).wf=true
theorem IsRow.at_ {w:World} {a:Option Addr} {len cap:Nat} {z:List Int} (h:IsRow .u8 w a len cap z):∃ zs,zs.length=len∧Byte zs∧At .u8 w a zs:=by
 rcases h with⟨rfl,rfl,rfl,rfl⟩|⟨x,rfl,hl,hm,hz,hc,hw⟩
 ·exact⟨[],rfl,by simp[Byte],.inl rfl⟩
 ·refine⟨z.take len,by simp;omega,fun n hn=>?_,?_⟩
  ·have:=hw n (List.mem_of_mem_take hn);simp[Lit.wf,IntKind.min,IntKind.max,IntKind.signed,IntKind.bits] at this;omega
  ·by_cases h0:len=0
   ·left;simp[h0]
   ·right;obtain⟨b,off,spot⟩:=x;have hc0:=hc 0 (by omega);have hs:spot=none:=by simpa[Addr.add] using World.cell?_spot hc0
    subst hs;refine⟨b,off,rfl,block_lt_of_cell (a:=(⟨b,off,none⟩:Addr).add 0) hc0,fun i hi=>?_⟩;have hi':i<len:=by simp at hi;omega
    have:=hc i (by omega);rw[Addr.add_lit] at this;rw[this];simp[List.getD,hi']
theorem pta_own {w:World} {B g m c:Nat} {zs:List Int} (h:Own w B (.slice (some ⟨g,0,none⟩) m c) zs):PtA w g 0 zs:=by obtain⟨g',c',e,hA,_⟩:=PtA.of_own h;cases e;exact hA
def BpV (w:World) (v:Value):Prop:=∃ g c,v=.slice (some ⟨g,0,none⟩) 32 c∧PtA w g 0 bB
theorem BpV.below {w w':World} {v:Value} (h:BpV w v) (hb:Below w.heap.size w w'):BpV w' v:=by obtain⟨g,c,e,h1⟩:=h;exact⟨g,c,e,h1.below hb⟩
def RzV (zs:List Int) (w:World) (v:Value):Prop:=∃ a c,v=.slice a 32 c∧At .u8 w a zs
theorem RzV.below {zs:List Int} {w w':World} {v:Value} (h:RzV zs w v) (hb:Below w.heap.size w w'):RzV zs w' v:=by obtain⟨a,c,e,h1⟩:=h;exact⟨a,c,e,h1.below hb⟩
theorem RzV.of {B:Nat} {zs:List Int} {w:World} {v:Value} (h:ResO B w v zs) (hl:zs.length=32):RzV zs w v:=by obtain⟨a,c,e,h1,_⟩:=h;rw[hl] at e;exact⟨a,c,e,h1⟩
set_option maxRecDepth 100000 in
set_option maxHeartbeats 8000000 in
theorem walk (a0:Option Addr) (len0 cap0:Nat) (z0:List Int) (w:World) (w0:IsRow .u8 w a0 len0 cap0 z0) (hT:TabIn w) (h00:0<w.heap.size) :
  Calls Tryz.prog 3 #[.slice a0 len0 cap0] w fun e w'=>e=.returned (.bool true)∧Below w.heap.size w w':=by
 by_cases hl:(1048576:Int)<(len0:Int)
 ·go_enter Tryz.func3,Tryz.ntmps3;go_wp2
  go_ret
  exact⟨rfl,Below.refl _ _⟩
 have hl':len0≤1048576:=by omega
 obtain⟨xs,hn,hz,ha⟩:=IsRow.at_ w0
 have HT:=hid_ofE (And.intro hT h00)
 have HD:=hid_ofE (drawVs_any a0 len0 cap0 xs w hn hl' hz ha)
 clear w0 hT h00 ha hz hn
 go_enter Tryz.func3,Tryz.ntmps3
 go_wp2_with fail
 refine HD.out.mono ?_
 rintro e w1 ⟨gp,np,cp,ps,gm,nm,cm,ms,gs,ns,cs,ss,rfl,Tp,Tm,Ts,B1⟩
 have pl:=Tp.len
 have ml:=Tm.len
 have sl:=Ts.len
 have hp:=Tp.top
 have hm:=Tm.top
 have hs:=Ts.top
 have hcs:=Ts.cap
 have HI1:=hid_ofE (And.intro Tp (And.intro Tm (And.intro Ts B1)))
 have HZ:=hid_ofE (And.intro Tp.byte (And.intro Tm.byte Ts.byte))
 clear HD Tp Tm Ts B1
 go_wp2_with fail
 refine(vsS_any gp 0 cp gm 0 cm gs 0 cs np nm ns ps ms ss _ pl ml sl HI1.out.1.at_ HI1.out.2.1.at_ HI1.out.2.2.1.at_ HZ.out.1 HZ.out.2.1 HZ.out.2.2 hcs (by omega) (by omega) (by omega)).mono ?_
 rintro e w2 ⟨rfl,B2⟩
 have HI2:=hid_ofE (And.intro (HI1.out.1.below B2) (And.intro (HI1.out.2.1.below B2) (And.intro (HI1.out.2.2.1.below B2) (HI1.out.2.2.2.trans (B2.mono HI1.out.2.2.2.size)))))
 obtain⟨vr,hvr⟩:∃ v,v=vsR ps ms ss:=⟨_,rfl⟩
 rw[←hvr]
 have HVR:=hid_ofE hvr
 clear B2 HI1 hvr
 go_wp2_with fail
 refine(vsI_any gp 0 cp gm 0 cm gs 0 cs np nm ns ps ms ss _ pl ml sl HI2.out.1.at_ HI2.out.2.1.at_ HI2.out.2.2.1.at_ HZ.out.1 HZ.out.2.1 HZ.out.2.2 hcs (by omega) (by omega) (by omega) (tab_keepV HT.out.1 HT.out.2 HI2.out.2.2.2) (Nat.lt_of_lt_of_le HT.out.2 HI2.out.2.2.2.size)).mono ?_
 rintro e w3 ⟨rfl,B3⟩
 have HI3:=hid_ofE (And.intro (HI2.out.1.below B3) (And.intro (HI2.out.2.1.below B3) (And.intro (HI2.out.2.2.1.below B3) (HI2.out.2.2.2.trans (B3.mono HI2.out.2.2.2.size)))))
 rw[←HVR.out]
 have hne:(vr != vr)=false:=by simp
 clear B3 HI2
 by_cases h64:ns=64
 ·subst h64;have h64':((64:Int) != 64)=false:=by simp
  have htl:(ss.take 32).length=32:=by rw[List.length_take,sl];rfl
  have hdl:(ss.drop 32).length=32:=by rw[List.length_drop,sl]
  have hlo:=fun w=>run_sliceLo w gs 0 cs hcs
  have hhi:∀ w',(Instr.sliceAt 22 (.slice (some ⟨gs,0,none⟩) 64 cs) (some (.int .i64 32)) none none).run Tryz.prog w'=.ok (.slice (some ⟨gs,32,none⟩) 32 (cs-32)) w':=fun w'=>by have:=run_sliceHi w' gs 0 cs hcs;simpa using this
  go_wp2_with fail;refine(spk_any _ np cp ps _ pl (by omega) HI3.out.1.at_.at_ HZ.out.1).mono ?_;rintro e w4 ⟨rfl,B4⟩;have HI4:=hid_ofE (And.intro (HI3.out.1.below B4) (And.intro (HI3.out.2.1.below B4) (And.intro (HI3.out.2.2.1.below B4) (HI3.out.2.2.2.trans (B4.mono HI3.out.2.2.2.size)))));clear B4 HI3;cases hq1:mB ps mdD with
  |false=>
   have hf:vr=false:=by rw[HVR.out];exact vsR_p hq1
   subst hf;go_wp2
   go_ret
   exact⟨rfl,HI4.out.2.2.2⟩
  |true=>
   have hnp:np=32:=by rw[←pl];exact(mB_len2 hq1).1
   subst hnp;go_wp2_with fail;refine(spk_any _ 32 cs (ss.take 32) _ htl (by decide) (HI4.out.2.2.1.at_.take 32).at_ (byte_take HZ.out.2.2 32)).mono ?_;rintro e w5 ⟨rfl,B5⟩;have HI5:=hid_ofE (And.intro (HI4.out.1.below B5) (And.intro (HI4.out.2.1.below B5) (And.intro (HI4.out.2.2.1.below B5) (HI4.out.2.2.2.trans (B5.mono HI4.out.2.2.2.size)))));clear B5 HI4;cases hq2:mB (ss.take 32) mdD with
   |false=>
    have hf:vr=false:=by rw[HVR.out];exact vsR_r hq2
    subst hf;go_wp2
    go_ret
    exact⟨rfl,HI5.out.2.2.2⟩
   |true=>
    go_wp2_with fail;refine(sok_any (some ⟨gs,32,none⟩) 32 (cs-32) (ss.drop 32) _ hdl (by have:=(HI5.out.2.2.1.at_.drop 32).at_;rw[Nat.zero_add] at this;exact this) (byte_drop HZ.out.2.2 32)).mono ?_;rintro e w6 ⟨rfl,B6⟩;have HI6:=hid_ofE (And.intro (HI5.out.1.below B6) (And.intro (HI5.out.2.1.below B6) (And.intro (HI5.out.2.2.1.below B6) (HI5.out.2.2.2.trans (B6.mono HI5.out.2.2.2.size)))));rw[show decide ((32:Nat)=32∧val 256 (ss.drop 32)<bigL)=decide (val 256 (ss.drop 32)<bigL) by simp];clear B6 HI5;cases hq3:decide (val 256 (ss.drop 32)<bigL) with
    |false=>
     have hf:vr=false:=by rw[HVR.out];exact vsR_q hq3
     subst hf;go_wp2
     go_ret
     exact⟨rfl,HI6.out.2.2.2⟩
    |true=>
     have HE:=hid_ofE (vsR_e (msg:=ms) sl hq3 hq1 hq2);have HQ:=hid_ofE (And.intro hq1 (And.intro hq2 hq3));clear hq1 hq2 hq3;have HA0:Hid (Below w6.heap.size w6 (w6.alloc (.cells #[] 5))):=below_new3 _ _;have HO0:=hid_ofE (Own.empty w6 w6.heap.size (Nat.le_refl _));go_wp2_with (at_builtin;refine wpList_app _ rfl _ _ rfl w6.heap.size _ _ rfl HO0.out ⟨gs,0,none⟩ 32 cs (ss.take 32) rfl htl ?a1 ?a2 ?a3 ?_)
     case a1=>intro j hj;rw[Addr.add_lit];exact((HI6.out.2.2.1.below HA0.out).at_.take 32).c j (by omega)
     case a2=>simp
     case a3=>exact HA0.out.size
     intro v7 w7 O7 B7 _;try rw[List.nil_append] at O7
     obtain⟨g7,c7,rfl,_,_,_⟩:=O7.base;rw[htl] at O7 ⊢;have HA7:Hid (Below w6.heap.size w6 w7):=HA0.out.trans B7;have HO7:=hid_ofE O7;clear O7 B7 HA0 HO0;go_wp2_with (at_builtin;refine wpList_app _ rfl _ _ rfl w6.heap.size _ _ rfl HO7.out ⟨gp,0,none⟩ 32 cp ps rfl pl ?b1 ?b2 ?b3 ?_)
     case b1=>intro j hj;rw[Addr.add_lit];exact(HI6.out.1.below HA7.out).at_.c j (by omega)
     case b2=>omega
     case b3=>exact HA7.out.size
     intro v8 w8 O8 B8 _;obtain⟨g8,c8,rfl,_,_,_⟩:=O8.base;have hl8:(ss.take 32++ps).length=64:=by rw[List.length_append,htl,pl]
     rw[hl8] at O8 ⊢;have HA8:Hid (Below w6.heap.size w6 w8):=HA7.out.trans B8;have HO8:=hid_ofE O8;clear O8 B8 HA7 HO7;go_wp2_with (at_builtin;refine wpList_app _ rfl _ _ rfl w6.heap.size _ _ rfl HO8.out ⟨gm,0,none⟩ nm cm ms rfl ml ?d1 ?d2 ?d3 ?_)
     case d1=>intro j hj;rw[Addr.add_lit];exact(HI6.out.2.1.below HA8.out).at_.c j (by omega)
     case d2=>omega
     case d3=>exact HA8.out.size
     intro v9 w9 O9 B9 _;rw[←List.append_assoc] at O9;obtain⟨g9,c9,rfl,_,_,hc9⟩:=O9.base;have hl9:(ss.take 32++ps++ms).length=64+nm:=by rw[List.length_append,hl8,ml]
     rw[hl9] at O9 hc9 ⊢;have hA9:Hid (Below w6.heap.size w6 w9):=HA8.out.trans B9;have HI9:=hid_ofE (And.intro (HI6.out.1.below hA9.out) (And.intro (HI6.out.2.1.below hA9.out) (And.intro (HI6.out.2.2.1.below hA9.out) (HI6.out.2.2.2.trans (hA9.out.mono HI6.out.2.2.2.size)))));have HP9:=hid_ofE (pta_own O9);have HS:=hid_ofE (shaI_any (some ⟨g9,0,none⟩) (64+nm) c9 (ss.take 32++ps++ms) w9 hl9 HP9.out.at_ (byte_app (byte_app (byte_take HZ.out.2.2 32) HZ.out.1) HZ.out.2.1) (by omega) hc9 (tab_keepV HT.out.1 HT.out.2 HI9.out.2.2.2) (Nat.lt_of_lt_of_le HT.out.2 HI9.out.2.2.2.size));have HSL:=hid_ofE (And.intro (shaL_lenE (ss.take 32++ps++ms)) (show Byte (shaL (ss.take 32++ps++ms)) by unfold shaL;exact txtW_byte _));have HHV:Hid (hsV ps ms ss=val 256 (shaL (ss.take 32++ps++ms))%bigL):=rfl;clear O9 B9 HA8 HO8 hA9 HI6 HP9 hl8 hl9;generalize shaL (ss.take 32++ps++ms)=sh at *;go_wp2_with fail;refine HS.out.mono ?_;rintro e w10 ⟨v10,rfl,O10,B10⟩;obtain⟨g10,c10,rfl,hA10,hc10⟩:=PtA.of_own O10;rw[HSL.out.1];have HI10:=hid_ofE (And.intro (HI9.out.1.below B10) (And.intro (HI9.out.2.1.below B10) (And.intro (HI9.out.2.2.1.below B10) (HI9.out.2.2.2.trans (B10.mono HI9.out.2.2.2.size)))));have HR:=hid_ofE (iredS_any (some ⟨g10,0,none⟩) 64 c10 sh w10 HSL.out.1 (by decide) hA10.at_ HSL.out.2);clear O10 B10 HS HI9 hA10;go_wp2_with fail;refine HR.out.mono ?_;rintro e w11 ⟨v11,ks,rfl,O11,kb,kl,kv,B11⟩;obtain⟨g11,c11,rfl,hA11,hc11⟩:=PtA.of_own O11;rw[kl];have HI11:=hid_ofE (And.intro (HI10.out.1.below B11) (And.intro (HI10.out.2.1.below B11) (And.intro (HI10.out.2.2.1.below B11) (HI10.out.2.2.2.trans (B11.mono HI10.out.2.2.2.size)))));have HK11:=hid_ofE hA11;have HEQ:=hid_ofE (sig_eqn (msg:=ms) sl HZ.out.1 HZ.out.2.2 HQ.out.1 HQ.out.2.1 kl kb (by rw[HHV.out];exact kv));clear O11 B11 HR HI10 hA11 kv;have HB11:=hid_ofE HI11.out.2.2.2;go_wp2;refine wp_region_any (by kernel_rfl) ?_;refine wpAny_slotsU (fun _ a b=>Below a.heap.size a b) (frame:=(fun (a b c d e f g h i j k l m n o p q r s u v w x y z A B C D E F G H I J K L M N O P Q R S T U V W X Y Z a0 a1 a2 a3 a4 a5 a6 a7 a8 a9 b0 b1 b2 b3 b4 b5 b6 b7 b8 b9 c0 c1 c2 c3 c4 c5 c6:Value)=>fun (t:Nat→Value)=>({ tmps:=List.toArray [a,b,c,d,e,f,g,h,i,t 4,j,k,l,m,n,o,p,q,r,s,u,v,w,x,y,z,A,B,C,D,E,F,G,H,I,J,K,L,M,N,O,P,Q,R,S,T,U,V,W,X,Y,Z,a0,a1,a2,a3,a4,a5,a6,a7,a8,a9,b0,t 0,t 1,t 2,t 3,b1,b2,b3,b4,b5,b6,b7,b8,b9,c0,c1,c2,c3,c4,c5,c6],defers:=[] }:Act)) _ _ _ _ _ _ _ _ _ _ _ _ _ _ _ _ _ _ _ _ _ _ _ _ _ _ _ _ _ _ _ _ _ _ _ _ _ _ _ _ _ _ _ _ _ _ _ _ _ _ _ _ _ _ _ _ _ _ _ _ _ _ _ _ _ _ _ _ _ _ _ _ _ _ _ _ _ _)
      (Ext:=fun L u w'=>ApX w11 [] L u w') (Good:=fun i L w' v=>if i=0 then v=.slice (some ⟨gs,0,none⟩) 64 cs else if i=1 then v=.slice (some ⟨gs,32,none⟩) 32 (cs-32) else if i=2 then BpV w' v else if i=3 then RzV (muZ (ss.drop 32) bB) w' v else if i=4 then RzV (muZ (ss.drop 32) bB) w' v else True) ?hstab (by kernel_rfl) ?hop ?hdone _ _ ((fun (x0 x1 x2 x3 x4:Value)=>fun (i:Nat)=>if i=0 then x0 else if i=1 then x1 else if i=2 then x2 else if i=3 then x3 else if i=4 then x4 else undef) _ _ _ _ _) _ (by simp) ?ext ?start (by simp)
     case start=>intro i hi h;exact absurd h (by rw[Array.getD_eq_getD_getElem?,Array.getElem?_replicate];split<;>simp)
     case ext=>exact(ApX.start w11 [] _ _ (fun i=>by rw[Array.getD_eq_getD_getElem?,Array.getElem?_replicate];split<;>rfl)).drew
     case hstab=>
      intro j L w9 w' i v hM _ _ h;by_cases h2:j=2
      ·subst h2;simp at h ⊢;exact h.below hM
      by_cases h3:j=3
      ·subst h3;simp at h ⊢;exact h.below hM
      by_cases h4:j=4
      ·subst h4;simp at h ⊢;exact h.below hM
      simp only[if_neg h2,if_neg h3,if_neg h4] at h ⊢;exact h
     case hop=>
      intro i o L t w' ho hLi hx hdep K hK;have hi:i<5:=(Array.getElem?_eq_some_iff.1 ho).1;obtain rfl|rfl|rfl|rfl|rfl:i=0∨i=1∨i=2∨i=3∨i=4:=by omega
      all_goals(simp at ho;subst ho)
      ·clear hdep;have hK':=hK w' (.slice (some ⟨gs,0,none⟩) 64 cs) (by simp) (hx.step 0 _ (Below.refl _ _) (fun h=>absurd h (by decide))) (Below.refl _ _);clear hK;rw[if_pos (by rfl)];go_simp;simpa[upd,hhi] using hK'
      ·have d0:t 0=.slice (some ⟨gs,0,none⟩) 64 cs:=by simpa using(hdep ⟨0,.data⟩ (by simp) rfl).2
       clear hdep;have hK':=hK w' (.slice (some ⟨gs,32,none⟩) 32 (cs-32)) (by simp) (hx.step 1 _ (Below.refl _ _) (fun h=>absurd h (by decide))) (Below.refl _ _);clear hK;rw[if_pos (by rfl)];go_simp;simpa[upd,d0,hhi] using hK'
      ·clear hdep;have A:=ibas_any w';have hK':∀ ww v,BpV ww v→Below w'.heap.size w' ww→K _ ww:=fun ww v hv hb=>hK ww v (by simpa using hv) (hx.step 2 v hb (fun h=>absurd h (by decide))) hb
       clear hK;rw[if_pos (by rfl)];go_simp;try simp only[]
       refine A.mono ?_;rintro e w9 ⟨v9,bs9,rfl,o9,b9,l9,x9,hb9⟩;have hK2:=hK' w9 v9 (by obtain rfl:=bB_of b9 l9 x9;obtain⟨g9,c9,e9,hA9,_⟩:=PtA.of_own o9;exact⟨g9,c9,e9,hA9⟩) hb9;clear hK' A o9 b9 l9 x9 hb9;go_simp;simpa[upd,hhi] using hK2
      ·have d1:t 1=.slice (some ⟨gs,32,none⟩) 32 (cs-32):=by simpa using(hdep ⟨1,.data⟩ (by simp) rfl).2
       have f2:BpV w' (t 2):=by simpa using(hdep ⟨2,.data⟩ (by simp) rfl).2
       clear hdep;refine Exists.elim f2 fun gb hh=>?_
       obtain⟨cb,d2,h2⟩:=hh;have A:=imul_any (some ⟨gs,32,none⟩) (some ⟨gb,0,none⟩) 32 (cs-32) 32 cb (ss.drop 32) bB w' hdl (by decide) (by have:=((HI11.out.2.2.1.below hx.below).at_.drop 32).at_;rw[Nat.zero_add] at this;exact this) (byte_drop HZ.out.2.2 32) bB_len (by decide) h2.at_ bB_byte;have hK':∀ ww v,RzV (muZ (ss.drop 32) bB) ww v→Below w'.heap.size w' ww→K _ ww:=fun ww v hv hb=>hK ww v (by simpa using hv) (hx.step 3 v hb (fun h=>absurd h (by decide))) hb
       clear hK h2;rw[if_pos (by rfl)];go_simp;try simp only[d1,d2]
       refine A.mono ?_;rintro e w9 ⟨v9,rfl,r9,hb9⟩;have hK2:=hK' w9 v9 (RzV.of r9 HEQ.out.1) hb9;clear hK' A r9 hb9;go_simp;simpa[upd,d1,d2] using hK2
      ·have f3:RzV (muZ (ss.drop 32) bB) w' (t 3):=by simpa using(hdep ⟨3,.data⟩ (by simp) rfl).2
       clear hdep;have hK':=hK w' (t 3) (by simpa using f3) (hx.step 4 _ (Below.refl _ _) (fun h=>absurd h (by decide))) (Below.refl _ _);clear hK;rw[if_pos (by rfl)];go_simp;simpa[upd] using hK'
     case hdone=>
      intro L t w12 hx hg;have f4:RzV (muZ (ss.drop 32) bB) w12 (t 4):=by simpa using hg 4 (by decide)
      have b12:=hx.below;clear hg hx;obtain⟨la,lc,e4,A4⟩:=f4;dsimp only;rw[e4];clear e4;have HL12:=hid_ofE A4;have HI12:=hid_ofE (And.intro (HI11.out.1.below b12) (And.intro (HI11.out.2.1.below b12) (And.intro (HI11.out.2.2.1.below b12) (HI11.out.2.2.2.trans (b12.mono HI11.out.2.2.2.size)))));have HK12:=hid_ofE (HK11.out.below b12);clear b12 A4 HI11 HK11;go_wp2;refine wp_region_any (by kernel_rfl) ?_;refine wpAny_slotsU (fun _ a b=>Below a.heap.size a b) (frame:=(fun (a b c d e f g h i j k l m n o p q r s u v w x y z A B C D E F G H I J K L M N O P Q R S T U V W X Y Z a0 a1 a2 a3 a4 a5 a6 a7 a8 a9 b0 b1 b2 b3 b4 b5 b6 b7 b8 b9 c0 c1 c2 c3 c4:Value)=>fun (t:Nat→Value)=>({ tmps:=List.toArray [a,b,c,d,e,f,g,h,i,j,t 6,k,l,m,n,o,p,q,r,s,u,v,w,x,y,z,A,B,C,D,E,F,G,H,I,J,K,L,M,N,O,P,Q,R,S,T,U,V,W,X,Y,Z,a0,a1,a2,a3,a4,a5,a6,a7,a8,a9,b0,b1,b2,b3,b4,t 0,t 1,t 2,t 3,t 4,t 5,b5,b6,b7,b8,b9,c0,c1,c2,c3,c4],defers:=[] }:Act)) _ _ _ _ _ _ _ _ _ _ _ _ _ _ _ _ _ _ _ _ _ _ _ _ _ _ _ _ _ _ _ _ _ _ _ _ _ _ _ _ _ _ _ _ _ _ _ _ _ _ _ _ _ _ _ _ _ _ _ _ _ _ _ _ _ _ _ _ _ _ _ _ _ _ _ _)
       (Ext:=fun L u w'=>ApX w12 [] L u w') (Good:=fun i L w' v=>if i=0 then v=.slice (some ⟨gs,0,none⟩) 64 cs else if i=1 then v=.slice (some ⟨gs,0,none⟩) 32 cs else if i=2 then v=.slice (some ⟨g11,0,none⟩) 32 c11 else if i=3 then v=.slice (some ⟨gp,0,none⟩) 32 cp else if i=4 then RzV (muZ ks ps) w' v else if i=5 then RzV (paZ (ss.take 32) (muZ ks ps)) w' v else if i=6 then RzV (paZ (ss.take 32) (muZ ks ps)) w' v else True) ?hstab (by kernel_rfl) ?hop ?hdone _ _ ((fun (x0 x1 x2 x3 x4 x5 x6:Value)=>fun (i:Nat)=>if i=0 then x0 else if i=1 then x1 else if i=2 then x2 else if i=3 then x3 else if i=4 then x4 else if i=5 then x5 else if i=6 then x6 else undef) _ _ _ _ _ _ _) _ (by simp) ?ext ?start (by simp)
      case start=>intro i hi h;exact absurd h (by rw[Array.getD_eq_getD_getElem?,Array.getElem?_replicate];split<;>simp)
      case ext=>exact(ApX.start w12 [] _ _ (fun i=>by rw[Array.getD_eq_getD_getElem?,Array.getElem?_replicate];split<;>rfl)).drew
      case hstab=>
       intro j L w9 w' i v hM _ _ h;by_cases h4:j=4
       ·subst h4;simp at h ⊢;exact h.below hM
       by_cases h5:j=5
       ·subst h5;simp at h ⊢;exact h.below hM
       by_cases h6:j=6
       ·subst h6;simp at h ⊢;exact h.below hM
       simp only[if_neg h4,if_neg h5,if_neg h6] at h ⊢;exact h
      case hop=>
       intro i o L t w' ho hLi hx hdep K hK;have hi:i<7:=(Array.getElem?_eq_some_iff.1 ho).1;obtain rfl|rfl|rfl|rfl|rfl|rfl|rfl:i=0∨i=1∨i=2∨i=3∨i=4∨i=5∨i=6:=by omega
       all_goals(simp at ho;subst ho)
       ·clear hdep;have hK':=hK w' (.slice (some ⟨gs,0,none⟩) 64 cs) (by simp) (hx.step 0 _ (Below.refl _ _) (fun h=>absurd h (by decide))) (Below.refl _ _);clear hK;rw[if_pos (by rfl)];go_simp;simpa[upd,hlo] using hK'
       ·have d0:t 0=.slice (some ⟨gs,0,none⟩) 64 cs:=by simpa using(hdep ⟨0,.data⟩ (by simp) rfl).2
        clear hdep;have hK':=hK w' (.slice (some ⟨gs,0,none⟩) 32 cs) (by simp) (hx.step 1 _ (Below.refl _ _) (fun h=>absurd h (by decide))) (Below.refl _ _);clear hK;rw[if_pos (by rfl)];go_simp;simpa[upd,d0,hlo] using hK'
       ·clear hdep;have hK':=hK w' (.slice (some ⟨g11,0,none⟩) 32 c11) (by simp) (hx.step 2 _ (Below.refl _ _) (fun h=>absurd h (by decide))) (Below.refl _ _);clear hK;rw[if_pos (by rfl)];go_simp;simpa[upd,hlo] using hK'
       ·clear hdep;have hK':=hK w' (.slice (some ⟨gp,0,none⟩) 32 cp) (by simp) (hx.step 3 _ (Below.refl _ _) (fun h=>absurd h (by decide))) (Below.refl _ _);clear hK;rw[if_pos (by rfl)];go_simp;simpa[upd,hlo] using hK'
       ·have d2:t 2=.slice (some ⟨g11,0,none⟩) 32 c11:=by simpa using(hdep ⟨2,.data⟩ (by simp) rfl).2
        have d3:t 3=.slice (some ⟨gp,0,none⟩) 32 cp:=by simpa using(hdep ⟨3,.data⟩ (by simp) rfl).2
        clear hdep;have A:=imul_any (some ⟨g11,0,none⟩) (some ⟨gp,0,none⟩) 32 c11 32 cp ks ps w' kl (by decide) (HK12.out.below hx.below).at_ kb pl (by decide) (HI12.out.1.below hx.below).at_.at_ HZ.out.1;have hK':∀ ww v,RzV (muZ ks ps) ww v→Below w'.heap.size w' ww→K _ ww:=fun ww v hv hb=>hK ww v (by simpa using hv) (hx.step 4 v hb (fun h=>absurd h (by decide))) hb
        clear hK;rw[if_pos (by rfl)];go_simp;try simp only[d2,d3]
        refine A.mono ?_;rintro e w9 ⟨v9,rfl,r9,hb9⟩;have hK2:=hK' w9 v9 (RzV.of r9 HEQ.out.2.2.1) hb9;clear hK' A r9 hb9;go_simp;simpa[upd,d2,d3,hlo] using hK2
       ·have d1:t 1=.slice (some ⟨gs,0,none⟩) 32 cs:=by simpa using(hdep ⟨1,.data⟩ (by simp) rfl).2
        have f4:RzV (muZ ks ps) w' (t 4):=by simpa using(hdep ⟨4,.data⟩ (by simp) rfl).2
        clear hdep;refine Exists.elim f4 fun ga hh=>?_
        obtain⟨ca,d4,h4⟩:=hh;have A:=ipad_any (some ⟨gs,0,none⟩) ga 32 cs 32 ca (ss.take 32) (muZ ks ps) w' htl (by decide) ((HI12.out.2.2.1.below hx.below).at_.take 32).at_ (byte_take HZ.out.2.2 32) HEQ.out.2.2.1 (by decide) h4 HEQ.out.2.2.2.1;have hK':∀ ww v,RzV (paZ (ss.take 32) (muZ ks ps)) ww v→Below w'.heap.size w' ww→K _ ww:=fun ww v hv hb=>hK ww v (by simpa using hv) (hx.step 5 v hb (fun h=>absurd h (by decide))) hb
        clear hK h4;rw[if_pos (by rfl)];go_simp;try simp only[d1,d4]
        refine A.mono ?_;rintro e w9 ⟨v9,rfl,r9,hb9⟩;have hK2:=hK' w9 v9 (RzV.of r9 HEQ.out.2.2.2.2.1) hb9;clear hK' A r9 hb9;go_simp;simpa[upd,d1,d4] using hK2
       ·have f5:RzV (paZ (ss.take 32) (muZ ks ps)) w' (t 5):=by simpa using(hdep ⟨5,.data⟩ (by simp) rfl).2
        clear hdep;have hK':=hK w' (t 5) (by simpa using f5) (hx.step 6 _ (Below.refl _ _) (fun h=>absurd h (by decide))) (Below.refl _ _);clear hK;rw[if_pos (by rfl)];go_simp;simpa[upd] using hK'
      case hdone=>
       intro L t w13 hx hg;have f6:RzV (paZ (ss.take 32) (muZ ks ps)) w13 (t 6):=by simpa using hg 6 (by decide)
       have b13:=hx.below;clear hg hx;obtain⟨ra,rc,e6,A6⟩:=f6;dsimp only;rw[e6];clear e6;have HBF:=hid_ofE (HI12.out.2.2.2.trans (b13.mono HI12.out.2.2.2.size));have HC:=hid_ofE (lwR_any la ra 32 32 lc rc (muZ (ss.drop 32) bB) (paZ (ss.take 32) (muZ ks ps)) w13 HEQ.out.1 HEQ.out.2.2.2.2.1 (HL12.out.below b13) A6 HEQ.out.2.1 HEQ.out.2.2.2.2.2.1);clear b13 A6 HI12 HK12 HL12;go_wp2_with fail;refine HC.out.mono ?_;rintro e _ ⟨rfl,rfl⟩;rw[HEQ.out.2.2.2.2.2.2];have hve:vr=eqnS ps ms ss:=by rw[HVR.out];exact HE.out
       subst hve;generalize eqnS ps ms ss=q at *;have hqq:(q == q)=true:=by simp
       go_wp2
       go_ret
       exact⟨rfl,HBF.out⟩
 ·have hf:vr=false:=by rw[HVR.out];exact vsR_64 (by rw[sl];exact h64)
  subst hf;have h64':((ns:Int) != 64)=true:=by simp;omega
  go_wp2
  go_ret
  exact⟨rfl,HI3.out.2.2.2⟩
set_option maxRecDepth 100000 in
theorem lifted (os:Os) (started:os.Started) (H:Type) (enc:TypeId×Value→H) :
  ReturnsInHanded {} Tryz.checked os 3 .any (fun w args=>(Rows.fnSigEquationSpec.pre enc Tryz.prog Tryz.f3 Rows.fnSigEquationRow.domain false w args∧laidMetH Tryz.prog laid w)∧sizedMet enc Tryz.prog Tryz.f3 (OpenSpec.ofChange Rows.fnSigEquationSpec) false w args)
   (Rows.fnSigEquationSpec.post enc Tryz.prog Tryz.f3 false true false false):=by
 refine returnsInHanded_of_change_and (C:=Tryz.checked) (X:=fun w _=>laidMetH Tryz.prog laid w) (fun _ _ _ hh h=>h.of_heap hh) own started (by kernel_rfl) Tryz.func3
  (ChangeSpec.witness_shaped (enc:=enc) (C:=Tryz.checked) (os:=os) (X:=fun w _=>laidMetH Tryz.prog laid w) false (World.laidAll Tryz.prog os laid) #[.slice none 0 0] 8 (World.laidAll_os _ _ _)
   (World.shaped_of_ZipB (by kernel_rfl) (by kernel_rfl)) (by kernel_rfl) (by kernel_rfl) (by kernel_rfl)
   (by rw[MakeChecks.laidMetH_plain _ _ _ (by kernel_rfl)];exact laidMet_laidAll _ (by kernel_rfl) (by kernel_rfl))) ?_
 intro W base args ds gs before hval0 hW hcnd _ hL _
 have hval:∀(j:Nat) t v,Tryz.f3.params[j]?=some t→args[j]?=some v→Value.okWide Tryz.prog W .any base t v:=hval0
 have hW':=hW
 obtain⟨p,q,hA0,hV,rfl,_,_⟩:=hW
 have hA:DataW.TrodAll enc Tryz.prog W 0 (fun _=>true) true Tryz.f3.params.toList args.toList ds p:=hA0
 rw[Tryz.params3] at hA hval
 obtain⟨v0,vs0,d0,ds0,p0,q0,hargs,rfl,rfl,h0,r0⟩:=trodAll_cons hA
 obtain⟨rfl,rfl,rfl⟩:=trodAll_nil r0
 obtain rfl:args=#[v0]:=by cases args;simp_all
 have hV2 : DataW.TrodVars enc Tryz.prog W (fun _ => true) ["loop.example/s02127/impl.roundConstants"] gs q := hV
 obtain⟨g,t,cs,fuel,d,pp,rfl,hg,ht,hv,hd,rfl⟩:=trodVars_one hV2
 obtain⟨a0,len0,cap0,rfl⟩:=okWide_slice Tryz.underlying22 (hval 0 22 v0 rfl rfl)
 have k0:=h0
 have lt0:∀ x∈p0,x.block<W.heap.size:=by obtain⟨m,hm⟩:=k0;exact DataW.trod_lt m _ _ _ hm
 obtain⟨z0,w0⟩:∃ zs,IsRow .u8 W a0 len0 cap0 zs:=by
  obtain⟨fuel,hf⟩:=h0;rcases open_ints Tryz.underlying22 Tryz.underlying5 (by kernel_rfl) hf with⟨hcs,_⟩|⟨x,l,c,zs,hcs,_,hl,hm,hz,_,hcell,hwz⟩
  ·simp[Value.cells] at hcs;obtain⟨rfl,rfl,rfl⟩:=hcs;exact⟨[],.inl ⟨rfl,rfl,rfl,rfl⟩⟩
  ·simp[Value.cells] at hcs;obtain⟨rfl,rfl,rfl⟩:=hcs;exact⟨zs,.inr ⟨_,rfl,hl,hm,by simpa using hz,hcell,hwz⟩⟩
 clear hA0 hval0
 have hT:=tab_cell hL
 have hz:0<W.heap.size:=block_lt_of_cell (a:=⟨0,0,none⟩) (hT 0 (by decide))
 refine(walk a0 len0 cap0 z0 W w0 hT hz).mono fun e W' ⟨he,bel⟩=>?_
 subst he
 exact⟨_,rfl,_,_,_,[],_,_,hW',trodAll_mk1 (shut_bool Tryz.underlying4 _),(trodAll_cons_mk (Below.trod laidOut (by kernel_rfl) (of_decide_eq_true (by kernel_rfl)) k0 bel lt0) trodAll_mk0),Below.trodVars laidOut bel (by kernel_rfl) hV2,bel.frame _,fun h=>by cases h⟩
theorem over:Rows.FnSigEquationSaid:=
 OpenClaim.holds_of_wide 3 Tryz.f3 rfl rfl rfl rfl rfl rfl rfl ⟨rfl,rfl,rfl,rfl,rfl⟩ rfl rfl rfl rfl rfl (by kernel_rfl) Tryz.func3 (by kernel_rfl)
  (of_decide_eq_true (by kernel_rfl)) (by unfold Func.isWrapper;first|(rw[if_pos (by decide +kernel)];kernel_rfl)|(rw[if_neg (by decide +kernel)];exact⟨rfl,rfl⟩))
  (fun os started H enc _=>lifted os started H enc)
end Go.Proofs.YtapejbpgdjbjjaaGreatDoor.lsi
namespace Go.Proofs.YtapejbpgdjbjjaaGreatDoor
theorem sigEquation_holds:Rows.FnSigEquationCardSaid:=
 Claim7.holds_tied_plain_at .later [] [.data] true (true, "2fa361fcee280d604466e835b2c09896e172c054d63896c48fa3049889f2be5a") false
  lsi.over (fun _ h=>by cases h) (by kernel_rfl) (fun _ h=>by cases h) fnSigEquation_row_tie rfl ⟨rfl,rfl⟩ (by kernel_rfl) rfl
  (fun f fn hf hfn=>by
   obtain rfl : f = 3 := Option.some.inj ((show Tryz.prog.funcNamed "loop.example/s02127/laws.FnSigEquation" = some 3 by kernel_rfl).symm.trans hf) |>.symm
   obtain rfl:fn=Tryz.f3:=(Option.some.inj (Tryz.func3.symm.trans hfn)).symm;exact⟨by kernel_rfl,fun j t ht=>by
    rw[Tryz.params3] at ht;have hm:t∈[22]:=by simpa using Array.mem_of_getElem? ht
    have hall:([22].all fun u=>!Tryz.prog.wantsStandIn u)=true:=by kernel_rfl
    exact(show Tryz.prog.wantsStandIn t=false by simpa using List.all_eq_true.1 hall t hm)⟩)
  (by kernel_rfl)
#print axioms sigEquation_holds
end Go.Proofs.YtapejbpgdjbjjaaGreatDoor
