import Derived.Test.YtncomnkdlpoelaaGreatDoorShN
import Derived.Test.YtncomnkdlpoelaaGreatDoorMEsd
import Derived.Test.YtncomnkdlpoelaaGreatDoorMINofS
import Derived.Test.YtncomnkdlpoelaaGreatDoorMShK
import Derived.Test.YtncomnkdlpoelaaGreatDoorMMuM
import Derived.Test.YtncomnkdlpoelaaGreatDoorMIDd
import Derived.Test.YtncomnkdlpoelaaGreatDoorMISt
import Derived.Test.YtncomnkdlpoelaaGreatDoorMSSum
import Derived.Test.YtncomnkdlpoelaaGreatDoorMCatF
import Derived.Test.YtncomnkdlpoelaaGreatDoorMCatC
import Derived.Test.YtncomnkdlpoelaaGreatDoorMReg
import Derived.Laws.Tables
import Derived.Laws.BytesArg
import Derived.Test.YtncomnkdlpoelaaGreatDoorMSvK
import Derived.Test.YtncomnkdlpoelaaGreatDoorMArrW
namespace Go.Proofs.YtncomnkdlpoelaaGreatDoor
open Go.ChangeShapes Go.WideShapes Go.ChangeAt Go.RowKit
set_option linter.unusedVariables false
def ktL (q:Nat):List Int:=(List.range q).map kt
theorem ktL_len (q:Nat):(ktL q).length=q:=by simp[ktL]
theorem ktL_snoc (q:Nat):ktL (q+1)=ktL q++[kt q]:=by unfold ktL;rw[List.range_succ,List.map_append];rfl
theorem ktL_get (q i:Nat) (h:i<q):(ktL q).getD i 0=kt i:=by unfold ktL;simp[List.getD,h]
theorem rcT_kt (q:Nat) (h:q<88):rcT (q:Int)=kt q:=by
 unfold rcT kt;rw[if_pos (by omega),Int.toNat_natCast]
theorem run_sliceH (w:World) (g c:Nat) (hc:88≤c):(Instr.sliceAt 134 (.slice (some ⟨g,0,none⟩) 88 c) (some (.int .i64 80)) none none).run Tryz.prog w=.ok (.slice (some ⟨g,80,none⟩) 8 (c-80)) w:=by
 have h4:¬ (c=80):=by omega
 unfold Instr.sliceAt;simp[run_underlying Tryz.underlying134,go_sem,Instr.sliceBounds,h4,Addr.add];try omega
theorem run_sliceM (w:World) (g L c I:Nat) (hI:I+128≤L) (hc:L≤c):(Instr.sliceAt 22 (.slice (some ⟨g,0,none⟩) L c) (some (.int .i64 (I:Int))) (some (.int .i64 ((I:Int)+128))) none).run Tryz.prog w=.ok (.slice (some ⟨g,I,none⟩) 128 (c-I)) w:=by
 have h2:((I:Int)+128)≤(c:Int):=by omega
 have h3:((I:Int)+128).toNat=I+128:=by omega
 have h4:¬ (c=I):=by omega
 have h6:(0:Int)≤(I:Int):=by omega
 have h7:(0:Int)≤(I:Int)+128:=by omega
 unfold Instr.sliceAt;simp[run_underlying Tryz.underlying22,go_sem,Instr.sliceBounds,h2,h3,h4,h6,h7,Addr.add];omega
structure HW (w:World) (v:Value) (hs:List Int):Prop where
 ex:∃ b o c,v=.slice (some ⟨b,o,none⟩) 8 c∧b<w.heap.size∧∀ i,i<8→w.cell? ⟨b,o+i,none⟩=some (.int .u64 (hs.getD i 0))
theorem HW.of_own {w:World} {B:Nat} {v:Value} {hs:List Int} (h:OwnU w B v hs) (h8:hs.length=8):HW w v hs:=by
 obtain⟨g,c,rfl,hB,hg,hc⟩:=h.base;refine⟨g,0,c,by rw[h8],hg,fun i hi=>?_⟩;rw[Nat.zero_add];exact h.cellAt rfl i (by omega)
structure MS (W:World) (gk gm:Nat) (ms:List Int) (y:World):Prop where
 k:gk<y.heap.size∧∀ i,i<88→y.cell? ⟨gk,i,none⟩=some (.int .u64 (kt i))
 m:gm<y.heap.size∧∀ i,i<ms.length→y.cell? ⟨gm,i,none⟩=some (.int .u8 (ms.getD i 0))
 below:Below W.heap.size W y
theorem MS.new {W:World} {gk gm:Nat} {ms:List Int} {y y':World} (h:MS W gk gm ms y) (hb:Below y.heap.size y y'):MS W gk gm ms y':=
 ⟨⟨Nat.lt_of_lt_of_le h.k.1 hb.size,fun i hi=>by rw[World.cell?_of_block (w:=y) (hb.block gk h.k.1)];exact h.k.2 i hi⟩,⟨Nat.lt_of_lt_of_le h.m.1 hb.size,fun i hi=>by rw[World.cell?_of_block (w:=y) (hb.block gm h.m.1)];exact h.m.2 i hi⟩,h.below.trans (hb.mono h.below.size)⟩
set_option maxRecDepth 100000 in
set_option maxHeartbeats 2000000 in
theorem shaS_any (b off cap n:Nat) (zs:List Int) (w:World) (hn:zs.length=n) (hb:b<w.heap.size) (hc:∀ i,i<zs.length→w.cell? ⟨b,off+i,none⟩=some (.int .u8 (zs.getD i 0))) (hz:Byte zs) (hm:n≤2097152) :
  Calls Tryz.prog 88 #[.slice (some ⟨b,off,none⟩) n cap] w fun e w'=>∃ v,e=.returned v∧Own w' w.heap.size v (shaL zs)∧Below w.heap.size w w':=by
 have HC:=hid_ofS hc;have HN:=hid_ofS hn;have HZ:=hid_ofS hz;have HE0:=hid_ofS (OwnK.empty (k:=.u64) (t:=135) w w.heap.size (Nat.le_refl _));have HAL:Hid (Below w.heap.size w (w.alloc (.cells #[] 135))):=(Below.refl _ _).alloc (Nat.le_refl _) _;clear hc hn hz;go_enter Tryz.func88,Tryz.ntmps88;go_wp2
 go_loopw [3,4] (fun v i wr=>∃ q:Nat,q≤88∧i=.int .i64 q∧OwnU wr w.heap.size v (ktL q)∧Below w.heap.size w wr) (fun _ i _=>88-(intOf i).toNat)
 case atStart=>exact⟨0,by omega,rfl,HE0.out,HAL.out⟩
 case round=>
  clear HE0 HAL;obtain⟨q,hq,rfl,hown,hbel⟩:=hrel;by_cases hlt:q<88
  ·have hlt':(q:Int)<88:=by omega
   have hsz:=hbel.size;have HO:=hid_ofS hown;have HB:=hid_ofS hbel;have A:=hid_ofS (rcS_any (q:Int) wr (by omega) (by omega));rw[rcT_kt q hlt] at A;have HSN:=hid_ofS (ktL_snoc q);have HLS:=hid_ofS (ktL_len q);clear hown hbel;generalize kt q=x at *;go_wp2_with fail;refine A.out.mono ?_;rintro e w1 ⟨rfl,b1⟩;have HO1:=hid_ofS (HO.out.grow b1);have HB1:=hid_ofS (HB.out.trans (b1.mono hsz));have hsz1:=HB1.out.size;clear A HO HB b1;have HLJ:Hid ((ktL q).length+1≤1099511627776):=by show _≤_;rw[HLS.out];omega
   go_wp2_with (at_builtin;refine wpList_appK _ ktU rfl _ _ rfl w.heap.size _ _ rfl (HO1.out.alloc _) ⟨w1.heap.size,0,none⟩ 1 1 [x] rfl rfl ?c1 ?c2 ?c3 ?_);all_goals first|(intro j hj;obtain rfl:j=0:=by omega
                                                                                                                                                                             simp[Addr.add];done)|skip
   case c2=>have:=HLJ.out;simpa using by omega
   case c3=>rw[World.size_alloc];omega
   intro v' w2 hown' hbel' _;have HO2:Hid (OwnU w2 w.heap.size v' (ktL (q+1))):=by rw[HSN.out];exact hown'
   have HB2:=hdI <| (HB1.out.alloc hsz1 _).trans hbel'
   clear hown' hbel' HO1 HB1;go_wp2;go_roundw
   case rel=>exact⟨q+1,by omega,by go_num,HO2.out,HB2.out⟩
   case measure=>simp[intOf];omega
  ·obtain rfl:q=88:=by omega
   obtain⟨gk,ck,rfl,hk1,hk2,hk3⟩:=hown.base;have HKC:Hid (∀ i,i<88→wr.cell? ⟨gk,i,none⟩=some (.int .u64 (kt i))):=fun i hi=>by
    rw[hown.cellAt rfl i (by rw[ktL_len];exact hi),ktL_get _ _ hi]
   rw[ktL_len] at hk3 ⊢;have hsl:=fun w=>run_sliceH w gk ck hk3
   have HB:=hid_ofS hbel;have hsz:=hbel.size;have hbr:b<wr.heap.size:=by omega
   have A:=hid_ofS (padS_any b off cap n zs wr HN.out hbr (fun i hi=>by rw[World.cell?_of_block (w:=w) (hbel.block b hb)];exact HC.out i hi) hm);clear hown hbel;go_wp2_with fail;refine A.out.mono ?_;rintro e W ⟨vm,rfl,om,bm⟩;obtain⟨gm,cm,rfl,hm1,hm2,hm3⟩:=om.base;have HMC:Hid (∀ i,i<(padL zs).length→W.cell? ⟨gm,i,none⟩=some (.int .u8 ((padL zs).getD i 0))):=fun i hi=>by
    obtain⟨b',o',c',e',_,hcc⟩:=om.part;cases e';have:=hcc i hi
    rwa [Nat.zero_add] at this
   have HMS:Hid (MS W gk gm (padL zs) W):=⟨⟨Nat.lt_of_lt_of_le hk2 bm.size,fun i hi=>by rw[World.cell?_of_block (w:=wr) (bm.block gk hk2)];exact HKC.out i hi⟩,⟨hm2,HMC.out⟩,Below.refl _ _⟩
   have HHW:Hid (HW W (.slice (some ⟨gk,80,none⟩) 8 (ck-80)) (mbl zs 0)):=⟨gk,80,ck-80,rfl,HMS.out.k.1,fun i hi=>by
    rw[HMS.out.k.2 (80+i) (by omega)];show _=some (Value.int .u64 (ivL.getD i 0))
    rw[ivL_get i hi]⟩
   have HBW:=hdI <| HB.out.trans (bm.mono hsz)
   have HLP:Hid ((padL zs).length=128*nBl n):=by show _=_;rw[nBl_len,HN.out]
   rw[HLP.out] at hm3 ⊢;have hK:128*nBl n≤2097152+256:=by rw[←HLP.out,padL_len,HN.out];have:=(padZ_spec n).2;omega
   have HSH:Hid (txtW (mbl zs (nBl n))=shaL zs):=by show _=_;rw[←HN.out];exact mbl_sha zs (by rw[HN.out];exact hm)
   have HPB:=hid_ofS (padL_byte HZ.out);clear A hsl om bm HMC HKC HC HZ HB hk1 hm1 hk2 hm2;generalize nBl n=K at *;obtain⟨L,hL⟩:∃ L,L=128*K:=⟨_,rfl⟩
   rw[←hL] at hm3 HLP hK ⊢;have HL:=hid_ofS hL;clear hL;go_wp2
   go_loopw [5,7] (fun v i y=>∃ j I:Nat,j≤K∧I=128*j∧i=.int .i64 (I:Int)∧HW y v (mbl zs j)∧MS W gk gm (padL zs) y) (fun _ i _=>(L+128-(intOf i).toNat))
   case atStart=>exact⟨0,0,by omega,rfl,rfl,HHW.out,HMS.out⟩
   case round=>
    clear HHW HMS;obtain⟨j,I,hj,hI,rfl,⟨bh,oh,ch,rfl,hh1,hh2⟩,hms⟩:=hrel;have hL:=HL.out;have HI:=hid_ofS hI;by_cases hlt:j<K
    ·have hlt':(I:Int)<(L:Int):=by omega
     have hIL:I+128≤L:=by omega
     have hsl:=fun w=>run_sliceM w gm L cm I hIL hm3
     have HMS:=hid_ofS hms;have HBS:Hid (mbl zs (j+1)=mixL (mbl zs j) (((padL zs).drop (128*j)).take 128)):=rfl;have hbl:(((padL zs).drop (128*j)).take 128).length=128:=by rw[List.length_take,List.length_drop,HLP.out];omega
     have hbb:Byte (((padL zs).drop (128*j)).take 128):=fun z h=>HPB.out z (List.mem_of_mem_drop (List.mem_of_mem_take h))
     have hBK:BK wr bh oh gm I gk (mbl zs j) (((padL zs).drop (128*j)).take 128):=
      ⟨⟨hh1,hh2⟩,⟨hms.m.1,fun i hi=>by rw[hms.m.2 (I+i) (by rw[HLP.out];omega),pblk_get _ _ _ hi,hI]⟩,hms.k⟩
     have A:=hid_ofS (blockS_any bh oh ch gm I (cm-I) gk ck _ _ wr hBK (mbl_w8 zs j) hbl hbb (by omega));rw[←HBS.out] at A;have HJ:Hid (j+1≤K∧I+128=128*(j+1)):=by constructor<;>omega
     clear hms hh2 hbl hbb hBK HBS hI hL hj hlt;go_wp2_with fail;refine A.out.mono ?_;rintro e w3 ⟨v3,rfl,o3,b3⟩;have HMS3:=hid_ofS (HMS.out.new b3);have HHW3:=hid_ofS (HW.of_own o3 (mbl_w8 zs (j+1)).1);clear A hsl o3 b3 HMS;go_wp2;go_roundw
     case rel=>exact⟨j+1,I+128,HJ.out.1,HJ.out.2,by go_num,HHW3.out,HMS3.out⟩
     case measure=>simp[intOf];omega
    ·obtain rfl:j=K:=by omega
     have hlt':¬ ((I:Int)<(L:Int)):=by omega
     have HBR:=hdI <| HBW.out.trans (hms.below.mono HBW.out.size)
     have HHH:=hid_ofS hh2;have H8:=hid_ofS (mbl_w8 zs j);have hIb:I≤2097700:=by omega
     clear hms hh2 HBW HPB hI hL HI HL;generalize mbl zs j=hs at *;obtain⟨wy,rfl⟩:∃ y,y=wr:=⟨_,rfl⟩
     go_wp2
     go_loopw [8,9] (fun v i y=>∃ q:Nat,q≤8∧i=.int .i64 q∧Own y wy.heap.size v (txtW (hs.take q))∧Below wy.heap.size wy y) (fun _ i _=>8-(intOf i).toNat)
     case atStart=>exact⟨0,by omega,rfl,Own.empty _ _ (Nat.le_refl _),(Below.refl _ _).alloc (Nat.le_refl _) _⟩
     case round=>
      obtain⟨q,hq,rfl,hown,hbel⟩:=hrel;by_cases hlq:q<8
      ·have hlq':(q:Int)<8:=by omega
       have hsz:=hbel.size;have hcl:=HHH.out q hlq;rw[←World.cell?_of_block (w':=wr) (hbel.block bh hh1)] at hcl;have HSN:=hid_ofS (txtW_snoc hs q (by rw[H8.out.1];exact hlq));have HPL:=hid_ofS (txtW_len (hs.take q));rw[List.length_take,H8.out.1] at HPL;have hu:=H8.out.2 q;have HO:=hid_ofS hown;have HB:=hid_ofS hbel;clear hown hbel;obtain⟨x,hx⟩:∃ x,x=hs.getD q 0:=⟨_,rfl⟩
       rw[←hx] at hcl hu HSN;clear hx;have A:=hid_ofS (bytesS_any x wr hu);obtain⟨hu0,hu1⟩:=hu;go_wp2_with fail;refine A.out.mono ?_;rintro e w5 ⟨v5,rfl,o5,b5⟩;obtain⟨g5,c5,rfl,h51,h52,h53⟩:=o5.base;have HC5:Hid (∀ i,i<8→w5.cell? ((⟨g5,0,none⟩:Addr).add i)=some (.int .u8 ((by8 x).getD i 0))):=fun i hi=>by
        obtain⟨b',o',c',e',_,hcc⟩:=o5.part;cases e';rw[Addr.add_lit];exact hcc i (by rw[by8_len];exact hi)
       have HO5:=hid_ofS (own_grow HO.out b5);have HB5:=hid_ofS (HB.out.trans (b5.mono hsz));have hsz5:=HB5.out.size;rw[by8_len];clear A HO HB o5 b5;have HLY:Hid ((txtW (hs.take q)).length+8≤1099511627776):=by show _≤_;rw[HPL.out];omega
       go_wp2_with (at_builtin;refine wpList_app _ rfl _ _ rfl wy.heap.size _ _ rfl HO5.out ⟨g5,0,none⟩ 8 c5 (by8 x) rfl (by8_len _) HC5.out HLY.out hsz5 ?_);intro v6 w6 o6 b6 _;have HO6:Hid (Own w6 wy.heap.size v6 (txtW (hs.take (q+1)))):=by rw[HSN.out];exact o6
       have HB6:=hid_ofS (HB5.out.trans b6);clear o6 b6 HO5 HB5;go_wp2;go_roundw
       case rel=>exact⟨q+1,by omega,by go_num,HO6.out,HB6.out⟩
       case measure=>simp[intOf];omega
      ·obtain rfl:q=8:=by omega
       rw[List.take_of_length_le (by rw[H8.out.1];exact Nat.le_refl _),HSH.out] at hown;have HOF:Hid (Own _ w.heap.size _ (shaL zs)):=hown.lowK HBR.out.size;have HBF:=hid_ofS (HBR.out.trans (hbel.mono HBR.out.size));clear hown hbel;go_wp2
       go_ret
       exact⟨_,rfl,HOF.out,HBF.out⟩
def cdQ (P:Q4):Int:=cdV P.1 P.2.1 P.2.2.1
def hsV (pub msg sig:List Int):Int:=val 256 (shaL (sig.take 32++pub++msg))%bigL
def eqnS (pub msg sig:List Int):Bool:=decide (cdQ (mS (val 256 (sig.drop 32)) (ptQ bB) 256).1=cdQ (F4 (ptQ (sig.take 32)) (mS (hsV pub msg sig) (ptQ pub) 256).1))
def eqnI (pub msg sig:List Int):Bool:=decide (cdQ (pS (val 256 (sig.drop 32)) (ptQ bB) 256)=cdQ (F4 (ptQ (sig.take 32)) (pS (hsV pub msg sig) (ptQ pub) 256)))
def vsR (pub msg sig:List Int):Bool:=decide (sig.length=64) && decide (val 256 (sig.drop 32)<bigL) && mB pub mdD && mB (sig.take 32) mdD && eqnS pub msg sig
theorem cdQ_scl (k:Nat) (P:Q4):cdQ (scl (2^k) P)=cdQ P:=cdV_scl k _ _ _
theorem eqn_same (pub msg sig:List Int) (hp:Rd (ptQ pub)) (hs:Rd (ptQ (sig.take 32))) (hb:Rd (ptQ bB)):eqnI pub msg sig=eqnS pub msg sig:=by
 unfold eqnI eqnS;obtain⟨⟨j,hj⟩,_,_⟩:=same_S (val 256 (sig.drop 32)) (ptQ bB) hb 256;obtain⟨⟨k,hk⟩,_,_⟩:=same_S (hsV pub msg sig) (ptQ pub) hp 256;rw[hj,hk,cdQ_scl];have e:F4 (ptQ (sig.take 32)) (scl (2^k) (mS (hsV pub msg sig) (ptQ pub) 256).1)=scl (2^(k+k)) (F4 (ptQ (sig.take 32)) (mS (hsV pub msg sig) (ptQ pub) 256).1):=by
  conv=>lhs;rw[←scl_one hs]
  rw[F4_scl,Int.one_mul,←Int.pow_add]
 rw[e,cdQ_scl]
structure PtA (w:World) (b o:Nat) (zs:List Int):Prop where
 lt:b<w.heap.size
 c:∀ i,i<zs.length→w.cell? ⟨b,o+i,none⟩=some (.int .u8 (zs.getD i 0))
theorem PtA.below {w w':World} {b o:Nat} {zs:List Int} (h:PtA w b o zs) (hb:Below w.heap.size w w'):PtA w' b o zs:=
 ⟨Nat.lt_of_lt_of_le h.lt hb.size,fun i hi=>by rw[World.cell?_of_block (w:=w) (hb.block b h.lt)];exact h.c i hi⟩
theorem PtA.at_ {w:World} {b o:Nat} {zs:List Int} (h:PtA w b o zs):At .u8 w (some ⟨b,o,none⟩) zs:=.inr ⟨b,o,rfl,h.lt,h.c⟩
theorem PtA.take {w:World} {b o:Nat} {zs:List Int} (h:PtA w b o zs) (n:Nat):PtA w b o (zs.take n):=
 ⟨h.lt,fun i hi=>by rw[List.length_take] at hi;rw[h.c i (by omega),getD_takeI _ _ _ (by omega)]⟩
theorem PtA.drop {w:World} {b o:Nat} {zs:List Int} (h:PtA w b o zs) (n:Nat):PtA w b (o+n) (zs.drop n):=
 ⟨h.lt,fun i hi=>by rw[List.length_drop] at hi;rw[Nat.add_assoc,h.c (n+i) (by omega),getD_dropI]⟩
theorem PtA.part {w:World} {b o:Nat} {zs:List Int} (h:PtA w b o zs) (n c:Nat) (hn:zs.length=n):Part w (.slice (some ⟨b,o,none⟩) n c) zs:=⟨b,o,c,by rw[hn],h.lt,h.c⟩
theorem PtA.of_own {w:World} {B:Nat} {v:Value} {zs:List Int} (h:Own w B v zs):∃ g c,v=.slice (some ⟨g,0,none⟩) zs.length c∧PtA w g 0 zs∧zs.length≤c:=by
 obtain⟨g,c,e,_,_,hc⟩:=h.base;obtain⟨b',o',c',e',hl,hcc⟩:=h.part;rw[e] at e';cases e';exact⟨g,c,e,⟨hl,hcc⟩,hc⟩
theorem byte_take {zs:List Int} (h:Byte zs) (n:Nat):Byte (zs.take n):=fun z hz=>h z (List.mem_of_mem_take hz)
theorem byte_drop {zs:List Int} (h:Byte zs) (n:Nat):Byte (zs.drop n):=fun z hz=>h z (List.mem_of_mem_drop hz)
theorem run_sliceHi (w:World) (b o c:Nat) (hc:64≤c):(Instr.sliceAt 22 (.slice (some ⟨b,o,none⟩) 64 c) (some (.int .i64 32)) none none).run Tryz.prog w=.ok (.slice (some ⟨b,o+32,none⟩) 32 (c-32)) w:=by
 have h4:¬ (c=32):=by omega
 unfold Instr.sliceAt;simp[run_underlying Tryz.underlying22,go_sem,Instr.sliceBounds,h4,Addr.add];try omega
theorem run_sliceLo (w:World) (b o c:Nat) (hc:64≤c):(Instr.sliceAt 22 (.slice (some ⟨b,o,none⟩) 64 c) none (some (.int .i64 32)) none).run Tryz.prog w=.ok (.slice (some ⟨b,o,none⟩) 32 c) w:=by
 have h2:(32:Int)≤(c:Int):=by omega
 unfold Instr.sliceAt;simp[run_underlying Tryz.underlying22,go_sem,Instr.sliceBounds,h2,Addr.add];try omega
def PtQ (w:World) (g:Nat) (Q:Q4):Prop:=
 ∃ g1 c1 g2 c2 g3 c3 g4 c4,PtW w g #[.slice (some ⟨g1,0,none⟩) 16 c1,.slice (some ⟨g2,0,none⟩) 16 c2,.slice (some ⟨g3,0,none⟩) 16 c3,.slice (some ⟨g4,0,none⟩) 16 c4]∧
  FeA w (some ⟨g1,0,none⟩) Q.1∧FeA w (some ⟨g2,0,none⟩) Q.2.1∧FeA w (some ⟨g3,0,none⟩) Q.2.2.1∧FeA w (some ⟨g4,0,none⟩) Q.2.2.2
theorem PtQ.below {w w':World} {g:Nat} {Q:Q4} (h:PtQ w g Q) (hb:Below w.heap.size w w'):PtQ w' g Q:=by
 obtain⟨g1,c1,g2,c2,g3,c3,g4,c4,hp,f1,f2,f3,f4⟩:=h;exact⟨g1,c1,g2,c2,g3,c3,g4,c4,hp.below hb hp.lt,f1.below hb,f2.below hb,f3.below hb,f4.below hb⟩
def TmV (w:World) (v:Value) (Q:Q4):Prop:=
 ∃ g1 c1 g2 c2 g3 c3 g4 c4,v=.agg #[.slice (some ⟨g1,0,none⟩) 16 c1,.slice (some ⟨g2,0,none⟩) 16 c2,.slice (some ⟨g3,0,none⟩) 16 c3,.slice (some ⟨g4,0,none⟩) 16 c4]∧
  FeA w (some ⟨g1,0,none⟩) Q.1∧FeA w (some ⟨g2,0,none⟩) Q.2.1∧FeA w (some ⟨g3,0,none⟩) Q.2.2.1∧FeA w (some ⟨g4,0,none⟩) Q.2.2.2
theorem TmV.below {w w':World} {v:Value} {Q:Q4} (h:TmV w v Q) (hb:Below w.heap.size w w'):TmV w' v Q:=by
 obtain⟨g1,c1,g2,c2,g3,c3,g4,c4,hp,f1,f2,f3,f4⟩:=h;exact⟨g1,c1,g2,c2,g3,c3,g4,c4,hp,f1.below hb,f2.below hb,f3.below hb,f4.below hb⟩
theorem TmV.elim_ {w:World} {v:Value} {Q:Q4} {C:Prop} (h:TmV w v Q) (k:∀ g1 c1 g2 c2 g3 c3 g4 c4,v=.agg #[.slice (some ⟨g1,0,none⟩) 16 c1,.slice (some ⟨g2,0,none⟩) 16 c2,.slice (some ⟨g3,0,none⟩) 16 c3,.slice (some ⟨g4,0,none⟩) 16 c4]→FeA w (some ⟨g1,0,none⟩) Q.1→FeA w (some ⟨g2,0,none⟩) Q.2.1→FeA w (some ⟨g3,0,none⟩) Q.2.2.1→FeA w (some ⟨g4,0,none⟩) Q.2.2.2→C):C:=by
 obtain⟨g1,c1,g2,c2,g3,c3,g4,c4,hp,f1,f2,f3,f4⟩:=h;exact k g1 c1 g2 c2 g3 c3 g4 c4 hp f1 f2 f3 f4
theorem PtW.fe {w:World} {G g:Nat} {a:Option Addr} {n c:Nat} {s1 s2 s3:Value} {x:Int} (h:PtW w G #[.slice a n c,s1,s2,s3]) (f:FeA w (some ⟨g,0,none⟩) x):g≠G:=by
 intro e;subst e;obtain⟨zs,h1,h2,_⟩:=f;obtain⟨b,o,e,_,hc⟩:=h1.get (by have:=h2.1;omega);cases e;have c0:=hc 0 (by have:=h2.1;omega);rw[Nat.zero_add,h.c0] at c0;cases c0
def z4:Array Value:=#[.slice none 0 0,.slice none 0 0,.slice none 0 0,.slice none 0 0]
def PtZ (B:Nat) (w:World) (v:Value):Prop:=∃ g,v=.pointer (some ⟨g,0,none⟩)∧B≤g∧PtW w g #[.slice none 0 0,.slice none 0 0,.slice none 0 0,.slice none 0 0]
theorem PtZ.below {B:Nat} {w w':World} {v:Value} (h:PtZ B w v) (hb:Below w.heap.size w w'):PtZ B w' v:=by
 obtain⟨g,e,h1,h2⟩:=h;exact⟨g,e,h1,h2.below hb h2.lt⟩
def PtF (w:World) (v:Value) (Q:Q4):Prop:=∃ g,v=.pointer (some ⟨g,0,none⟩)∧PtQ w g Q
theorem PtF.below {w w':World} {v:Value} {Q:Q4} (h:PtF w v Q) (hb:Below w.heap.size w w'):PtF w' v Q:=by
 obtain⟨g,e,h1⟩:=h;exact⟨g,e,h1.below hb⟩
structure SXv (W:World) (a s c:Nat) (Q:Q4) (L:Nat→Bool) (u:Nat→Value) (w:World):Prop where
 below:Below W.heap.size W w
 fin:L s=true→(L a=true∧L c=true)∧PtF w (u a) Q
section
variable {W:World} {a s c:Nat} {Q:Q4} {L:Nat→Bool} {u:Nat→Value} {w w':World}
theorem SXv.start (h:∀ i,L i=false):SXv W a s c Q L u W.drew:=⟨(Below.refl _ _).drew,fun h'=>by rw[h] at h';cases h'⟩
theorem updK_neS (L:Nat→Bool) {i j:Nat} (h:j≠i):updK L i j=L j:=by unfold updK;rw[if_neg h]
theorem upd_neS (u:Nat→Value) {i j:Nat} (v:Value) (h:j≠i):upd u i v j=u j:=by unfold upd;rw[if_neg h]
theorem SXv.step (h:SXv W a s c Q L u w) (i:Nat) (v:Value) (hb:Below w.heap.size w w') (hs:s≠i) (ha:a≠i):SXv W a s c Q (updK L i) (upd u i v) w':=
 ⟨h.below.trans (hb.mono h.below.size),by
  rw[updK_neS L hs,updK_neS L ha,upd_neS u v ha];exact fun h'=>⟨⟨(h.fin h').1.1,by have:=(h.fin h').1.2;unfold updK;split<;>simp[this]⟩,(h.fin h').2.below hb⟩⟩
theorem SXv.made (h:SXv W a s c Q L u w) (v:Value) (hb:Below w.heap.size w w') (hs:s≠a) (hL:L a=false):SXv W a s c Q (updK L a) (upd u a v) w':=
 ⟨h.below.trans (hb.mono h.below.size),by
  rw[updK_neS L hs];intro h';have:=(h.fin h').1.1;rw[hL] at this;cases this⟩
theorem SXv.set (h:SXv W a s c Q L u w) (v:Value) (hb:Below W.heap.size w w') (hs:a≠s) (hc:c≠s) (hL:L a=true) (hLc:L c=true) (hf:PtF w' (u a) Q):SXv W a s c Q (updK L s) (upd u s v) w':=
 ⟨h.below.trans hb,fun _=>⟨⟨by rw[updK_neS L hs];exact hL,by rw[updK_neS L hc];exact hLc⟩,by rw[upd_neS u v hs];exact hf⟩⟩
end
theorem wp_storeS {w:World} {o:Oper} {a:Act} {K:Act→World→Prop} {Q:Exit→Act→World→Prop} (x y:Operand) (ho:o.op=.store 79 x y) (B:Nat) (R:Q4) (vx vy:Value)
  (hx:a.eval x=vx) (hy:a.eval y=vy) (hz:PtZ B w vx) (ht:TmV w vy R) (hK:∀ w',Below B w w'→PtF w' vx R→K (a.put o.dst undef) w'):o.wp Tryz.prog a w K Q:=by
 obtain⟨g,rfl,h1,h2⟩:=hz;obtain⟨g1,c1,g2,c2,g3,c3,g4,c4,rfl,f1,f2,f3,f4⟩:=ht;have hw:Wr g w (w.setRow g #[.slice (some ⟨g1,0,none⟩) 16 c1,.slice (some ⟨g2,0,none⟩) 16 c2,.slice (some ⟨g3,0,none⟩) 16 c3,.slice (some ⟨g4,0,none⟩) 16 c4]):=Wr.setRow _ _ _;refine wp_store_row 79 x y ho g #[.slice (some ⟨g1,0,none⟩) 16 c1,.slice (some ⟨g2,0,none⟩) 16 c2,.slice (some ⟨g3,0,none⟩) 16 c3,.slice (some ⟨g4,0,none⟩) 16 c4] hx hy 79 _ h2 Tryz.sizePt rfl (by simp[Value.oneCell']) ?_;exact hK _ (hw.below h1) ⟨g,rfl,g1,c1,g2,c2,g3,c3,g4,c4,setRow_heap _ _ _ _ _ _ h2,f1.wr hw (h2.fe f1),f2.wr hw (h2.fe f2),f3.wr hw (h2.fe f3),f4.wr hw (h2.fe f4)⟩
def CdW (w:World) (v:Value) (V:Int):Prop:=∃ g c bs,v=.slice (some ⟨g,0,none⟩) 32 c∧PtA w g 0 bs∧Byte bs∧bs.length=32∧val 256 bs=V
theorem CdW.below {w w':World} {v:Value} {V:Int} (h:CdW w v V) (hb:Below w.heap.size w w'):CdW w' v V:=by
 obtain⟨g,c,bs,e,h1,h2⟩:=h;exact⟨g,c,bs,e,h1.below hb,h2⟩
def StV (w:World) (v:Value) (V:Int):Prop:=∃ bs,v=.string (strOfNums bs)∧Byte bs∧bs.length=32∧val 256 bs=V
theorem StV.below {w w':World} {v:Value} {V:Int} (h:StV w v V) (hb:Below w.heap.size w w'):StV w' v V:=h
theorem str_injS {xs ys:List Int} (hx:Byte xs) (hy:Byte ys):((strOfNums xs).toList == (strOfNums ys).toList)=decide (xs=ys):=by
 rw[Bool.eq_iff_iff,decide_eq_true_eq,beq_iff_eq,ByteArray.toList_eq,ByteArray.toList_eq,strOfNums_data,strOfNums_data];constructor
 ·intro h;have hl:xs.length=ys.length:=by simpa using congrArg List.length h
  apply List.ext_getElem hl;intro i h1 h2;have e:(xs.map fun n=>UInt8.ofNat n.toNat)[i]?=(ys.map fun n=>UInt8.ofNat n.toNat)[i]?:=by rw[h]
  simp[h1,h2] at e;have e':=congrArg UInt8.toNat e;have bx:=hx xs[i] (List.getElem_mem h1);have by':=hy ys[i] (List.getElem_mem h2);simp only[UInt8.toNat_ofNat'] at e';omega
 ·rintro rfl;rfl
theorem str_val {xs ys:List Int} (hx:Byte xs) (hy:Byte ys) (lx:xs.length=32) (ly:ys.length=32):((strOfNums xs).toList == (strOfNums ys).toList)=decide (val 256 xs=val 256 ys):=by
 rw[str_injS hx hy];by_cases h:xs=ys
 ·rw[decide_eq_true h,decide_eq_true (by rw[h])]
 ·rw[decide_eq_false h,decide_eq_false (fun e=>h (val_inj (B:=256) (by decide) hx hy (by omega) e))]
theorem vsR_64s {pub msg sig:List Int} (h:¬ sig.length=64):vsR pub msg sig=false:=by unfold vsR;simp[h]
theorem vsR_32s {pub msg sig:List Int} (h:¬ pub.length=32):vsR pub msg sig=false:=by
 have:mB pub mdD=false:=by
  cases hb:mB pub mdD with
  |false=>rfl
  |true=>exact absurd (mB_len2 hb).1 h
 unfold vsR;simp[this]
theorem vsR_qs {pub msg sig:List Int} (h:decide (val 256 (sig.drop 32)<bigL)=false):vsR pub msg sig=false:=by unfold vsR;simp[h]
theorem vsR_ps {pub msg sig:List Int} (h:mB pub mdD=false):vsR pub msg sig=false:=by unfold vsR;simp[h]
theorem vsR_rs {pub msg sig:List Int} (h:mB (sig.take 32) mdD=false):vsR pub msg sig=false:=by unfold vsR;simp[h]
theorem vsR_es {pub msg sig:List Int} (h1:sig.length=64) (h2:decide (val 256 (sig.drop 32)<bigL)=true) (h3:mB pub mdD=true) (h4:mB (sig.take 32) mdD=true):vsR pub msg sig=eqnS pub msg sig:=by unfold vsR;rw[h2,h3,h4,decide_eq_true h1];simp
theorem md_pt {zs:List Int} {s1 s2 s3 s4:Value} {w2 w3:World} {G:Nat} (hok:mB zs mdD=true→∃ g1 c1 g2 c2 g3 c3 g4 c4,s1=.slice (some ⟨g1,0,none⟩) 16 c1∧s2=.slice (some ⟨g2,0,none⟩) 16 c2∧s3=.slice (some ⟨g3,0,none⟩) 16 c3∧s4=.slice (some ⟨g4,0,none⟩) 16 c4∧
   FeA w2 (some ⟨g1,0,none⟩) (mX zs mdD)∧FeA w2 (some ⟨g2,0,none⟩) (mY zs)∧FeA w2 (some ⟨g3,0,none⟩) (1%fp)∧FeA w2 (some ⟨g4,0,none⟩) (mX zs mdD*mY zs%fp))
  (hp:PtW w3 G #[s1,s2,s3,s4]) (hb:Below w2.heap.size w2 w3) (h:mB zs mdD=true):PtQ w3 G (ptQ zs):=by
 obtain⟨g1,c1,g2,c2,g3,c3,g4,c4,rfl,rfl,rfl,rfl,f1,f2,f3,f4⟩:=hok h;exact⟨g1,c1,g2,c2,g3,c3,g4,c4,hp,f1.below hb,f2.below hb,f3.below hb,f4.below hb⟩
set_option maxRecDepth 100000 in
set_option maxHeartbeats 16000000 in
theorem vsS_any (bp op cp bm om cm bs os cs np nm ns:Nat) (pub msg sig:List Int) (w:World) (hpl:pub.length=np) (hml:msg.length=nm) (hsl:sig.length=ns) (hp:PtA w bp op pub) (hm:PtA w bm om msg) (hs:PtA w bs os sig)
  (zp:Byte pub) (zm:Byte msg) (zs:Byte sig) (hcs:ns≤cs) (bnp:np≤1048576) (bnm:nm≤1048576) (bns:ns≤1048576) :
  Calls Tryz.prog 67 #[.slice (some ⟨bp,op,none⟩) np cp,.slice (some ⟨bm,om,none⟩) nm cm,.slice (some ⟨bs,os,none⟩) ns cs] w fun e w'=>e=.returned (.bool (vsR pub msg sig))∧Below w.heap.size w w':=by
 have HP:=hid_ofS hp;have HM:=hid_ofS hm;have HS:=hid_ofS hs;have HZ:=hid_ofS (And.intro zp (And.intro zm zs));by_cases h32:np=32
 ·subst h32;by_cases h64:ns=64
  ·subst h64;have hslh:=fun w=>run_sliceHi w bs os cs hcs
   have hsll:=fun w=>run_sliceLo w bs os cs hcs
   have hdl:(sig.drop 32).length=32:=by rw[List.length_drop,hsl]
   have htl:(sig.take 32).length=32:=by rw[List.length_take,hsl];rfl
   go_enter Tryz.func67,Tryz.ntmps67;go_wp2_with fail;refine(sok_any (some ⟨bs,os+32,none⟩) 32 (cs-32) (sig.drop 32) _ hdl (HS.out.drop 32).at_ (byte_drop HZ.out.2.2 32)).mono ?_;rintro e w0 ⟨rfl,b0⟩;have HB0:=hid_ofS b0;have hqq:decide (32=32∧val 256 (sig.drop 32)<bigL)=decide (val 256 (sig.drop 32)<bigL):=by simp
   rw[hqq];cases hq:decide (val 256 (sig.drop 32)<bigL) with
   |false=>
    have HV:=hid_ofS (vsR_qs (pub:=pub) (msg:=msg) hq);go_wp2
    go_ret
    exact⟨by rw[HV.out];rfl,HB0.out⟩
   |true=>
    have HQ:=hid_ofS hq;go_wp2_with fail;refine(d_any _).mono ?_;rintro e w1 ⟨gd,cd,rfl,_,_,hf,hb⟩;have HB1:=hdI <| HB0.out.trans (hb.mono HB0.out.size)
    have HD1:=hid_ofS hf;go_wp2_with fail;refine(decodeS_any (some ⟨bp,op,none⟩) _ 32 cp cd pub mdD _ hpl (by decide) (HP.out.below HB1.out).at_ HZ.out.1 HD1.out).mono ?_;rintro e w2 ⟨s1,s2,s3,s4,rfl,hb2,hone,hok⟩;have HON:=hid_ofS hone;have HOK:=hid_ofS hok;have HPN:=hid_ofS (PtW.new w2);have HB2:=hdI <| HB1.out.trans (hb2.mono HB1.out.size)
    have HD2:=hid_ofS (HD1.out.below hb2);generalize hqa:mB pub mdD=qa at *;have HQA:=hid_ofS hqa;go_wp2_with (first
     |(refine wpList_storePt rfl (.tmp 9) (.tmp 37) rfl w2.heap.size s1 s2 s3 s4 _ HON.out.1 HON.out.2.1 HON.out.2.2.1 HON.out.2.2.2 rfl rfl rfl HPN.out ?_)
     |fail)
    intro w3 hp3 hw3;have b23:=(below_new3 _ _).trans (hw3.below (Nat.le_refl _));have HB3:=hdI <| HB2.out.trans (b23.mono HB2.out.size)
    have HD3:=hid_ofS (HD2.out.below b23);have HA3:Hid (qa=true→PtQ w3 w2.heap.size (ptQ pub)):=fun h=>md_pt (fun h'=>HOK.out (by rw[←HQA.out];exact h')) hp3 b23 (by rw[HQA.out];exact h)
    generalize w2.heap.size=Ga at *;go_wp2_with fail;refine(decodeS_any (some ⟨bs,os,none⟩) _ 32 cs cd (sig.take 32) mdD _ htl (by decide) ((HS.out.below HB3.out).take 32).at_ (byte_take HZ.out.2.2 32) HD3.out).mono ?_;rintro e w4 ⟨r1,r2,r3,r4,rfl,hb4,hone,hok⟩;have HON:=hid_ofS hone;have HOK:=hid_ofS hok;have HPN:=hid_ofS (PtW.new w4);have HB4:=hdI <| HB3.out.trans (hb4.mono HB3.out.size)
    have HD4:=hid_ofS (HD3.out.below hb4);have HA4:Hid (qa=true→PtQ w4 Ga (ptQ pub)):=fun h=>(HA3.out h).below hb4
    generalize hqr:mB (sig.take 32) mdD=qr at *;have HQR:=hid_ofS hqr;go_wp2_with (first
     |(refine wpList_storePt rfl (.tmp 11) (.tmp 44) rfl w4.heap.size r1 r2 r3 r4 _ HON.out.1 HON.out.2.1 HON.out.2.2.1 HON.out.2.2.2 rfl rfl rfl HPN.out ?_)
     |fail)
    intro w5 hp5 hw5;have b45:=(below_new3 _ _).trans (hw5.below (Nat.le_refl _));have HB5:=hdI <| HB4.out.trans (b45.mono HB4.out.size)
    have HD5:=hid_ofS (HD4.out.below b45);have HA5:Hid (qa=true→PtQ w5 Ga (ptQ pub)):=fun h=>(HA4.out h).below b45
    have HR5:Hid (qr=true→PtQ w5 w4.heap.size (ptQ (sig.take 32))):=fun h=>md_pt (fun h'=>HOK.out (by rw[←HQR.out];exact h')) hp5 b45 (by rw[HQR.out];exact h)
    generalize w4.heap.size=Gr at *;cases qa with
    |false=>
     have HV:=hid_ofS (vsR_ps (msg:=msg) (sig:=sig) HQA.out);go_wp2
     go_ret
     exact⟨by rw[HV.out];rfl,HB5.out⟩
    |true=>
     cases qr with
     |false=>
      have HV:=hid_ofS (vsR_rs (msg:=msg) (pub:=pub) HQR.out);go_wp2
      go_ret
      exact⟨by rw[HV.out];rfl,HB5.out⟩
     |true=>
      have HVR:=hid_ofS (vsR_es (msg:=msg) hsl HQ.out HQA.out HQR.out);have HA6:=hid_ofS (HA5.out rfl);have HR6:=hid_ofS (HR5.out rfl);go_wp2_with fail;refine(sbas_any _).mono ?_;rintro e w6 ⟨v6,b6s,rfl,o6,c1,c2,c3,b6⟩;obtain rfl:=bB_of c1 c2 c3;obtain⟨g6,c6,rfl,hA6,hc6⟩:=PtA.of_own o6;have HB6:=hdI <| HB5.out.trans (b6.mono HB5.out.size)
      have HD6:=hid_ofS (HD5.out.below b6);have HPA6:=hid_ofS (HA6.out.below b6);have HPR6:=hid_ofS (HR6.out.below b6);have HBB6:=hid_ofS hA6;rw[bB_len];go_wp2_with fail;refine(decodeS_any (some ⟨g6,0,none⟩) _ 32 c6 cd bB mdD _ bB_len (by decide) HBB6.out.at_ bB_byte HD6.out).mono ?_;rintro e w7 ⟨t1,t2,t3,t4,rfl,hb7,hone,hok⟩;have HON:=hid_ofS hone;have HOK:=hid_ofS hok;have HPN:=hid_ofS (PtW.new w7);have HB7:=hdI <| HB6.out.trans (hb7.mono HB6.out.size)
      have HD7:=hid_ofS (HD6.out.below hb7);have HPA7:=hid_ofS (HPA6.out.below hb7);have HPR7:=hid_ofS (HPR6.out.below hb7);have HMB:=hid_ofS bB_ok;generalize mB bB mdD=mb at *;go_wp2_with (first
       |(refine wpList_storePt rfl (.tmp 13) (.tmp 56) rfl w7.heap.size t1 t2 t3 t4 _ HON.out.1 HON.out.2.1 HON.out.2.2.1 HON.out.2.2.2 rfl rfl rfl HPN.out ?_)
       |fail)
      intro w8 hp8 hw8;have b78:=(below_new3 _ _).trans (hw8.below (Nat.le_refl _));have HB8:=hdI <| HB7.out.trans (b78.mono HB7.out.size)
      have HD8:=hid_ofS (HD7.out.below b78);have HPA8:=hid_ofS (HPA7.out.below b78);have HPR8:=hid_ofS (HPR7.out.below b78);have HPB8:=hdI <| md_pt (fun _=>HOK.out HMB.out) hp8 b78 bB_ok
      generalize w7.heap.size=Gb at *;have hfl:[sig.take 32,pub,msg].flatten=sig.take 32++pub++msg:=by simp
      have hfn:(sig.take 32++pub++msg).length=32+32+nm:=by rw[List.length_append,List.length_append,htl,hpl,hml]
      have HAL:Hid (Below w8.heap.size w8 (w8.alloc (.cells #[.slice (some ⟨bs,os,none⟩) 32 cs,.slice (some ⟨bp,op,none⟩) 32 cp,.slice (some ⟨bm,om,none⟩) nm cm] 22))):=below_new3 _ _;have CC:Hid (Calls Tryz.prog 63 #[.slice (some ⟨w8.heap.size,0,none⟩) 3 3] (w8.alloc (.cells #[.slice (some ⟨bs,os,none⟩) 32 cs,.slice (some ⟨bp,op,none⟩) 32 cp,.slice (some ⟨bm,om,none⟩) nm cm] 22)) _):=
       cat_any w8.heap.size 3 3 [.slice (some ⟨bs,os,none⟩) 32 cs,.slice (some ⟨bp,op,none⟩) 32 cp,.slice (some ⟨bm,om,none⟩) nm cm] [sig.take 32,pub,msg] _ rfl (by simp)
        (fun i hi=>by
         rw[cell_of_row _ _ i _ _ _ (heap_alloc_new w8 _)]
         match i,hi with
         |0,_=>rfl
         |1,_=>rfl
         |2,_=>rfl)
        (fun i hi=>by
         have bx:=HB8.out.trans (HAL.out.mono HB8.out.size)
         match i,hi with
         |0,_=>exact((HS.out.below bx).take 32).part 32 cs htl
         |1,_=>exact(HP.out.below bx).part 32 cp hpl
         |2,_=>exact(HM.out.below bx).part nm cm hml)
        (by rw[hfl,hfn];omega) (by decide)
      rw[hfl] at CC;have HFN:=hid_ofS hfn;go_wp2_with fail;refine CC.out.mono ?_;rintro e w9 ⟨v9,rfl,o9,b9⟩;obtain⟨g9,c9,rfl,hA9,hc9⟩:=PtA.of_own o9;have b89:=HAL.out.trans (b9.mono HAL.out.size);have HB9:=hdI <| HB8.out.trans (b89.mono HB8.out.size)
      have HD9:=hid_ofS (HD8.out.below b89);have HPA9:=hid_ofS (HPA8.out.below b89);have HPR9:=hid_ofS (HPR8.out.below b89);have HPB9:=hid_ofS (HPB8.out.below b89);have HBY:Hid (Byte (sig.take 32++pub++msg)):=fun z hz=>by
       simp only[List.mem_append] at hz;rcases hz with (h|h)|h
       ·exact byte_take HZ.out.2.2 32 z h
       ·exact HZ.out.1 z h
       ·exact HZ.out.2.1 z h
      have CH:=hid_ofS (shaS_any g9 0 c9 _ (sig.take 32++pub++msg) w9 rfl hA9.lt hA9.c HBY.out (by rw[HFN.out];omega));rw[HFN.out] at CH ⊢;go_wp2_with fail;refine CH.out.mono ?_;rintro e w10 ⟨v10,rfl,o10,b10⟩;obtain⟨g10,c10,rfl,hA10,hc10⟩:=PtA.of_own o10;have HB10:=hdI <| HB9.out.trans (b10.mono HB9.out.size)
      have HD10:=hid_ofS (HD9.out.below b10);have HPA10:=hid_ofS (HPA9.out.below b10);have HPR10:=hid_ofS (HPR9.out.below b10);have HPB10:=hid_ofS (HPB9.out.below b10);have hsl9:(shaL (sig.take 32++pub++msg)).length=64:=by unfold shaL;rw[txtW_len,(finL_w8 _ _ _).1]
      have CR:=hid_ofS (sred_any (some ⟨g10,0,none⟩) 64 c10 (shaL (sig.take 32++pub++msg)) w10 hsl9 (by decide) hA10.at_ (by unfold shaL;exact txtW_byte _));rw[hsl9];go_wp2_with fail;refine CR.out.mono ?_;rintro e w11 ⟨v11,ks,rfl,o11,hkb,hkl,hkv,b11⟩;obtain⟨gk,ck,rfl,hAk,hck⟩:=PtA.of_own o11;rw[hkl];have HB11:=hdI <| HB10.out.trans (b11.mono HB10.out.size)
      have HD:=hid_ofS (HD10.out.below b11);have HPA:=hid_ofS (HPA10.out.below b11);have HPR:=hid_ofS (HPR10.out.below b11);have HPB:=hid_ofS (HPB10.out.below b11);have HK:=hid_ofS hAk;have HKV:Hid (Byte ks∧ks.length=32∧val 256 ks=hsV pub msg sig):=⟨hkb,hkl,hkv⟩
      go_wp2_with fail;obtain⟨p1,pc1,p2,pc2,p3,pc3,p4,pc4,pW,pf1,pf2,pf3,pf4⟩:=HPB.out;have PW:=hid_ofS pW;have PF:=hid_ofS (And.intro pf1 (And.intro pf2 (And.intro pf3 pf4)));refine wp_region_any (by kernel_rfl) ?_;refine wpAny_slotsU (fun i x y=>i=6∨Below x.heap.size x y) (frame:=(fun (a b c d e f g h i j k l m n o p q r s u v w x y z A B C D E F G H I J K L M N O P Q R S T U V W X Y Z a0 a1 a2 a3 a4 a5 a6 a7 a8 a9 b0 b1 b2 b3 b4 b5 b6 b7 b8 b9 c0 c1 c2 c3 c4 c5 c6:Value)=>fun (t:Nat→Value)=>({ tmps:=List.toArray [a,b,c,d,e,f,g,h,i,j,k,l,m,n,o,t 5,p,q,r,s,u,v,w,x,y,z,A,B,C,D,E,F,G,H,I,J,K,L,M,N,O,P,Q,R,S,T,U,V,W,X,Y,Z,a0,a1,a2,a3,a4,a5,a6,a7,a8,a9,b0,b1,b2,t 0,t 1,t 2,t 3,t 4,b3,b4,b5,b6,b7,b8,b9,c0,c1,c2,c3,c4,c5,c6],defers:=[] }:Act)) _ _ _ _ _ _ _ _ _ _ _ _ _ _ _ _ _ _ _ _ _ _ _ _ _ _ _ _ _ _ _ _ _ _ _ _ _ _ _ _ _ _ _ _ _ _ _ _ _ _ _ _ _ _ _ _ _ _ _ _ _ _ _ _ _ _ _ _ _ _ _ _ _ _ _ _ _ _)
       (Ext:=fun L u w'=>SXv w11 5 6 4 ((mS (val 256 (sig.drop 32)) (ptQ bB) 256).1) L u w') (Good:=fun i L w' v=>if i=0 then v=.slice (some ⟨bs,os,none⟩) 64 cs else if i=1 then v=.slice (some ⟨bs,os+32,none⟩) 32 (cs-32) else if i=2 then v=.agg #[.slice (some ⟨p1,0,none⟩) 16 pc1,.slice (some ⟨p2,0,none⟩) 16 pc2,.slice (some ⟨p3,0,none⟩) 16 pc3,.slice (some ⟨p4,0,none⟩) 16 pc4] else if i=3 then v=.slice (some ⟨gd,0,none⟩) 16 cd else if i=4 then(L 6=true∨TmV w' v ((mS (val 256 (sig.drop 32)) (ptQ bB) 256).1)) else if i=5 then(L 6=true∨PtZ w11.heap.size w' v) else if i=6 then L 6=true else True) ?hstab (by kernel_rfl) ?hop ?hdone _ _ ((fun (x0 x1 x2 x3 x4 x5:Value)=>fun (i:Nat)=>if i=0 then x0 else if i=1 then x1 else if i=2 then x2 else if i=3 then x3 else if i=4 then x4 else if i=5 then x5 else undef) _ _ _ _ _ _) _ (by simp) ?ext ?start (by simp)
      case start=>intro i hi h;exact absurd h (by rw[Array.getD_eq_getD_getElem?,Array.getElem?_replicate];split<;>simp)
      case ext=>exact SXv.start (fun i=>by rw[Array.getD_eq_getD_getElem?,Array.getElem?_replicate];split<;>rfl)
      case hstab=>
       intro j L w9 w' i v hM hij hLi h;have hu:∀ k,L k=true→updK L i k=true:=fun k hk=>by unfold updK;split<;>simp[hk]
       by_cases h4:j=4
       ·subst h4;simp at h ⊢;rcases hM with rfl|hM
        ·exact .inl (by simp[updK])
        ·rcases h with h|h
         ·exact .inl (hu _ h)
         ·exact .inr (h.below hM)
       by_cases h5:j=5
       ·subst h5;simp at h ⊢;rcases hM with rfl|hM
        ·exact .inl (by simp[updK])
        ·rcases h with h|h
         ·exact .inl (hu _ h)
         ·exact .inr (h.below hM)
       by_cases hs:j=6
       ·subst hs;simp at h ⊢;exact hu _ h
       simp only[if_neg h4,if_neg h5,if_neg hs] at h ⊢;exact h
      case hop=>
       intro i o L t w' ho hLi hx hdep K hK;have hi:i<7:=(Array.getElem?_eq_some_iff.1 ho).1;obtain rfl|rfl|rfl|rfl|rfl|rfl|rfl:i=0∨i=1∨i=2∨i=3∨i=4∨i=5∨i=6:=by omega
       all_goals(simp at ho;subst ho)
       all_goals try(have hK':=hK w' _ rfl (hx.step _ _ (Below.refl _ _) (by decide) (by decide)) (.inr (Below.refl _ _));clear hK;simp[Region.binds] at hdep;rw[if_pos (by rfl)];go_simp;simpa[upd,hdep] using hK';done)
       ·clear hdep;have hK':=hK w' (.agg #[.slice (some ⟨p1,0,none⟩) 16 pc1,.slice (some ⟨p2,0,none⟩) 16 pc2,.slice (some ⟨p3,0,none⟩) 16 pc3,.slice (some ⟨p4,0,none⟩) 16 pc4]) (by simp) (hx.step 2 _ (Below.refl _ _) (by decide) (by decide)) (.inr (Below.refl _ _));rw[if_pos (by rfl)];refine wp_load_row 79 (.tmp 13) rfl Gb rfl 79 _ (0,0) _ (PW.out.below hx.below PW.out.lt) Tryz.underlying79 rfl Tryz.sizePt ?_;simpa[upd,Act.put] using hK'
       ·have d1:t 1=.slice (some ⟨bs,os+32,none⟩) 32 (cs-32):=by simpa using(hdep ⟨1,.data⟩ (by simp) rfl).2
        have d2:t 2=.agg #[.slice (some ⟨p1,0,none⟩) 16 pc1,.slice (some ⟨p2,0,none⟩) 16 pc2,.slice (some ⟨p3,0,none⟩) 16 pc3,.slice (some ⟨p4,0,none⟩) 16 pc4]:=by simpa using(hdep ⟨2,.data⟩ (by simp) rfl).2
        have d3:t 3=.slice (some ⟨gd,0,none⟩) 16 cd:=by simpa using(hdep ⟨3,.data⟩ (by simp) rfl).2
        have A:=ltimes_any (some ⟨bs,os+32,none⟩) (cs-32) (sig.drop 32) p1 p2 p3 p4 gd pc1 pc2 pc3 pc4 cd (ptQ bB) w' hdl (byte_drop HZ.out.2.2 32) ((HS.out.below (HB11.out.trans (hx.below.mono HB11.out.size))).drop 32).at_ (PF.out.1.below hx.below) (PF.out.2.1.below hx.below) (PF.out.2.2.1.below hx.below) (PF.out.2.2.2.below hx.below) (HD.out.below hx.below);have hK':∀ ww v,TmV ww v ((mS (val 256 (sig.drop 32)) (ptQ bB) 256).1)→Below w'.heap.size w' ww→K _ ww:=fun ww v hv hb=>hK ww v (by simp;exact .inr hv) (hx.step 4 v hb (by decide) (by decide)) (.inr hb)
        rw[if_pos (by rfl)];go_simp;try simp only[d1,d2,d3]
        refine A.mono ?_;rintro e w9 ⟨h1,k1,h2,k2,h3,k3,h4,k4,rfl,f1,f2,f3,f4,hb9⟩;have hK2:=hK' w9 _ ⟨h1,k1,h2,k2,h3,k3,h4,k4,rfl,f1,f2,f3,f4⟩ hb9;go_simp;simpa[upd,d1,d2,d3] using hK2
       ·clear hdep;have hK':=hK (w'.alloc (.cells #[.slice none 0 0,.slice none 0 0,.slice none 0 0,.slice none 0 0] 79)) (.pointer (some ⟨w'.heap.size,0,none⟩)) (by simp;exact .inr ⟨_,rfl,hx.below.size,PtW.new w'⟩) (hx.made _ (below_new3 _ _) (by decide) hLi) (.inr (below_new3 _ _));rw[if_pos (by rfl)];go_simp;simpa[upd] using hK'
       ·have l4:=(hdep ⟨4,.data⟩ (by simp) rfl).1;have f4:TmV w' (t 4) ((mS (val 256 (sig.drop 32)) (ptQ bB) 256).1):=by have h:=(hdep ⟨4,.data⟩ (by simp) rfl).2;simp at h;rcases h with h|h;(rw[hLi] at h;cases h);exact h
        have l5:=(hdep ⟨5,.data⟩ (by simp) rfl).1;have f5:PtZ w11.heap.size w' (t 5):=by have h:=(hdep ⟨5,.data⟩ (by simp) rfl).2;simp at h;rcases h with h|h;(rw[hLi] at h;cases h);exact h
        have hK':∀ w9,Below w11.heap.size w' w9→PtF w9 (t 5) ((mS (val 256 (sig.drop 32)) (ptQ bB) 256).1)→K _ w9:=fun w9 hb hf=>hK w9 undef (by simp[updK]) (hx.set undef hb (by decide) (by decide) l5 l4 hf) (.inl rfl)
        rw[if_pos (by rfl)];refine wp_storeS (.tmp 15) (.tmp 69) rfl w11.heap.size ((mS (val 256 (sig.drop 32)) (ptQ bB) 256).1) (t 5) (t 4) rfl rfl f5 f4 ?_;intro w9 hb hf;have hK2:=hK' w9 hb hf;simpa[upd,Act.put] using hK2
      case hdone=>
       intro L t w12 hx hg;have hl:L 6=true:=by simpa using hg 6 (by decide)
       obtain⟨_,hf⟩:=hx.fin hl;have hb:=hx.below;obtain⟨Gl,eGl,hGl⟩:=hf;have HB12:=hdI <| HB11.out.trans (hb.mono HB11.out.size)
       have HD12:=hid_ofS (HD.out.below hb);have HPA12:=hid_ofS (HPA.out.below hb);have HPR12:=hid_ofS (HPR.out.below hb);have HPL12:=hid_ofS hGl;have HK12:=hid_ofS (HK.out.below hb);simp only[eGl];go_wp2_with fail;obtain⟨r1,rc1,r2,rc2,r3,rc3,r4,rc4,rW,rf1,rf2,rf3,rf4⟩:=HPR12.out;have RW:=hid_ofS rW;have RF:=hid_ofS (And.intro rf1 (And.intro rf2 (And.intro rf3 rf4)));obtain⟨a1,ac1,a2,ac2,a3,ac3,a4,ac4,aW,af1,af2,af3,af4⟩:=HPA12.out;have AW:=hid_ofS aW;have AF:=hid_ofS (And.intro af1 (And.intro af2 (And.intro af3 af4)));refine wp_region_any (by kernel_rfl) ?_;refine wpAny_slotsU (fun i x y=>i=8∨Below x.heap.size x y) (frame:=(fun (a b c d e f g h i j k l m n o p q r s u v w x y z A B C D E F G H I J K L M N O P Q R S T U V W X Y Z a0 a1 a2 a3 a4 a5 a6 a7 a8 a9 b0 b1 b2 b3 b4 b5 b6 b7 b8 b9 c0 c1 c2 c3 c4:Value)=>fun (t:Nat→Value)=>({ tmps:=List.toArray [a,b,c,d,e,f,g,h,i,j,k,l,m,n,o,p,t 7,q,r,s,u,v,w,x,y,z,A,B,C,D,E,F,G,H,I,J,K,L,M,N,O,P,Q,R,S,T,U,V,W,X,Y,Z,a0,a1,a2,a3,a4,a5,a6,a7,a8,a9,b0,b1,b2,b3,b4,b5,b6,b7,t 0,t 1,t 2,t 3,t 4,t 5,t 6,b8,b9,c0,c1,c2,c3,c4],defers:=[] }:Act)) _ _ _ _ _ _ _ _ _ _ _ _ _ _ _ _ _ _ _ _ _ _ _ _ _ _ _ _ _ _ _ _ _ _ _ _ _ _ _ _ _ _ _ _ _ _ _ _ _ _ _ _ _ _ _ _ _ _ _ _ _ _ _ _ _ _ _ _ _ _ _ _ _ _ _ _)
        (Ext:=fun L u w'=>SXv w12 7 8 6 (F4 (ptQ (sig.take 32)) (mS (hsV pub msg sig) (ptQ pub) 256).1) L u w') (Good:=fun i L w' v=>if i=0 then v=.agg #[.slice (some ⟨r1,0,none⟩) 16 rc1,.slice (some ⟨r2,0,none⟩) 16 rc2,.slice (some ⟨r3,0,none⟩) 16 rc3,.slice (some ⟨r4,0,none⟩) 16 rc4] else if i=1 then v=.slice (some ⟨gk,0,none⟩) 32 ck else if i=2 then v=.agg #[.slice (some ⟨a1,0,none⟩) 16 ac1,.slice (some ⟨a2,0,none⟩) 16 ac2,.slice (some ⟨a3,0,none⟩) 16 ac3,.slice (some ⟨a4,0,none⟩) 16 ac4] else if i=3 then v=.slice (some ⟨gd,0,none⟩) 16 cd else if i=4 then(L 8=true∨TmV w' v ((mS (hsV pub msg sig) (ptQ pub) 256).1)) else if i=5 then v=.slice (some ⟨gd,0,none⟩) 16 cd else if i=6 then(L 8=true∨TmV w' v (F4 (ptQ (sig.take 32)) (mS (hsV pub msg sig) (ptQ pub) 256).1)) else if i=7 then(L 8=true∨PtZ w12.heap.size w' v) else if i=8 then L 8=true else True) ?hstab (by kernel_rfl) ?hop ?hdone _ _ ((fun (x0 x1 x2 x3 x4 x5 x6 x7:Value)=>fun (i:Nat)=>if i=0 then x0 else if i=1 then x1 else if i=2 then x2 else if i=3 then x3 else if i=4 then x4 else if i=5 then x5 else if i=6 then x6 else if i=7 then x7 else undef) _ _ _ _ _ _ _ _) _ (by simp) ?ext ?start (by simp)
       case start=>intro i hi h;exact absurd h (by rw[Array.getD_eq_getD_getElem?,Array.getElem?_replicate];split<;>simp)
       case ext=>exact SXv.start (fun i=>by rw[Array.getD_eq_getD_getElem?,Array.getElem?_replicate];split<;>rfl)
       case hstab=>
        intro j L w9 w' i v hM hij hLi h;have hu:∀ k,L k=true→updK L i k=true:=fun k hk=>by unfold updK;split<;>simp[hk]
        by_cases h4:j=4
        ·subst h4;simp at h ⊢;rcases hM with rfl|hM
         ·exact .inl (by simp[updK])
         ·rcases h with h|h
          ·exact .inl (hu _ h)
          ·exact .inr (h.below hM)
        by_cases h6:j=6
        ·subst h6;simp at h ⊢;rcases hM with rfl|hM
         ·exact .inl (by simp[updK])
         ·rcases h with h|h
          ·exact .inl (hu _ h)
          ·exact .inr (h.below hM)
        by_cases h7:j=7
        ·subst h7;simp at h ⊢;rcases hM with rfl|hM
         ·exact .inl (by simp[updK])
         ·rcases h with h|h
          ·exact .inl (hu _ h)
          ·exact .inr (h.below hM)
        by_cases hs:j=8
        ·subst hs;simp at h ⊢;exact hu _ h
        simp only[if_neg h4,if_neg h6,if_neg h7,if_neg hs] at h ⊢;exact h
       case hop=>
        intro i o L t w' ho hLi hx hdep K hK;have hi:i<9:=(Array.getElem?_eq_some_iff.1 ho).1;obtain rfl|rfl|rfl|rfl|rfl|rfl|rfl|rfl|rfl:i=0∨i=1∨i=2∨i=3∨i=4∨i=5∨i=6∨i=7∨i=8:=by omega
        all_goals(simp at ho;subst ho)
        all_goals try(have hK':=hK w' _ rfl (hx.step _ _ (Below.refl _ _) (by decide) (by decide)) (.inr (Below.refl _ _));clear hK;simp[Region.binds] at hdep;rw[if_pos (by rfl)];go_simp;simpa[upd,hdep] using hK';done)
        ·clear hdep;have hK':=hK w' (.agg #[.slice (some ⟨r1,0,none⟩) 16 rc1,.slice (some ⟨r2,0,none⟩) 16 rc2,.slice (some ⟨r3,0,none⟩) 16 rc3,.slice (some ⟨r4,0,none⟩) 16 rc4]) (by simp) (hx.step 0 _ (Below.refl _ _) (by decide) (by decide)) (.inr (Below.refl _ _));rw[if_pos (by rfl)];refine wp_load_row 79 (.tmp 11) rfl Gr rfl 79 _ (0,0) _ (RW.out.below hx.below RW.out.lt) Tryz.underlying79 rfl Tryz.sizePt ?_;simpa[upd,Act.put] using hK'
        ·clear hdep;have hK':=hK w' (.agg #[.slice (some ⟨a1,0,none⟩) 16 ac1,.slice (some ⟨a2,0,none⟩) 16 ac2,.slice (some ⟨a3,0,none⟩) 16 ac3,.slice (some ⟨a4,0,none⟩) 16 ac4]) (by simp) (hx.step 2 _ (Below.refl _ _) (by decide) (by decide)) (.inr (Below.refl _ _));rw[if_pos (by rfl)];refine wp_load_row 79 (.tmp 9) rfl Ga rfl 79 _ (0,0) _ (AW.out.below hx.below AW.out.lt) Tryz.underlying79 rfl Tryz.sizePt ?_;simpa[upd,Act.put] using hK'
        ·have d1:t 1=.slice (some ⟨gk,0,none⟩) 32 ck:=by simpa using(hdep ⟨1,.data⟩ (by simp) rfl).2
         have d2:t 2=.agg #[.slice (some ⟨a1,0,none⟩) 16 ac1,.slice (some ⟨a2,0,none⟩) 16 ac2,.slice (some ⟨a3,0,none⟩) 16 ac3,.slice (some ⟨a4,0,none⟩) 16 ac4]:=by simpa using(hdep ⟨2,.data⟩ (by simp) rfl).2
         have d3:t 3=.slice (some ⟨gd,0,none⟩) 16 cd:=by simpa using(hdep ⟨3,.data⟩ (by simp) rfl).2
         have A:=hid_ofS (ltimes_any (some ⟨gk,0,none⟩) ck ks a1 a2 a3 a4 gd ac1 ac2 ac3 ac4 cd (ptQ pub) w' HKV.out.2.1 HKV.out.1 (HK12.out.below hx.below).at_ (AF.out.1.below hx.below) (AF.out.2.1.below hx.below) (AF.out.2.2.1.below hx.below) (AF.out.2.2.2.below hx.below) (HD12.out.below hx.below));rw[HKV.out.2.2] at A;have A:=A.out;have hK':∀ ww v,TmV ww v ((mS (hsV pub msg sig) (ptQ pub) 256).1)→Below w'.heap.size w' ww→K _ ww:=fun ww v hv hb=>hK ww v (by simp;exact .inr hv) (hx.step 4 v hb (by decide) (by decide)) (.inr hb)
         rw[if_pos (by rfl)];go_simp;try simp only[d1,d2,d3]
         refine A.mono ?_;rintro e w9 ⟨h1,k1,h2,k2,h3,k3,h4,k4,rfl,f1,f2,f3,f4,hb9⟩;have hK2:=hK' w9 _ ⟨h1,k1,h2,k2,h3,k3,h4,k4,rfl,f1,f2,f3,f4⟩ hb9;go_simp;simpa[upd,d1,d2,d3] using hK2
        ·have d0:t 0=.agg #[.slice (some ⟨r1,0,none⟩) 16 rc1,.slice (some ⟨r2,0,none⟩) 16 rc2,.slice (some ⟨r3,0,none⟩) 16 rc3,.slice (some ⟨r4,0,none⟩) 16 rc4]:=by simpa using(hdep ⟨0,.data⟩ (by simp) rfl).2
         have l4:=(hdep ⟨4,.data⟩ (by simp) rfl).1;have f4:L 8=true∨TmV w' (t 4) ((mS (hsV pub msg sig) (ptQ pub) 256).1):=by have h:=(hdep ⟨4,.data⟩ (by simp) rfl).2;simpa using h
         have d5:t 5=.slice (some ⟨gd,0,none⟩) 16 cd:=by simpa using(hdep ⟨5,.data⟩ (by simp) rfl).2
         rcases f4 with f4|f4
         ·have:=(hx.fin f4).1.2;rw[hLi] at this;cases this
         refine f4.elim_ fun q1 e1 q2 e2 q3 e3 q4 e4 d4 y1 y2 y3 y4=>?_
         have A:=sum_any (some ⟨r1,0,none⟩) (some ⟨r2,0,none⟩) (some ⟨r3,0,none⟩) (some ⟨r4,0,none⟩) (some ⟨q1,0,none⟩) (some ⟨q2,0,none⟩) (some ⟨q3,0,none⟩) (some ⟨q4,0,none⟩) (some ⟨gd,0,none⟩) rc1 rc2 rc3 rc4 e1 e2 e3 e4 cd _ _ _ _ _ _ _ _ mdD w' (fun e he=>by
           simp only[List.mem_cons,List.not_mem_nil,or_false] at he;rcases he with rfl|rfl|rfl|rfl|rfl|rfl|rfl|rfl|rfl
           ·exact RF.out.1.below hx.below
           ·exact RF.out.2.1.below hx.below
           ·exact RF.out.2.2.1.below hx.below
           ·exact RF.out.2.2.2.below hx.below
           ·exact y1
           ·exact y2
           ·exact y3
           ·exact y4
           ·exact HD12.out.below hx.below)
         have hK':∀ ww v,TmV ww v (F4 (ptQ (sig.take 32)) (mS (hsV pub msg sig) (ptQ pub) 256).1)→Below w'.heap.size w' ww→K _ ww:=fun ww v hv hb=>hK ww v (by simp;exact .inr hv) (hx.step 6 v hb (by decide) (by decide)) (.inr hb)
         rw[if_pos (by rfl)];go_simp;try simp only[d0,d5,d4]
         refine A.mono ?_;rintro e w9 ⟨h1,k1,h2,k2,h3,k3,h4,k4,rfl,f1,f2,f3,f4x,hb9,_⟩;have hK2:=hK' w9 _ ⟨h1,k1,h2,k2,h3,k3,h4,k4,rfl,f1,f2,f3,f4x⟩ hb9;go_simp;simpa[upd,d0,d5,d4] using hK2
        ·clear hdep;have hK':=hK (w'.alloc (.cells #[.slice none 0 0,.slice none 0 0,.slice none 0 0,.slice none 0 0] 79)) (.pointer (some ⟨w'.heap.size,0,none⟩)) (by simp;exact .inr ⟨_,rfl,hx.below.size,PtW.new w'⟩) (hx.made _ (below_new3 _ _) (by decide) hLi) (.inr (below_new3 _ _));rw[if_pos (by rfl)];go_simp;simpa[upd] using hK'
        ·have l6:=(hdep ⟨6,.data⟩ (by simp) rfl).1;have f6:TmV w' (t 6) (F4 (ptQ (sig.take 32)) (mS (hsV pub msg sig) (ptQ pub) 256).1):=by have h:=(hdep ⟨6,.data⟩ (by simp) rfl).2;simp at h;rcases h with h|h;(rw[hLi] at h;cases h);exact h
         have l7:=(hdep ⟨7,.data⟩ (by simp) rfl).1;have f7:PtZ w12.heap.size w' (t 7):=by have h:=(hdep ⟨7,.data⟩ (by simp) rfl).2;simp at h;rcases h with h|h;(rw[hLi] at h;cases h);exact h
         have hK':∀ w9,Below w12.heap.size w' w9→PtF w9 (t 7) (F4 (ptQ (sig.take 32)) (mS (hsV pub msg sig) (ptQ pub) 256).1)→K _ w9:=fun w9 hb hf=>hK w9 undef (by simp[updK]) (hx.set undef hb (by decide) (by decide) l7 l6 hf) (.inl rfl)
         rw[if_pos (by rfl)];refine wp_storeS (.tmp 16) (.tmp 76) rfl w12.heap.size (F4 (ptQ (sig.take 32)) (mS (hsV pub msg sig) (ptQ pub) 256).1) (t 7) (t 6) rfl rfl f7 f6 ?_;intro w9 hb hf;have hK2:=hK' w9 hb hf;simpa[upd,Act.put] using hK2
       case hdone=>
        intro L t w13 hx hg;have hl:L 8=true:=by simpa using hg 8 (by decide)
        obtain⟨_,hf⟩:=hx.fin hl;have hb:=hx.below;obtain⟨Gs,eGs,hGs⟩:=hf;have HB13:=hdI <| HB12.out.trans (hb.mono HB12.out.size)
        have HPL13:=hid_ofS (HPL12.out.below hb);have HPS13:=hid_ofS hGs;simp only[eGs];go_wp2_with fail;obtain⟨l1,lc1,l2,lc2,l3,lc3,l4,lc4,lW,lf1,lf2,lf3,lf4⟩:=HPL13.out;have LW:=hid_ofS lW;have LF:=hid_ofS (And.intro lf1 (And.intro lf2 (And.intro lf3 lf4)));obtain⟨s1,sc1,s2,sc2,s3,sc3,s4,sc4,sW,sf1,sf2,sf3,sf4⟩:=HPS13.out;have SW:=hid_ofS sW;have SF:=hid_ofS (And.intro sf1 (And.intro sf2 (And.intro sf3 sf4)));refine wp_region_any (by kernel_rfl) ?_;refine wpAny_slotsU (fun _ a b=>Below a.heap.size a b) (frame:=(fun (a b c d e f g h i j k l m n o p q r s u v w x y z A B C D E F G H I J K L M N O P Q R S T U V W X Y Z a0 a1 a2 a3 a4 a5 a6 a7 a8 a9 b0 b1 b2 b3 b4 b5 b6 b7 b8 b9 c0 c1 c2 c3 c4:Value)=>fun (t:Nat→Value)=>({ tmps:=List.toArray [a,b,c,d,e,f,t 7,g,h,i,j,k,l,m,n,o,p,q,r,s,u,v,w,x,y,z,A,B,C,D,E,F,G,H,I,J,K,L,M,N,O,P,Q,R,S,T,U,V,W,X,Y,Z,a0,a1,a2,a3,a4,a5,a6,a7,a8,a9,b0,b1,b2,b3,b4,b5,b6,b7,b8,b9,c0,c1,c2,c3,c4,t 0,t 1,t 2,t 3,t 4,t 5,t 6],defers:=[] }:Act)) _ _ _ _ _ _ _ _ _ _ _ _ _ _ _ _ _ _ _ _ _ _ _ _ _ _ _ _ _ _ _ _ _ _ _ _ _ _ _ _ _ _ _ _ _ _ _ _ _ _ _ _ _ _ _ _ _ _ _ _ _ _ _ _ _ _ _ _ _ _ _ _ _ _ _ _)
         (Ext:=fun L u w'=>ApX w13 [] L u w') (Good:=fun i L w' v=>if i=0 then v=.agg #[.slice (some ⟨l1,0,none⟩) 16 lc1,.slice (some ⟨l2,0,none⟩) 16 lc2,.slice (some ⟨l3,0,none⟩) 16 lc3,.slice (some ⟨l4,0,none⟩) 16 lc4] else if i=1 then CdW w' v (cdQ ((mS (val 256 (sig.drop 32)) (ptQ bB) 256).1)) else if i=2 then StV w' v (cdQ ((mS (val 256 (sig.drop 32)) (ptQ bB) 256).1)) else if i=3 then v=.agg #[.slice (some ⟨s1,0,none⟩) 16 sc1,.slice (some ⟨s2,0,none⟩) 16 sc2,.slice (some ⟨s3,0,none⟩) 16 sc3,.slice (some ⟨s4,0,none⟩) 16 sc4] else if i=4 then CdW w' v (cdQ (F4 (ptQ (sig.take 32)) (mS (hsV pub msg sig) (ptQ pub) 256).1)) else if i=5 then StV w' v (cdQ (F4 (ptQ (sig.take 32)) (mS (hsV pub msg sig) (ptQ pub) 256).1)) else if i=6 then v=.bool (eqnS pub msg sig) else if i=7 then v=.bool (eqnS pub msg sig) else True) ?hstab (by kernel_rfl) ?hop ?hdone _ _ ((fun (x0 x1 x2 x3 x4 x5 x6 x7:Value)=>fun (i:Nat)=>if i=0 then x0 else if i=1 then x1 else if i=2 then x2 else if i=3 then x3 else if i=4 then x4 else if i=5 then x5 else if i=6 then x6 else if i=7 then x7 else undef) _ _ _ _ _ _ _ _) _ (by simp) ?ext ?start (by simp)
        case start=>intro i hi h;exact absurd h (by rw[Array.getD_eq_getD_getElem?,Array.getElem?_replicate];split<;>simp)
        case ext=>exact(ApX.start w13 [] _ _ (fun i=>by rw[Array.getD_eq_getD_getElem?,Array.getElem?_replicate];split<;>rfl)).drew
        case hstab=>
         intro j L w9 w' i v hM _ _ h;by_cases h1:j=1
         ·subst h1;simp at h ⊢;exact h.below hM
         by_cases h2:j=2
         ·subst h2;simp at h ⊢;exact h.below hM
         by_cases h4:j=4
         ·subst h4;simp at h ⊢;exact h.below hM
         by_cases h5:j=5
         ·subst h5;simp at h ⊢;exact h.below hM
         simp only[if_neg h1,if_neg h2,if_neg h4,if_neg h5] at h ⊢;exact h
        case hop=>
         intro i o L t w' ho hLi hx hdep K hK;have hi:i<8:=(Array.getElem?_eq_some_iff.1 ho).1;obtain rfl|rfl|rfl|rfl|rfl|rfl|rfl|rfl:i=0∨i=1∨i=2∨i=3∨i=4∨i=5∨i=6∨i=7:=by omega
         all_goals(simp at ho;subst ho)
         ·clear hdep;have hK':=hK w' (.agg #[.slice (some ⟨l1,0,none⟩) 16 lc1,.slice (some ⟨l2,0,none⟩) 16 lc2,.slice (some ⟨l3,0,none⟩) 16 lc3,.slice (some ⟨l4,0,none⟩) 16 lc4]) (by simp) (hx.step 0 _ (Below.refl _ _) (fun h=>absurd h (by decide))) (Below.refl _ _);rw[if_pos (by rfl)];refine wp_load_row 79 (.tmp 15) rfl Gl rfl 79 _ (0,0) _ (LW.out.below hx.below LW.out.lt) Tryz.underlying79 rfl Tryz.sizePt ?_;simpa[upd,Act.put] using hK'
         ·have d0:t 0=.agg #[.slice (some ⟨l1,0,none⟩) 16 lc1,.slice (some ⟨l2,0,none⟩) 16 lc2,.slice (some ⟨l3,0,none⟩) 16 lc3,.slice (some ⟨l4,0,none⟩) 16 lc4]:=by simpa using(hdep ⟨0,.data⟩ (by simp) rfl).2
          have A:=code_any (some ⟨l1,0,none⟩) (some ⟨l2,0,none⟩) (some ⟨l3,0,none⟩) (some ⟨l4,0,none⟩) lc1 lc2 lc3 lc4 _ _ _ w' (LF.out.1.below hx.below) (LF.out.2.1.below hx.below) (LF.out.2.2.1.below hx.below);have hK':∀ ww v,CdW ww v (cdQ ((mS (val 256 (sig.drop 32)) (ptQ bB) 256).1))→Below w'.heap.size w' ww→K _ ww:=fun ww v hv hb=>hK ww v (by simpa using hv) (hx.step 1 v hb (fun h=>absurd h (by decide))) hb
          rw[if_pos (by rfl)];go_simp;try simp only[d0]
          refine A.mono ?_;rintro e w9 ⟨v9,bx,rfl,o9,hy,hl,hv,hb9⟩;have hK2:=hK' w9 v9 (by obtain⟨g,c,e,hA,_⟩:=PtA.of_own o9;rw[hl] at e;exact⟨g,c,bx,e,hA,hy,hl,hv⟩) hb9;go_simp;simpa[upd,d0] using hK2
         ·have f1:CdW w' (t 1) (cdQ ((mS (val 256 (sig.drop 32)) (ptQ bB) 256).1)):=by simpa using(hdep ⟨1,.data⟩ (by simp) rfl).2
          refine Exists.elim f1 fun gg hh=>?_
          obtain⟨cc,bx,dj,hA,hy,hl,hv⟩:=hh;have hcv:=run_convert_bytes_arg w' 22 5 Tryz.underlying22 Tryz.underlying5 gg 0 32 cc bx hl (fun i hi=>hA.c i (by rw[hl];exact hi)) 9 Tryz.underlying9;have hK':=hK w' (.string (strOfNums bx)) (by simpa using⟨bx,rfl,hy,hl,hv⟩) (hx.step 2 _ (Below.refl _ _) (fun h=>absurd h (by decide))) (Below.refl _ _);rw[if_pos (by rfl)];go_simp;simpa[upd,dj,hcv] using hK'
         ·clear hdep;have hK':=hK w' (.agg #[.slice (some ⟨s1,0,none⟩) 16 sc1,.slice (some ⟨s2,0,none⟩) 16 sc2,.slice (some ⟨s3,0,none⟩) 16 sc3,.slice (some ⟨s4,0,none⟩) 16 sc4]) (by simp) (hx.step 3 _ (Below.refl _ _) (fun h=>absurd h (by decide))) (Below.refl _ _);rw[if_pos (by rfl)];refine wp_load_row 79 (.tmp 16) rfl Gs rfl 79 _ (0,0) _ (SW.out.below hx.below SW.out.lt) Tryz.underlying79 rfl Tryz.sizePt ?_;simpa[upd,Act.put] using hK'
         ·have d3:t 3=.agg #[.slice (some ⟨s1,0,none⟩) 16 sc1,.slice (some ⟨s2,0,none⟩) 16 sc2,.slice (some ⟨s3,0,none⟩) 16 sc3,.slice (some ⟨s4,0,none⟩) 16 sc4]:=by simpa using(hdep ⟨3,.data⟩ (by simp) rfl).2
          have A:=code_any (some ⟨s1,0,none⟩) (some ⟨s2,0,none⟩) (some ⟨s3,0,none⟩) (some ⟨s4,0,none⟩) sc1 sc2 sc3 sc4 _ _ _ w' (SF.out.1.below hx.below) (SF.out.2.1.below hx.below) (SF.out.2.2.1.below hx.below);have hK':∀ ww v,CdW ww v (cdQ (F4 (ptQ (sig.take 32)) (mS (hsV pub msg sig) (ptQ pub) 256).1))→Below w'.heap.size w' ww→K _ ww:=fun ww v hv hb=>hK ww v (by simpa using hv) (hx.step 4 v hb (fun h=>absurd h (by decide))) hb
          rw[if_pos (by rfl)];go_simp;try simp only[d3]
          refine A.mono ?_;rintro e w9 ⟨v9,bx,rfl,o9,hy,hl,hv,hb9⟩;have hK2:=hK' w9 v9 (by obtain⟨g,c,e,hA,_⟩:=PtA.of_own o9;rw[hl] at e;exact⟨g,c,bx,e,hA,hy,hl,hv⟩) hb9;go_simp;simpa[upd,d3] using hK2
         ·have f4:CdW w' (t 4) (cdQ (F4 (ptQ (sig.take 32)) (mS (hsV pub msg sig) (ptQ pub) 256).1)):=by simpa using(hdep ⟨4,.data⟩ (by simp) rfl).2
          refine Exists.elim f4 fun gg hh=>?_
          obtain⟨cc,bx,dj,hA,hy,hl,hv⟩:=hh;have hcv:=run_convert_bytes_arg w' 22 5 Tryz.underlying22 Tryz.underlying5 gg 0 32 cc bx hl (fun i hi=>hA.c i (by rw[hl];exact hi)) 9 Tryz.underlying9;have hK':=hK w' (.string (strOfNums bx)) (by simpa using⟨bx,rfl,hy,hl,hv⟩) (hx.step 5 _ (Below.refl _ _) (fun h=>absurd h (by decide))) (Below.refl _ _);rw[if_pos (by rfl)];go_simp;simpa[upd,dj,hcv] using hK'
         ·have f2:StV w' (t 2) (cdQ ((mS (val 256 (sig.drop 32)) (ptQ bB) 256).1)):=by simpa using(hdep ⟨2,.data⟩ (by simp) rfl).2
          have f5:StV w' (t 5) (cdQ (F4 (ptQ (sig.take 32)) (mS (hsV pub msg sig) (ptQ pub) 256).1)):=by simpa using(hdep ⟨5,.data⟩ (by simp) rfl).2
          refine Exists.elim f2 fun bx hh=>?_
          obtain⟨d2,hy,hl,hv⟩:=hh;refine Exists.elim f5 fun bz hh'=>?_
          obtain⟨d5,hy',hl',hv'⟩:=hh';have hq:((strOfNums bx).toList == (strOfNums bz).toList)=eqnS pub msg sig:=by rw[str_val hy hy' hl hl',hv,hv'];rfl
          have hK':=hK w' (.bool (eqnS pub msg sig)) (by simp) (hx.step 6 _ (Below.refl _ _) (fun h=>absurd h (by decide))) (Below.refl _ _);generalize eqnS pub msg sig=bb at *;rw[if_pos (by rfl)];go_simp;simpa[upd,d2,d5,hq] using hK'
         ·have d6:t 6=.bool (eqnS pub msg sig):=by simpa using(hdep ⟨6,.data⟩ (by simp) rfl).2
          have hK':=hK w' (.bool (eqnS pub msg sig)) (by simp) (hx.step 7 _ (Below.refl _ _) (fun h=>absurd h (by decide))) (Below.refl _ _);rw[if_pos (by rfl)];go_simp;simpa[upd,d6] using hK'
        case hdone=>
         intro L t w14 hx hg;have e7:t 7=.bool (eqnS pub msg sig):=by simpa using hg 7 (by decide)
         have HBF:=hdI <| HB13.out.trans (hx.below.mono HB13.out.size)
         simp only[e7];go_wp2
         go_ret
         exact⟨by rw[HVR.out];rfl,HBF.out⟩
  ·have HV:=hid_ofS (vsR_64s (pub:=pub) (msg:=msg) (sig:=sig) (by rw[hsl];exact h64));have h65:¬ ((ns:Int)=64):=by omega
   have h66:((ns:Int) != 64)=true:=by simpa using h65
   go_enter Tryz.func67,Tryz.ntmps67;go_wp2
   go_ret
   exact⟨by rw[HV.out];rfl,Below.refl _ _⟩
 ·have HV:=hid_ofS (vsR_32s (pub:=pub) (msg:=msg) (sig:=sig) (by rw[hpl];exact h32));have h65:¬ ((np:Int)=32):=by omega
  have h66:((np:Int) != 32)=true:=by simpa using h65
  go_enter Tryz.func67,Tryz.ntmps67;go_wp2
  go_ret
  exact⟨by rw[HV.out];rfl,Below.refl _ _⟩
noncomputable def tapC (D U ks tk:List Int) (now:Int):Int:=
 if now<0 then 10 else if 4294967295<now then 10 else if tkB tk=false then 2 else if 256≤tkS tk then 3 else if tkE tk<now then 4 else if memB (tkS tk) D=true then 5 else if memB (tkS tk) U=true then 6 else if vsR ks (tk.take 8) (tk.drop 8)=true then 1 else 7
structure BX2 (w:World) (t0 t1:TypeId) (c0 c1:Array Value) (wr:World):Prop where
 below:Below w.heap.size w wr
 b0:wr.heap[w.heap.size]?=some (.cells c0 t0 (0,0))
 b1:wr.heap[w.heap.size+1]?=some (.cells c1 t1 (0,0))
theorem BX2.start (w:World) (t0 t1:TypeId) (c0 c1:Array Value):BX2 w t0 t1 c0 c1 ((w.alloc (.cells c0 t0)).alloc (.cells c1 t1)):=by
 refine⟨((Below.refl _ _).alloc (Nat.le_refl _) _).alloc (by simp) _,?_,?_⟩
 ·rw[Below.heap_alloc _ _ w.heap.size (by simp)];exact heap_alloc_new w _
 ·have:=heap_alloc_new (w.alloc (.cells c0 t0)) (.cells c1 t1)
  rwa [show(w.alloc (.cells c0 t0)).heap.size=w.heap.size+1 by simp] at this
theorem BX2.lt {w wr:World} {t0 t1:TypeId} {c0 c1:Array Value} (h:BX2 w t0 t1 c0 c1 wr):w.heap.size+1<wr.heap.size:=(Array.getElem?_eq_some_iff.1 h.b1).1
theorem BX2.call {w wr w':World} {t0 t1:TypeId} {c0 c1:Array Value} (h:BX2 w t0 t1 c0 c1 wr) (b:Below wr.heap.size wr w'):BX2 w t0 t1 c0 c1 w':=by
 have:=h.lt;exact⟨h.below.trans (b.mono h.below.size),by rw[b.block _ (by omega)];exact h.b0,by rw[b.block _ (by omega)];exact h.b1⟩
theorem tapC_bad {D U ks tk:List Int} {now:Int} (h:now<0∨4294967295<now):tapC D U ks tk now=10:=by
 unfold tapC;by_cases h0:now<0
 ·rw[if_pos h0]
 ·rw[if_neg h0,if_pos (h.resolve_left h0)]
theorem tapC_in {D U ks tk:List Int} {now:Int} (h0:0≤now) (h1:now≤4294967295):tapC D U ks tk now=if tkB tk=false then 2 else if 256≤tkS tk then 3 else if tkE tk<now then 4 else if memB (tkS tk) D=true then 5 else if memB (tkS tk) U=true then 6 else if vsR ks (tk.take 8) (tk.drop 8)=true then 1 else 7:=by
 unfold tapC;rw[if_neg (by omega),if_neg (by omega)]
set_option maxRecDepth 100000 in
set_option maxHeartbeats 4000000 in
theorem stp_any (aD aU aT:Option Addr) (nD cD nU cU nT cT:Nat) (D U:List Int) (k:Int) (bp op cp:Nat) (ks:List Int) (ta:Option Addr) (tn tc:Nat) (tk:List Int) (kind now N:Int) (w:World) (hD:D.length=nD) (hU:U.length=nU) (mD:nD≤1048576) (mU:nU≤1048576)
  (haD:At .i64 w aD D) (haU:At .i64 w aU U) (hk:ks.length=32) (hp:PtA w bp op ks) (zk:Byte ks) (ht:tk.length=tn) (mt:tn≤1048576) (hct:tn≤tc) (hat:At .u8 w ta tk) (zt:Byte tk) :
  Calls Tryz.prog 41 #[.agg #[.slice aD nD cD,.slice aU nU cU,.int .i64 k,.slice aT nT cT],.slice (some ⟨bp,op,none⟩) 32 cp,.agg #[.int .i64 kind,.slice ta tn tc,.int .i64 now,.int .i64 N]] w fun e w'=>e=.returned (.int .i64 (tapC D U ks tk now))∧Below w.heap.size w w':=by
 have HX0:Hid (BX2 w 26 28 #[.slice aD nD cD,.slice aU nU cU,.int .i64 k,.slice aT nT cT] #[.int .i64 kind,.slice ta tn tc,.int .i64 now,.int .i64 N] ((w.alloc (.cells #[.slice aD nD cD,.slice aU nU cU,.int .i64 k,.slice aT nT cT] 26)).alloc (.cells #[.int .i64 kind,.slice ta tn tc,.int .i64 now,.int .i64 N] 28))):=BX2.start _ _ _ _ _;have HA:Hid (∀ wz,Below w.heap.size w wz→At .i64 wz aD D∧At .i64 wz aU U∧At .u8 wz ta tk∧PtA wz bp op ks):=fun wz h=>⟨haD.below h,haU.below h,hat.below h,hp.below h⟩
 have HL:Hid (D.length=nD∧U.length=nU∧tk.length=tn∧ks.length=32∧Byte ks∧Byte tk):=⟨hD,hU,ht,hk,zk,zt⟩
 have HTB:Hid (tkB tk=true→tk.length=72):=fun h=>by
  unfold tkB at h;simp at h;exact h.1
 have HSZ:Hid ((Tryz.prog.info? 86).map (·.size)=some 3):=by show _=_;kernel_rfl
 have HCB:Hid (now<0∨4294967295<now→tapC D U ks tk now=10):=tapC_bad;have HCI:Hid (0≤now→now≤4294967295→tapC D U ks tk now=if tkB tk=false then 2 else if 256≤tkS tk then 3 else if tkE tk<now then 4 else if memB (tkS tk) D=true then 5 else if memB (tkS tk) U=true then 6 else if vsR ks (tk.take 8) (tk.drop 8)=true then 1 else 7):=tapC_in;clear hD hU haD haU hk hp zk ht hat zt;go_enter Tryz.func41,Tryz.ntmps41
 go_upto_region 1 with fail
 generalize ((w.alloc (.cells #[.slice aD nD cD,.slice aU nU cU,.int .i64 k,.slice aT nT cT] 26)).alloc (.cells #[.int .i64 kind,.slice ta tn tc,.int .i64 now,.int .i64 N] 28))=w0 at *;have o1:w0.cell? ⟨w.heap.size+1,1,none⟩=some (.slice ta tn tc):=by rw[cell_of_row w0 _ 1 _ _ _ HX0.out.b1];rfl
 have o2:w0.cell? ⟨w.heap.size+1,2,none⟩=some (.int .i64 now):=by rw[cell_of_row w0 _ 2 _ _ _ HX0.out.b1];rfl
 have HB0:=hdI <| HX0.out.below
 by_cases hn0:now<0
 ·have HF:=hdI <| HCB.out (.inl hn0)
  clear HCB HCI HTB;go_wp2
  go_ret
  exact⟨by rw[HF.out];rfl,HB0.out⟩
 by_cases hn1:4294967295<now
 ·have HF:=hdI <| HCB.out (.inr hn1)
  have hn0':=decide_eq_false hn0;have hn1':=decide_eq_true hn1;clear HCB HCI HTB;go_wp2
  go_ret
  exact⟨by rw[HF.out];rfl,HB0.out⟩
 have hn0':=decide_eq_false hn0;have hn1':=decide_eq_false hn1;have HC:=hid_ofS (HCI.out (by omega) (by omega));clear HCB HCI hn0 hn1;go_wp2_with fail;refine(ptS_any ta tn tc tk _ HL.out.2.2.1 mt hct (HA.out _ HB0.out).2.2.1 HL.out.2.2.2.2.2).mono ?_;rintro e w1 ⟨rfl,hb1⟩;have HX1:=hdI <| HX0.out.call hb1
 clear hb1 HX0 HB0 o1 o2;generalize hq:tkB tk=q at *;have HQ:=hdI <| hq
 clear hq;obtain⟨s,x,HV⟩:∃ s x,Hid (tkV tk=.agg #[.bool q,.int .i64 s,.int .i64 x]∧(q=true→tkS tk=s∧tkE tk=x)):=by
  cases q with
  |false=>exact⟨0,0,tkV_no HQ.out,fun h=>by cases h⟩
  |true=>exact⟨_,_,tkV_yes HQ.out,fun _=>⟨rfl,rfl⟩⟩
 have HN:Hid ((w1.alloc (.cells #[.bool false,.int .i64 0,.int .i64 0] 86)).heap[w1.heap.size]?=some (.cells #[.bool false,.int .i64 0,.int .i64 0] 86 (0,0))):=heap_alloc_new w1 _;have HB2:Hid (Below w1.heap.size w1 ((w1.alloc (.cells #[.bool false,.int .i64 0,.int .i64 0] 86)).setRow w1.heap.size #[.bool q,.int .i64 s,.int .i64 x])):=((Below.refl _ _).alloc (Nat.le_refl _) _).trans ((Wr.setRow _ _ _).below (Nat.le_refl _));have HR2:Hid (((w1.alloc (.cells #[.bool false,.int .i64 0,.int .i64 0] 86)).setRow w1.heap.size #[.bool q,.int .i64 s,.int .i64 x]).heap[w1.heap.size]?=some (.cells #[.bool q,.int .i64 s,.int .i64 x] 86 (0,0))):=setRow_heap _ _ _ _ _ _ HN.out;have HX2:=hdI <| HX1.out.call HB2.out
 rw[HV.out.1]
 go_upto_region 4 with (first
  |(refine wpList_store_row rfl 86 (.tmp 7) (.tmp 18) rfl w1.heap.size #[.bool q,.int .i64 s,.int .i64 x] rfl rfl 86 _ HN.out HSZ.out rfl (by simp[Value.oneCell']) ?_)
  |fail)
 clear HN HSZ HB2 HX1;generalize (w1.alloc (.cells #[.bool false,.int .i64 0,.int .i64 0] 86)).setRow w1.heap.size #[.bool q,.int .i64 s,.int .i64 x]=w2 at *;have HB2:=hdI <| HX2.out.below
 have c0:w2.cell? ⟨w1.heap.size,0,none⟩=some (.bool q):=by rw[cell_of_row w2 _ 0 _ _ _ HR2.out];rfl
 have c1:w2.cell? ⟨w1.heap.size,1,none⟩=some (.int .i64 s):=by rw[cell_of_row w2 _ 1 _ _ _ HR2.out];rfl
 have c2:w2.cell? ⟨w1.heap.size,2,none⟩=some (.int .i64 x):=by rw[cell_of_row w2 _ 2 _ _ _ HR2.out];rfl
 have o1:Hid (w2.cell? ⟨w.heap.size+1,1,none⟩=some (.slice ta tn tc)):=by show _=_;rw[cell_of_row w2 _ 1 _ _ _ HX2.out.b1];rfl
 have o2:w2.cell? ⟨w.heap.size+1,2,none⟩=some (.int .i64 now):=by rw[cell_of_row w2 _ 2 _ _ _ HX2.out.b1];rfl
 have s0:w2.cell? ⟨w.heap.size,0,none⟩=some (.slice aD nD cD):=by rw[cell_of_row w2 _ 0 _ _ _ HX2.out.b0];rfl
 have s1:w2.cell? ⟨w.heap.size,1,none⟩=some (.slice aU nU cU):=by rw[cell_of_row w2 _ 1 _ _ _ HX2.out.b0];rfl
 clear HR2;cases q with
 |false=>
  have HF:Hid (tapC D U ks tk now=2):=by show _=_;rw[HC.out,if_pos rfl]
  clear HC HV HTB;go_wp2
  go_ret
  exact⟨by rw[HF.out];rfl,HB2.out⟩
 |true=>
 have HC2:=HC.out;rw[if_neg (fun h=>by cases h),(HV.out.2 rfl).1,(HV.out.2 rfl).2] at HC2;have HY:=hid_ofS HC2;clear HC2;have HC2:=HY;clear HY;have HT72:=hdI <| HTB.out rfl
 have HSB:Hid (memB s D=memB s D):=rfl;clear HC HV HTB HQ;by_cases hs:256≤s
 ·have HF:Hid (tapC D U ks tk now=3):=by show _=_;rw[HC2.out,if_pos hs]
  have hs':=hs;clear HC2;go_wp2
  go_ret
  exact⟨by rw[HF.out];rfl,HB2.out⟩
 have hs':=hs;by_cases hx:x<now
 ·have HF:Hid (tapC D U ks tk now=4):=by show _=_;rw[HC2.out,if_neg hs,if_pos hx]
  have hx':=hx;clear HC2;go_wp2
  go_ret
  exact⟨by rw[HF.out];rfl,HB2.out⟩
 have hx':=hx;have HC3:=HC2.out;rw[if_neg hs,if_neg hx] at HC3;have HY:=hid_ofS HC3;clear HC3;have HC3:=HY;clear HY;clear HC2 HSB;go_wp2_with fail;refine(holds_any aD nD cD D s _ HL.out.1 mD (HA.out _ HB2.out).1).mono ?_;rintro e w4 ⟨rfl,e4⟩;obtain rfl:w2=w4:=e4.symm;cases hm:memB s D with
 |true=>
  have HF:Hid (tapC D U ks tk now=5):=by show _=_;rw[HC3.out,if_pos hm]
  clear HC3 hm;go_wp2
  go_ret
  exact⟨by rw[HF.out];rfl,HB2.out⟩
 |false=>
 have HC4:=HC3.out;rw[if_neg (by rw[hm];decide)] at HC4;have HY:=hid_ofS HC4;clear HC4;have HC4:=HY;clear HY;clear HC3 hm;go_wp2_with fail;refine(holds_any aU nU cU U s _ HL.out.2.1 mU (HA.out _ HB2.out).2.1).mono ?_;rintro e w4 ⟨rfl,e4⟩;obtain rfl:w2=w4:=e4.symm;cases hm:memB s U with
 |true=>
  have HF:Hid (tapC D U ks tk now=6):=by show _=_;rw[HC4.out,if_pos hm]
  clear HC4 hm;go_wp2
  go_ret
  exact⟨by rw[HF.out];rfl,HB2.out⟩
 |false=>
 have HC5:=HC4.out;rw[if_neg (by rw[hm];decide)] at HC5;have HTV:=hid_ofS HC5;clear HC4 HC5 hm;have h72:=HT72.out.symm.trans HL.out.2.2.1;subst h72;obtain⟨bt,ot,rfl,-,-⟩:=(HA.out _ HB2.out).2.2.1.get (by rw[HT72.out];decide);have HPT:Hid (∀ wz,Below w.heap.size w wz→PtA wz bt ot tk):=fun wz h=>by
  obtain⟨b',o',e',hl',hc'⟩:=(HA.out _ h).2.2.1.get (by rw[HT72.out];decide);cases e';exact⟨hl',hc'⟩
 have HT8:Hid ((8:Int)≤tc∧(72:Int)≤tc∧¬ (tc=8)):=⟨by omega,by omega,by omega⟩
 have HVS:Hid (∀ wz,Below w.heap.size w wz→Calls Tryz.prog 67 #[.slice (some ⟨bp,op,none⟩) 32 cp,.slice (some ⟨bt,ot,none⟩) 8 tc,.slice (some ⟨bt,ot+8,none⟩) 64 (tc-8:Nat)] wz fun e w'=>e=.returned (.bool (vsR ks (tk.take 8) (tk.drop 8)))∧Below wz.heap.size wz w'):=fun wz h=>
  vsS_any bp op cp bt ot tc bt (ot+8) (tc-8) 32 8 64 ks (tk.take 8) (tk.drop 8) wz HL.out.2.2.2.1 (by rw[List.length_take,HT72.out];rfl) (by rw[List.length_drop,HT72.out]) (HA.out wz h).2.2.2 ((HPT.out wz h).take 8) ((HPT.out wz h).drop 8) HL.out.2.2.2.2.1 (fun z hz=>HL.out.2.2.2.2.2 z (List.mem_of_mem_take hz)) (fun z hz=>HL.out.2.2.2.2.2 z (List.mem_of_mem_drop hz)) (by omega) (by decide) (by decide) (by decide)
 have HC1:=o1;have HLT:=hdI <| HX2.out.lt
 have HB9:=hdI <| HB2.out
 generalize vsR ks (tk.take 8) (tk.drop 8)=V at *;clear HPT HT72 HA HL HX2 HB2 o1 o2 s0 s1 c0 c1 c2 hs hx hs' hx' hn0' hn1' mD mU mt hct;go_wp2_with fail;refine wp_region_any (by kernel_rfl) ?_;refine wpAny_slotsU (fun _ a b=>Below a.heap.size a b) (frame:=(fun (a b c d e f g h i j k l m n o p q r s u v w x y z A B C D E F G H I J K L M N O:Value)=>fun (t:Nat→Value)=>({ tmps:=List.toArray [a,b,c,d,e,f,g,h,i,j,k,l,m,n,o,p,q,r,s,u,v,w,x,y,z,A,B,C,D,E,F,G,H,I,J,K,L,M,N,O,t 0,t 1,t 2,t 3,t 4,t 5,t 6,t 7,t 8],defers:=[] }:Act)) _ _ _ _ _ _ _ _ _ _ _ _ _ _ _ _ _ _ _ _ _ _ _ _ _ _ _ _ _ _ _ _ _ _ _ _ _ _ _ _)
  (Ext:=fun L u w'=>ApX w2 [] L u w') (Good:=fun i L w' v=>if i=0 then v=.slice (some ⟨bp,op,none⟩) 32 cp else if i=1 then v=.pointer (some ⟨w.heap.size+1,1,none⟩) else if i=2 then v=.slice (some ⟨bt,ot,none⟩) 72 tc else if i=3 then v=.slice (some ⟨bt,ot,none⟩) 8 tc else if i=4 then v=.pointer (some ⟨w.heap.size+1,1,none⟩) else if i=5 then v=.slice (some ⟨bt,ot,none⟩) 72 tc else if i=6 then v=.slice (some ⟨bt,ot+8,none⟩) 64 (tc-8:Nat) else if i=7 then v=.bool V else if i=8 then v=.bool (!V) else True) ?hstab (by kernel_rfl) ?hop ?hdone _ _ ((fun (x0 x1 x2 x3 x4 x5 x6 x7 x8:Value)=>fun (i:Nat)=>if i=0 then x0 else if i=1 then x1 else if i=2 then x2 else if i=3 then x3 else if i=4 then x4 else if i=5 then x5 else if i=6 then x6 else if i=7 then x7 else if i=8 then x8 else undef) _ _ _ _ _ _ _ _ _) _ (by simp) ?ext ?start (by simp)
 case start=>intro i hi h;exact absurd h (by rw[Array.getD_eq_getD_getElem?,Array.getElem?_replicate];split<;>simp)
 case ext=>exact(ApX.start w2 [] _ _ (fun i=>by rw[Array.getD_eq_getD_getElem?,Array.getElem?_replicate];split<;>rfl)).drew
 case hstab=>
  intro j L w9 w' i v hM _ _ h;exact h
 case hop=>
  intro i o L t w' ho hLi hx hdep K hK;have hi:i<9:=(Array.getElem?_eq_some_iff.1 ho).1;obtain rfl|rfl|rfl|rfl|rfl|rfl|rfl|rfl|rfl:i=0∨i=1∨i=2∨i=3∨i=4∨i=5∨i=6∨i=7∨i=8:=by omega
  all_goals(simp at ho;subst ho)
  all_goals try(have hK':=hK w' _ rfl (hx.step _ _ (Below.refl _ _) (fun h=>absurd h (by decide))) (Below.refl _ _);clear hK;simp[Region.binds] at hdep;rw[if_pos (by rfl)];go_simp;simpa[upd,hdep] using hK';done)
  ·have d1:t 1=.pointer (some ⟨w.heap.size+1,1,none⟩):=by simpa using(hdep ⟨1,.data⟩ (by simp) rfl).2
   clear hdep;have cc:w'.cell? ⟨w.heap.size+1,1,none⟩=some (.slice (some ⟨bt,ot,none⟩) 72 tc):=by rw[hx.below.cell (p:=⟨w.heap.size+1,1,none⟩) HLT.out];exact HC1.out
   have hK':=hK w' (.slice (some ⟨bt,ot,none⟩) 72 tc) (by simp) (hx.step 2 _ (Below.refl _ _) (fun h=>absurd h (by decide))) (Below.refl _ _);clear hK;rw[if_pos (by rfl)];go_simp;simpa[upd,d1] using hK'
  ·have d2:t 2=.slice (some ⟨bt,ot,none⟩) 72 tc:=by simpa using(hdep ⟨2,.data⟩ (by simp) rfl).2
   clear hdep;have h8:=HT8.out.1;have hK':=hK w' (.slice (some ⟨bt,ot,none⟩) 8 tc) (by simp) (hx.step 3 _ (Below.refl _ _) (fun h=>absurd h (by decide))) (Below.refl _ _);clear hK;rw[if_pos (by rfl)];go_simp;simpa[upd,d2] using hK'
  ·have d4:t 4=.pointer (some ⟨w.heap.size+1,1,none⟩):=by simpa using(hdep ⟨4,.data⟩ (by simp) rfl).2
   clear hdep;have cc:w'.cell? ⟨w.heap.size+1,1,none⟩=some (.slice (some ⟨bt,ot,none⟩) 72 tc):=by rw[hx.below.cell (p:=⟨w.heap.size+1,1,none⟩) HLT.out];exact HC1.out
   have hK':=hK w' (.slice (some ⟨bt,ot,none⟩) 72 tc) (by simp) (hx.step 5 _ (Below.refl _ _) (fun h=>absurd h (by decide))) (Below.refl _ _);clear hK;rw[if_pos (by rfl)];go_simp;simpa[upd,d4] using hK'
  ·have d5:t 5=.slice (some ⟨bt,ot,none⟩) 72 tc:=by simpa using(hdep ⟨5,.data⟩ (by simp) rfl).2
   clear hdep;have h8:(8:Int)≤tc:=HT8.out.1;have h72:(72:Int)≤tc:=HT8.out.2.1;have hne:¬ (tc=8):=HT8.out.2.2;have hK':=hK w' (.slice (some ⟨bt,ot+8,none⟩) 64 (tc-8:Nat)) (by simp) (hx.step 6 _ (Below.refl _ _) (fun h=>absurd h (by decide))) (Below.refl _ _);clear hK;rw[if_pos (by rfl)];go_simp;simpa[upd,d5] using hK'
  ·have d0:t 0=.slice (some ⟨bp,op,none⟩) 32 cp:=by simpa using(hdep ⟨0,.data⟩ (by simp) rfl).2
   have d3:t 3=.slice (some ⟨bt,ot,none⟩) 8 tc:=by simpa using(hdep ⟨3,.data⟩ (by simp) rfl).2
   have d6:t 6=.slice (some ⟨bt,ot+8,none⟩) 64 (tc-8:Nat):=by simpa using(hdep ⟨6,.data⟩ (by simp) rfl).2
   clear hdep;have A:=HVS.out w' (HB9.out.trans (hx.below.mono HB9.out.size));have hK':∀ ww,Below w'.heap.size w' ww→K _ ww:=fun ww hb=>hK ww (.bool V) (by simp) (hx.step 7 _ hb (fun h=>absurd h (by decide))) hb
   clear hK;rw[if_pos (by rfl)];go_simp;try simp only[d0,d3,d6]
   refine A.mono ?_;rintro e w9 ⟨rfl,hb9⟩;have hK2:=hK' w9 hb9;clear hK' A hb9;go_simp;simpa[upd,d0,d3,d6] using hK2
 case hdone=>
  intro L t w6 hx hg;have e8:t 8=.bool (!V):=by simpa using hg 8 (by decide)
  have HBF:Hid (Below w.heap.size w w6):=HB9.out.trans (hx.below.mono HB9.out.size);clear hg hx;simp only[e8];clear e8;cases V with
  |true=>
   have HF:Hid (tapC D U ks tk now=1):=HTV.out;clear HTV;go_wp2
   go_ret
   exact⟨by rw[HF.out];rfl,HBF.out⟩
  |false=>
   have HF:Hid (tapC D U ks tk now=7):=HTV.out;clear HTV;go_wp2
   go_ret
   exact⟨by rw[HF.out];rfl,HBF.out⟩
structure DU where
 c:Int
 fk:Int
 a:Nat
 b:Nat
noncomputable def duR (D U:List Int) (k:Int) (n:Nat) (ks:List Int) (kind:Int) (tk:List Int) (now N:Int):DU:=
 if kind=1 then(if tapC D U ks tk now=1 then ⟨1,1,(tkS tk).toNat,now.toNat⟩ else ⟨tapC D U ks tk now,0,0,0⟩)
 else if kind=2 then(if 0≤N∧N<256 then(if memB N D=true then ⟨9,0,0,0⟩ else if D.length=16 then ⟨10,0,0,0⟩ else ⟨9,2,N.toNat,1⟩) else ⟨10,0,0,0⟩)
 else if kind=3 then(if 0≤N∧N<256 then(if memB N D=true then ⟨9,2,N.toNat,0⟩ else ⟨9,0,0,0⟩) else ⟨10,0,0,0⟩)
 else if kind=4 then(if N<k then ⟨10,0,0,0⟩ else if k+(n:Int)<N then ⟨10,0,0,0⟩ else if N=k then ⟨9,0,0,0⟩ else ⟨9,3,N.toNat,0⟩)
 else ⟨9,0,0,0⟩
def duV (r:DU):Value:=.tuple #[.int .i64 r.c,.agg #[.int .u32 0,.int .i64 r.fk,.int .u32 (r.a:Int),.int .u32 (r.b:Int)]]
theorem wr32 {x:Nat} (h:x≤4294967295):IntKind.u32.wrap (x:Int)=x:=by
 rw[IntKind.wrap_u32];omega
theorem tkS_nn {tk:List Int} (h:Byte tk):0≤tkS tk:=by
 unfold tkS;have a:∀ i,0≤tk.getD i 0:=fun i=>by
  by_cases hi:i<tk.length
  ·have:=h (tk.getD i 0) (by simp[List.getD,hi]);omega
  ·simp[List.getD,hi]
 have:=a 2;have:=a 3;omega
theorem tapC_one {D U ks tk:List Int} {now:Int} (hz:Byte tk) (h:tapC D U ks tk now=1):∃ s m:Nat,tkS tk=s∧now=m∧s<256∧m≤4294967295∧tkB tk=true:=by
 have hs:=tkS_nn hz;unfold tapC at h;by_cases h0:now<0
 ·rw[if_pos h0] at h;omega
 rw[if_neg h0] at h;by_cases h1:4294967295<now
 ·rw[if_pos h1] at h;omega
 rw[if_neg h1] at h;by_cases h2:tkB tk=false
 ·rw[if_pos h2] at h;omega
 rw[if_neg h2] at h;by_cases h3:256≤tkS tk
 ·rw[if_pos h3] at h;omega
 exact⟨(tkS tk).toNat,now.toNat,by omega,by omega,by omega,by omega,by simpa using h2⟩
theorem duR_4 {D U:List Int} {k:Int} {n:Nat} {ks tk:List Int} {now N:Int}:duR D U k n ks 4 tk now N=if N<k then ⟨10,0,0,0⟩ else if k+(n:Int)<N then ⟨10,0,0,0⟩ else if N=k then ⟨9,0,0,0⟩ else ⟨9,3,N.toNat,0⟩:=by
 unfold duR;rw[if_neg (by decide),if_neg (by decide),if_neg (by decide),if_pos rfl]
theorem run_tk1 (w:World) (o:Bool) (s x:Int):(Instr.field 86 (.agg #[.bool o,.int .i64 s,.int .i64 x]) 1).run Tryz.prog w=.ok (.int .i64 s) w:=by kernel_rfl
theorem results_fr {fn:Func} {p u:Tmp} (h:fn.results=#[.tmp u,.cell p 38]) (tmps:Array Value) (w:World) (g:Nat) (cs:Array Value) (v:Value) (hv:tmps.getD u undef=v)
  (hp:tmps.getD p undef=.pointer (some ⟨g,0,none⟩)) (hr:w.heap[g]?=some (.cells cs 38 (0,0))) (hs:(Tryz.prog.info? 38).map (·.size)=some cs.size) :
  (results fn tmps).run Tryz.prog w=.ok (.tuple #[v,.agg cs]) w:=by
 have hp':tmps[p]?.getD undef=.pointer (some ⟨g,0,none⟩):=by simpa using hp
 have hv':tmps[u]?.getD undef=v:=by simpa using hv
 have hl:=run_loadVar_row (P:=Tryz.prog) w g 38 38 cs (0,0) _ hr Tryz.underlying38 rfl hs;simp[results,h,hp',hv',asAddr,hl]
set_option maxRecDepth 100000 in
set_option maxHeartbeats 4000000 in
theorem due_any (aD aU aT:Option Addr) (nD cD nU cU nT cT:Nat) (D U:List Int) (k:Int) (bp op cp:Nat) (ks:List Int) (ta:Option Addr) (tn tc:Nat) (tk:List Int) (kind now N:Int) (w:World) (hD:D.length=nD) (hU:U.length=nU) (mD:nD≤1048576) (mU:nU≤1048576) (mT:nT≤1048576)
  (haD:At .i64 w aD D) (haU:At .i64 w aU U) (h0:0≤k) (h1:k≤1048576) (hk:ks.length=32) (hp:PtA w bp op ks) (zk:Byte ks) (ht:tk.length=tn) (mt:tn≤1048576) (hct:tn≤tc) (hat:At .u8 w ta tk) (zt:Byte tk) :
  Calls Tryz.prog 22 #[.agg #[.slice aD nD cD,.slice aU nU cU,.int .i64 k,.slice aT nT cT],.slice (some ⟨bp,op,none⟩) 32 cp,.agg #[.int .i64 kind,.slice ta tn tc,.int .i64 now,.int .i64 N]] w fun e w'=>e=.returned (duV (duR D U k nT ks kind tk now N))∧Below w.heap.size w w':=by
 have HXQ:Hid (BX2 w 26 28 #[.slice aD nD cD,.slice aU nU cU,.int .i64 k,.slice aT nT cT] #[.int .i64 kind,.slice ta tn tc,.int .i64 now,.int .i64 N] ((w.alloc (.cells #[.slice aD nD cD,.slice aU nU cU,.int .i64 k,.slice aT nT cT] 26)).alloc (.cells #[.int .i64 kind,.slice ta tn tc,.int .i64 now,.int .i64 N] 28))):=BX2.start _ _ _ _ _;have HQZ:Hid (((w.alloc (.cells #[.slice aD nD cD,.slice aU nU cU,.int .i64 k,.slice aT nT cT] 26)).alloc (.cells #[.int .i64 kind,.slice ta tn tc,.int .i64 now,.int .i64 N] 28)).heap.size=w.heap.size+2):=by show _=_;simp
 have HA:Hid (∀ wz,Below w.heap.size w wz→At .i64 wz aD D∧At .i64 wz aU U∧At .u8 wz ta tk∧PtA wz bp op ks):=fun wz h=>⟨haD.below h,haU.below h,hat.below h,hp.below h⟩
 have HL:Hid (D.length=nD∧U.length=nU∧tk.length=tn∧ks.length=32∧Byte ks∧Byte tk):=⟨hD,hU,ht,hk,zk,zt⟩
 have HFZ:Hid ((Tryz.prog.info? 38).map (·.size)=some 4):=by show _=_;kernel_rfl
 have HSZ:Hid ((Tryz.prog.info? 26).map (·.size)=some 4):=by show _=_;kernel_rfl
 have HOZ:Hid ((Tryz.prog.info? 28).map (·.size)=some 4):=by show _=_;kernel_rfl
 clear hD hU haD haU hk hp zk ht hat zt;go_enter Tryz.func22,Tryz.ntmps22
 go_upto_region 1 with fail
 generalize ((w.alloc (.cells #[.slice aD nD cD,.slice aU nU cU,.int .i64 k,.slice aT nT cT] 26)).alloc (.cells #[.int .i64 kind,.slice ta tn tc,.int .i64 now,.int .i64 N] 28))=wq at *;have HRB:Hid ((wq.alloc (.cells #[.int .u32 0,.int .i64 0,.int .u32 0,.int .u32 0] 38)).heap[w.heap.size+2]?=some (.cells #[.int .u32 0,.int .i64 0,.int .u32 0,.int .u32 0] 38 (0,0))):=by show _=_;rw[←HQZ.out];exact heap_alloc_new wq _
 have HBQ:Hid (Below wq.heap.size wq (wq.alloc (.cells #[.int .u32 0,.int .i64 0,.int .u32 0,.int .u32 0] 38))):=(Below.refl _ _).alloc (Nat.le_refl _) _;have HX0:=hdI <| HXQ.out.call HBQ.out
 generalize wq.alloc (.cells #[.int .u32 0,.int .i64 0,.int .u32 0,.int .u32 0] 38)=w0 at *;have HB:=hdI <| HX0.out.below
 have o0:w0.cell? ⟨w.heap.size+1,0,none⟩=some (.int .i64 kind):=by rw[cell_of_row w0 _ 0 _ _ _ HX0.out.b1];rfl
 have o3:w0.cell? ⟨w.heap.size+1,3,none⟩=some (.int .i64 N):=by rw[cell_of_row w0 _ 3 _ _ _ HX0.out.b1];rfl
 have s0:w0.cell? ⟨w.heap.size,0,none⟩=some (.slice aD nD cD):=by rw[cell_of_row w0 _ 0 _ _ _ HX0.out.b0];rfl
 have s2:w0.cell? ⟨w.heap.size,2,none⟩=some (.int .i64 k):=by rw[cell_of_row w0 _ 2 _ _ _ HX0.out.b0];rfl
 have s3:w0.cell? ⟨w.heap.size,3,none⟩=some (.slice aT nT cT):=by rw[cell_of_row w0 _ 3 _ _ _ HX0.out.b0];rfl
 by_cases hk1:kind=1
 ·subst hk1;have hser:(decide (0≤N)=true∧decide (N<256)=true)∨(decide (0≤N)=true∧decide (N<256)=false)∨decide (0≤N)=false:=by
   cases decide (0≤N)<;>cases decide (N<256)<;>simp
  rcases hser with⟨hn0',hn1'⟩|⟨hn0',hn1'⟩|hn0'
  all_goals
   have HLT:=hdI <| HXQ.out.lt
   go_wp2_with (first
    |(refine wpList_load_row rfl 26 (.tmp 3) rfl w.heap.size rfl 26 _ (0,0) _ HX0.out.b0 Tryz.underlying26 rfl HSZ.out ?_)
    |(refine wpList_load_row rfl 28 (.tmp 5) rfl (w.heap.size+1) rfl 28 _ (0,0) _ HX0.out.b1 Tryz.underlying28 rfl HOZ.out ?_)
    |fail)
   refine(stp_any aD aU aT nD cD nU cU nT cT D U k bp op cp ks ta tn tc tk 1 now N w0 HL.out.1 HL.out.2.1 mD mU (HA.out _ HB.out).1 (HA.out _ HB.out).2.1 HL.out.2.2.2.1 (HA.out _ HB.out).2.2.2 HL.out.2.2.2.2.1 HL.out.2.2.1 mt hct (HA.out _ HB.out).2.2.1 HL.out.2.2.2.2.2).mono ?_;rintro e w1 ⟨rfl,hb1⟩;have HR0:Hid (w1.heap[w.heap.size+2]?=some (.cells #[.int .u32 0,.int .i64 0,.int .u32 0,.int .u32 0] 38 (0,0))):=by show _=_;rw[hb1.block _ (Array.getElem?_eq_some_iff.1 HRB.out).1];exact HRB.out
   have HW0:=hdI <| below_drewQ (HBQ.out.trans (hb1.mono HBQ.out.size)) 1
   have HB1:=hdI <| HB.out.trans (hb1.mono HB.out.size)
   have HT1:Hid (tapC D U ks tk now=1→∃ s m:Nat,tkS tk=s∧now=m∧s<256∧m≤4294967295∧tkB tk=true):=tapC_one HL.out.2.2.2.2.2;have HDU:Hid (duV (duR D U k nT ks 1 tk now N)=if tapC D U ks tk now=1 then .tuple #[.int .i64 1,.agg #[.int .u32 0,.int .i64 1,.int .u32 ((tkS tk).toNat:Nat),.int .u32 (now.toNat:Nat)]] else .tuple #[.int .i64 (tapC D U ks tk now),.agg #[.int .u32 0,.int .i64 0,.int .u32 0,.int .u32 0]]):=by
    show _=_
    unfold duR;by_cases h:tapC D U ks tk now=1<;>simp[h,duV]
   clear hb1 o0 o3 s0 s2 s3 HRB HB HBQ HX0;generalize hc:tapC D U ks tk now=c at *;have HC:=hdI <| hc
   clear hc;by_cases hc1:c=1
   ·subst hc1;obtain⟨s,m,hs,hm,hs2,hm2,htb⟩:=HT1.out rfl;have HF:Hid (duV (duR D U k nT ks 1 tk now N)=.tuple #[.int .i64 1,.agg #[.int .u32 0,.int .i64 1,.int .u32 s,.int .u32 m]]):=by show _=_;rw[HDU.out,if_pos rfl,hs,hm];rfl
    have HPT:Hid (∀ wz,Below wq.heap.size wq wz→Calls Tryz.prog 42 #[.slice ta tn tc] wz fun e w'=>e=.returned (.agg #[.bool true,.int .i64 s,.int .i64 (tkE tk)])∧Below wz.heap.size wz w'):=fun wz h=>by
     have:=ptS_any ta tn tc tk wz HL.out.2.2.1 mt hct (HA.out wz (HXQ.out.below.trans (h.mono HXQ.out.below.size))).2.2.1 HL.out.2.2.2.2.2;rw[tkV_yes htb,hs] at this;exact this
    have HW1:Hid (IntKind.u32.wrap (s:Int)=s):=wr32 (by omega);have HW2:Hid (IntKind.u32.wrap (m:Int)=m):=wr32 (by omega);subst hm;generalize tkE tk=x at *;clear HDU HT1 HC hs htb HA HL hs2 hm2;go_wp2_with fail;refine wp_region_any (by kernel_rfl) ?_;refine wpAny_slotsV (fun i a b=>if i=11 then Wr (w.heap.size+2) a b else Below a.heap.size a b) (frame:=(fun (a b c d e f g h i j k l m n o p q r s u v w x y z A B C D E F G H I J K L M N O P Q R S T U V W X Y Z a0 a1 a2 a3 a4 a5 a6 a7 a8 a9 b0 b1 b2 b3 b4 b5 b6 b7 b8 b9 c0 c1 c2 c3 c4 c5 c6 c7 c8 c9 d0 d1 d2 d3 d4 d5 d6 d7 d8 d9 e0 e1 e2 e3 e4:Value)=>fun (t:Nat→Value)=>({ tmps:=List.toArray [a,b,c,d,e,f,t 10,g,h,i,j,k,l,m,n,o,p,q,r,s,u,v,w,x,y,z,A,B,C,D,E,t 0,t 1,t 2,t 3,t 4,t 5,t 6,t 7,t 8,t 9,F,G,H,I,J,K,L,M,N,O,P,Q,R,S,T,U,V,W,X,Y,Z,a0,a1,a2,a3,a4,a5,a6,a7,a8,a9,b0,b1,b2,b3,b4,b5,b6,b7,b8,b9,c0,c1,c2,c3,c4,c5,c6,c7,c8,c9,d0,d1,d2,d3,d4,d5,d6,d7,d8,d9,e0,e1,e2,e3,e4],defers:=[] }:Act)) _ _ _ _ _ _ _ _ _ _ _ _ _ _ _ _ _ _ _ _ _ _ _ _ _ _ _ _ _ _ _ _ _ _ _ _ _ _ _ _ _ _ _ _ _ _ _ _ _ _ _ _ _ _ _ _ _ _ _ _ _ _ _ _ _ _ _ _ _ _ _ _ _ _ _ _ _ _ _ _ _ _ _ _ _ _ _ _ _ _ _ _ _ _ _ _)
     (Ext:=fun L u w'=>ApS wq (w.heap.size+2) 11 38 #[.int .u32 0,.int .i64 0,.int .u32 0,.int .u32 0] (fun _ cs=>cs=#[.int .u32 0,.int .i64 1,.int .u32 s,.int .u32 m]) [] L u w') (Good:=fun i L w' v=>if i=0 then v=.int .i64 1 else if i=1 then v=.pointer (some ⟨w.heap.size+1,1,none⟩) else if i=2 then v=.slice ta tn tc else if i=3 then v=.agg #[.bool true,.int .i64 s,.int .i64 x] else if i=4 then v=.int .i64 s else if i=5 then v=.int .u32 s else if i=6 then v=.pointer (some ⟨w.heap.size+1,2,none⟩) else if i=7 then v=.int .i64 m else if i=8 then v=.int .u32 m else if i=9 then v=.agg #[.int .u32 0,.int .i64 1,.int .u32 s,.int .u32 m] else if i=10 then v=.int .i64 1 else if i=11 then L 11=true else True) ?hstab (by kernel_rfl) ?hop ?hdone _ _ ((fun (x0 x1 x2 x3 x4 x5 x6 x7 x8 x9 x10:Value)=>fun (i:Nat)=>if i=0 then x0 else if i=1 then x1 else if i=2 then x2 else if i=3 then x3 else if i=4 then x4 else if i=5 then x5 else if i=6 then x6 else if i=7 then x7 else if i=8 then x8 else if i=9 then x9 else if i=10 then x10 else undef) _ _ _ _ _ _ _ _ _ _ _) _ (by simp) ?ext ?start (by simp)
    case start=>intro i hi h;exact absurd h (by rw[Array.getD_eq_getD_getElem?,Array.getElem?_replicate];split<;>simp)
    case ext=>exact ApS.start ⟨HW0.out,fun p _ hp=>absurd hp (by rw[Array.getD_eq_getD_getElem?,Array.getElem?_replicate];split<;>simp),fun p _ q _ _ hp=>absurd hp (by rw[Array.getD_eq_getD_getElem?,Array.getElem?_replicate];split<;>simp)⟩ (fun i=>by rw[Array.getD_eq_getD_getElem?,Array.getElem?_replicate];split<;>rfl) HR0.out
    case hstab=>
     intro j L w9 w' i v hM hij hLi h;by_cases hl:j=11
     ·subst hl;simp at h ⊢;unfold updK;simp[h]
     simp only[if_neg hl] at h ⊢;exact h
    case hop=>
     intro i o L t w' ho hLi hx hdep K hK;have hi:i<12:=(Array.getElem?_eq_some_iff.1 ho).1;obtain rfl|rfl|rfl|rfl|rfl|rfl|rfl|rfl|rfl|rfl|rfl|rfl:i=0∨i=1∨i=2∨i=3∨i=4∨i=5∨i=6∨i=7∨i=8∨i=9∨i=10∨i=11:=by omega
     all_goals(simp at ho;subst ho)
     ·clear hdep;have hK':=hK w' (.int .i64 1) (by simp) (hx.step (fun _ _ _ _ h=>h) 0 (by decide) _ (Below.refl _ _) (fun h=>absurd h (by decide))) (by rw[if_neg (by decide)];exact(Below.refl _ _));clear hK;rw[if_pos (by rfl)];go_simp;simpa[upd] using hK'
     ·clear hdep;have hK':=hK w' (.pointer (some ⟨w.heap.size+1,1,none⟩)) (by simp) (hx.step (fun _ _ _ _ h=>h) 1 (by decide) _ (Below.refl _ _) (fun h=>absurd h (by decide))) (by rw[if_neg (by decide)];exact(Below.refl _ _));clear hK;rw[if_pos (by rfl)];go_simp;simpa[upd] using hK'
     ·have d1:t 1=.pointer (some ⟨w.heap.size+1,1,none⟩):=by simpa using(hdep ⟨1,.data⟩ (by simp) rfl).2
      clear hdep;have cc:w'.cell? ⟨w.heap.size+1,1,none⟩=some (.slice ta tn tc):=by rw[World.cell?_of_block (a:=⟨w.heap.size+1,1,none⟩) (w:=wq) (hx.ax.below.block _ HLT.out),cell_of_row wq _ 1 _ _ _ HXQ.out.b1];rfl
      have hK':=hK w' (.slice ta tn tc) (by simp) (hx.step (fun _ _ _ _ h=>h) 2 (by decide) _ (Below.refl _ _) (fun h=>absurd h (by decide))) (by rw[if_neg (by decide)];exact(Below.refl _ _));clear hK;rw[if_pos (by rfl)];go_simp;simpa[upd,d1] using hK'
     ·have d2:t 2=.slice ta tn tc:=by simpa using(hdep ⟨2,.data⟩ (by simp) rfl).2
      clear hdep;have A:=HPT.out w' hx.ax.below;have hK':∀ ww,Below w'.heap.size w' ww→K _ ww:=fun ww hb=>hK ww (.agg #[.bool true,.int .i64 s,.int .i64 x]) (by simp) (hx.step (fun _ _ _ _ h=>h) 3 (by decide) _ hb (fun h=>absurd h (by decide))) (by rw[if_neg (by decide)];exact hb)
      clear hK;rw[if_pos (by rfl)];go_simp;try simp only[d2]
      refine A.mono ?_;rintro e w9 ⟨rfl,hb9⟩;have hK2:=hK' w9 hb9;clear hK' A hb9;go_simp;simpa[upd,d2] using hK2
     ·have d3:t 3=.agg #[.bool true,.int .i64 s,.int .i64 x]:=by simpa using(hdep ⟨3,.data⟩ (by simp) rfl).2
      clear hdep;have hK':=hK w' (.int .i64 s) (by simp) (hx.step (fun _ _ _ _ h=>h) 4 (by decide) _ (Below.refl _ _) (fun h=>absurd h (by decide))) (by rw[if_neg (by decide)];exact(Below.refl _ _));clear hK;rw[if_pos (by rfl)];go_simp;try simp only[d3]
      rw[run_tk1];go_simp;simpa[upd,d3] using hK'
     ·have d4:t 4=.int .i64 s:=by simpa using(hdep ⟨4,.data⟩ (by simp) rfl).2
      clear hdep;have hw:=HW1.out;have hK':=hK w' (.int .u32 s) (by simp) (hx.step (fun _ _ _ _ h=>h) 5 (by decide) _ (Below.refl _ _) (fun h=>absurd h (by decide))) (by rw[if_neg (by decide)];exact(Below.refl _ _));clear hK;rw[if_pos (by rfl)];go_simp;simpa[upd,d4] using hK'
     ·clear hdep;have hK':=hK w' (.pointer (some ⟨w.heap.size+1,2,none⟩)) (by simp) (hx.step (fun _ _ _ _ h=>h) 6 (by decide) _ (Below.refl _ _) (fun h=>absurd h (by decide))) (by rw[if_neg (by decide)];exact(Below.refl _ _));clear hK;rw[if_pos (by rfl)];go_simp;simpa[upd] using hK'
     ·have d6:t 6=.pointer (some ⟨w.heap.size+1,2,none⟩):=by simpa using(hdep ⟨6,.data⟩ (by simp) rfl).2
      clear hdep;have cc:w'.cell? ⟨w.heap.size+1,2,none⟩=some (.int .i64 m):=by rw[World.cell?_of_block (a:=⟨w.heap.size+1,2,none⟩) (w:=wq) (hx.ax.below.block _ HLT.out),cell_of_row wq _ 2 _ _ _ HXQ.out.b1];rfl
      have hK':=hK w' (.int .i64 m) (by simp) (hx.step (fun _ _ _ _ h=>h) 7 (by decide) _ (Below.refl _ _) (fun h=>absurd h (by decide))) (by rw[if_neg (by decide)];exact(Below.refl _ _));clear hK;rw[if_pos (by rfl)];go_simp;simpa[upd,d6] using hK'
     ·have d7:t 7=.int .i64 m:=by simpa using(hdep ⟨7,.data⟩ (by simp) rfl).2
      clear hdep;have hw:=HW2.out;have hK':=hK w' (.int .u32 m) (by simp) (hx.step (fun _ _ _ _ h=>h) 8 (by decide) _ (Below.refl _ _) (fun h=>absurd h (by decide))) (by rw[if_neg (by decide)];exact(Below.refl _ _));clear hK;rw[if_pos (by rfl)];go_simp;simpa[upd,d7] using hK'
     ·have d5:t 5=.int .u32 s:=by simpa using(hdep ⟨5,.data⟩ (by simp) rfl).2
      have d8:t 8=.int .u32 m:=by simpa using(hdep ⟨8,.data⟩ (by simp) rfl).2
      clear hdep;have hK':=hK w' (.agg #[.int .u32 0,.int .i64 1,.int .u32 s,.int .u32 m]) (by simp) (hx.step (fun _ _ _ _ h=>h) 9 (by decide) _ (Below.refl _ _) (fun h=>absurd h (by decide))) (by rw[if_neg (by decide)];exact(Below.refl _ _));clear hK;rw[if_pos (by rfl)];go_simp;simpa[upd,d5,d8] using hK'
     ·have d0:t 0=.int .i64 1:=by simpa using(hdep ⟨0,.data⟩ (by simp) rfl).2
      clear hdep;have hK':=hK w' (.int .i64 1) (by simp) (hx.step (fun _ _ _ _ h=>h) 10 (by decide) _ (Below.refl _ _) (fun h=>absurd h (by decide))) (by rw[if_neg (by decide)];exact(Below.refl _ _));clear hK;rw[if_pos (by rfl)];go_simp;simpa[upd,d0] using hK'
     ·have d9:t 9=.agg #[.int .u32 0,.int .i64 1,.int .u32 s,.int .u32 m]:=by simpa using(hdep ⟨9,.data⟩ (by simp) rfl).2
      clear hdep;have hrs:=hx.pre hLi;have hK':∀ ww,Wr (w.heap.size+2) w' ww→ww.heap[w.heap.size+2]?=some (.cells #[.int .u32 0,.int .i64 1,.int .u32 s,.int .u32 m] 38 (0,0))→K _ ww:=fun ww hw hr=>hK ww undef (by simp[updK]) (hx.put (Nat.le_of_eq HQZ.out) (by decide) _ hw hr rfl) (by rw[if_pos rfl];exact hw)
      clear hK;rw[if_pos (by rfl)];refine wp_store_row 38 (.tmp 7) (.tmp 40) rfl (w.heap.size+2) _ rfl d9 38 _ hrs HFZ.out rfl (by simp[Value.oneCell']) ?_;have hK2:=hK' _ (Wr.setRow _ _ _) (setRow_heap _ _ _ _ _ _ hrs);clear hK';simpa[upd,Act.put] using hK2
    case hdone=>
     intro L t w' hx hg;have l11:L 11=true:=by simpa using hg 11 (by decide)
     have e10:t 10=.int .i64 1:=by simpa using hg 10 (by decide)
     clear hg;obtain⟨cs,hr,rfl⟩:=hx.fin l11;have HR9:=hdI <| hr
     have HFF:=hdI <| HXQ.out.below.trans (hx.ax.below.mono HXQ.out.below.size)
     clear hx hr;simp only[e10];clear e10;go_wp2_with fail;exact bodyPost_ret (v:=.tuple #[.int .i64 1,.agg #[.int .u32 0,.int .i64 1,.int .u32 s,.int .u32 m]]) (results_fr rfl _ _ (w.heap.size+2) _ _ rfl rfl HR9.out HFZ.out) rfl ⟨by rw[HF.out],HFF.out⟩
   ·have HF:Hid (duV (duR D U k nT ks 1 tk now N)=.tuple #[.int .i64 c,.agg #[.int .u32 0,.int .i64 0,.int .u32 0,.int .u32 0]]):=by show _=_;rw[HDU.out,if_neg hc1]
    have hc1':=decide_eq_false hc1;have HB:=HB1;have HRB:=HR0;clear HDU HT1 HC;have HFN:Hid (Below w.heap.size w (w1.setRow (w.heap.size+2) #[.int .u32 0,.int .i64 0,.int .u32 0,.int .u32 0])):=HB.out.trans ((Wr.setRow _ _ _).below (by omega))
    go_upto_region 7 with fail
    go_wp2_with (first
     |(refine wpList_store_row rfl 38 (.tmp 7) (.tmp 30) rfl (w.heap.size+2) #[.int .u32 0,.int .i64 0,.int .u32 0,.int .u32 0] rfl rfl 38 _ HRB.out HFZ.out rfl (by simp[Value.oneCell']) ?_)
     |fail)
    all_goals exact bodyPost_ret (v:=.tuple #[.int .i64 c,.agg #[.int .u32 0,.int .i64 0,.int .u32 0,.int .u32 0]]) (results_fr rfl _ _ (w.heap.size+2) _ _ rfl rfl (setRow_heap _ _ _ _ _ _ HRB.out) HFZ.out) rfl ⟨by rw[HF.out],HFN.out⟩
 by_cases hk2:kind=2
 ·subst hk2;clear hk1;by_cases hn0:0≤N
  ·by_cases hn1:N<256
   ·obtain⟨m,rfl⟩:∃ m:Nat,N=m:=⟨N.toNat,by omega⟩
    have hn0':=decide_eq_true hn0;have hn1':=decide_eq_true hn1;have hwr:IntKind.u32.wrap (m:Int)=m:=wr32 (by omega);clear hn0;go_wp2_with fail;refine(holds_any aD nD cD D m _ HL.out.1 mD (HA.out _ HB.out).1).mono ?_;rintro e w4 ⟨rfl,e4⟩;obtain rfl:w0=w4:=e4.symm;cases hm:memB (m:Int) D with
    |true=>
     have HMT:=hdI <| hm
     have HF:Hid (duV (duR D U k nT ks 2 tk now m)=.tuple #[.int .i64 9,.agg #[.int .u32 0,.int .i64 0,.int .u32 0,.int .u32 0]]):=by show _=_;unfold duR;simp[hn1,hm,duV]
     clear hm hn1;go_wp2_with fail;refine(holds_any aD nD cD D m _ HL.out.1 mD (HA.out _ HB.out).1).mono ?_;rintro e w4 ⟨rfl,e4⟩;obtain rfl:w0=w4:=e4.symm;rw[HMT.out];have HFN:Hid (Below w.heap.size w (w0.setRow (w.heap.size+2) #[.int .u32 0,.int .i64 0,.int .u32 0,.int .u32 0])):=HB.out.trans ((Wr.setRow _ _ _).below (by omega))
     go_upto_region 13 with fail
     go_wp2_with (first
      |(refine wpList_store_row rfl 38 (.tmp 7) (.tmp 63) rfl (w.heap.size+2) #[.int .u32 0,.int .i64 0,.int .u32 0,.int .u32 0] rfl rfl 38 _ HRB.out HFZ.out rfl (by simp[Value.oneCell']) ?_)
      |fail)
     all_goals exact bodyPost_ret (v:=.tuple #[.int .i64 9,.agg #[.int .u32 0,.int .i64 0,.int .u32 0,.int .u32 0]]) (results_fr rfl _ _ (w.heap.size+2) _ _ rfl rfl (setRow_heap _ _ _ _ _ _ HRB.out) HFZ.out) rfl ⟨by rw[HF.out],HFN.out⟩
    |false=>
     by_cases h16:nD=16
     ·have HF:Hid (duV (duR D U k nT ks 2 tk now m)=.tuple #[.int .i64 10,.agg #[.int .u32 0,.int .i64 0,.int .u32 0,.int .u32 0]]):=by show _=_;unfold duR;simp[hn1,hm,duV,HL.out.1,h16]
      subst h16;clear hm hn1;have HFN:Hid (Below w.heap.size w (w0.setRow (w.heap.size+2) #[.int .u32 0,.int .i64 0,.int .u32 0,.int .u32 0])):=HB.out.trans ((Wr.setRow _ _ _).below (by omega))
      go_upto_region 11 with fail
      go_wp2_with (first
       |(refine wpList_store_row rfl 38 (.tmp 7) (.tmp 58) rfl (w.heap.size+2) #[.int .u32 0,.int .i64 0,.int .u32 0,.int .u32 0] rfl rfl 38 _ HRB.out HFZ.out rfl (by simp[Value.oneCell']) ?_)
       |fail)
      all_goals exact bodyPost_ret (v:=.tuple #[.int .i64 10,.agg #[.int .u32 0,.int .i64 0,.int .u32 0,.int .u32 0]]) (results_fr rfl _ _ (w.heap.size+2) _ _ rfl rfl (setRow_heap _ _ _ _ _ _ HRB.out) HFZ.out) rfl ⟨by rw[HF.out],HFN.out⟩
     ·have HF:Hid (duV (duR D U k nT ks 2 tk now m)=.tuple #[.int .i64 9,.agg #[.int .u32 0,.int .i64 2,.int .u32 m,.int .u32 1]]):=by show _=_;unfold duR;simp[hn1,hm,duV,HL.out.1,h16]
      have h16':¬ ((nD:Int)=16):=by omega
      have HM:=hdI <| hm
      clear hm hn1 h16;go_wp2_with fail;refine(holds_any aD nD cD D m _ HL.out.1 mD (HA.out _ HB.out).1).mono ?_;rintro e w4 ⟨rfl,e4⟩;obtain rfl:w0=w4:=e4.symm;rw[HM.out];have HFN:Hid (Below w.heap.size w (w0.setRow (w.heap.size+2) #[.int .u32 0,.int .i64 2,.int .u32 m,.int .u32 1])):=HB.out.trans ((Wr.setRow _ _ _).below (by omega))
      go_upto_region 14 with fail
      go_wp2_with (first
       |(refine wpList_store_row rfl 38 (.tmp 7) (.tmp 66) rfl (w.heap.size+2) #[.int .u32 0,.int .i64 2,.int .u32 m,.int .u32 1] rfl rfl 38 _ HRB.out HFZ.out rfl (by simp[Value.oneCell']) ?_)
       |fail)
      all_goals exact bodyPost_ret (v:=.tuple #[.int .i64 9,.agg #[.int .u32 0,.int .i64 2,.int .u32 m,.int .u32 1]]) (results_fr rfl _ _ (w.heap.size+2) _ _ rfl rfl (setRow_heap _ _ _ _ _ _ HRB.out) HFZ.out) rfl ⟨by rw[HF.out],HFN.out⟩
   ·have HF:Hid (duV (duR D U k nT ks 2 tk now N)=.tuple #[.int .i64 10,.agg #[.int .u32 0,.int .i64 0,.int .u32 0,.int .u32 0]]):=by show _=_;unfold duR;simp[hn1,duV]
    have hn0':=decide_eq_true hn0;have hn1':=decide_eq_false hn1;clear hn0 hn1;have HFN:Hid (Below w.heap.size w (w0.setRow (w.heap.size+2) #[.int .u32 0,.int .i64 0,.int .u32 0,.int .u32 0])):=HB.out.trans ((Wr.setRow _ _ _).below (by omega))
    go_upto_region 11 with fail
    go_wp2_with (first
     |(refine wpList_store_row rfl 38 (.tmp 7) (.tmp 58) rfl (w.heap.size+2) #[.int .u32 0,.int .i64 0,.int .u32 0,.int .u32 0] rfl rfl 38 _ HRB.out HFZ.out rfl (by simp[Value.oneCell']) ?_)
     |fail)
    all_goals exact bodyPost_ret (v:=.tuple #[.int .i64 10,.agg #[.int .u32 0,.int .i64 0,.int .u32 0,.int .u32 0]]) (results_fr rfl _ _ (w.heap.size+2) _ _ rfl rfl (setRow_heap _ _ _ _ _ _ HRB.out) HFZ.out) rfl ⟨by rw[HF.out],HFN.out⟩
  ·have HF:Hid (duV (duR D U k nT ks 2 tk now N)=.tuple #[.int .i64 10,.agg #[.int .u32 0,.int .i64 0,.int .u32 0,.int .u32 0]]):=by show _=_;unfold duR;simp[hn0,duV]
   have hn0':=decide_eq_false hn0;clear hn0;have HFN:Hid (Below w.heap.size w (w0.setRow (w.heap.size+2) #[.int .u32 0,.int .i64 0,.int .u32 0,.int .u32 0])):=HB.out.trans ((Wr.setRow _ _ _).below (by omega))
   go_upto_region 11 with fail
   go_wp2_with (first
    |(refine wpList_store_row rfl 38 (.tmp 7) (.tmp 58) rfl (w.heap.size+2) #[.int .u32 0,.int .i64 0,.int .u32 0,.int .u32 0] rfl rfl 38 _ HRB.out HFZ.out rfl (by simp[Value.oneCell']) ?_)
    |fail)
   all_goals exact bodyPost_ret (v:=.tuple #[.int .i64 10,.agg #[.int .u32 0,.int .i64 0,.int .u32 0,.int .u32 0]]) (results_fr rfl _ _ (w.heap.size+2) _ _ rfl rfl (setRow_heap _ _ _ _ _ _ HRB.out) HFZ.out) rfl ⟨by rw[HF.out],HFN.out⟩
 by_cases hk3:kind=3
 ·subst hk3;clear hk1 hk2;by_cases hn0:0≤N
  ·by_cases hn1:N<256
   ·obtain⟨m,rfl⟩:∃ m:Nat,N=m:=⟨N.toNat,by omega⟩
    have hn0':=decide_eq_true hn0;have hn1':=decide_eq_true hn1;have hwr:IntKind.u32.wrap (m:Int)=m:=wr32 (by omega);clear hn0;go_wp2_with fail;refine(holds_any aD nD cD D m _ HL.out.1 mD (HA.out _ HB.out).1).mono ?_;rintro e w4 ⟨rfl,e4⟩;obtain rfl:w0=w4:=e4.symm;cases hm:memB (m:Int) D with
    |true=>
     have HF:Hid (duV (duR D U k nT ks 3 tk now m)=.tuple #[.int .i64 9,.agg #[.int .u32 0,.int .i64 2,.int .u32 m,.int .u32 0]]):=by show _=_;unfold duR;simp[hn1,hm,duV]
     clear hm hn1;have HFN:Hid (Below w.heap.size w (w0.setRow (w.heap.size+2) #[.int .u32 0,.int .i64 2,.int .u32 m,.int .u32 0])):=HB.out.trans ((Wr.setRow _ _ _).below (by omega))
     go_upto_region 20 with fail
     go_wp2_with (first
      |(refine wpList_store_row rfl 38 (.tmp 7) (.tmp 80) rfl (w.heap.size+2) #[.int .u32 0,.int .i64 2,.int .u32 m,.int .u32 0] rfl rfl 38 _ HRB.out HFZ.out rfl (by simp[Value.oneCell']) ?_)
      |fail)
     all_goals exact bodyPost_ret (v:=.tuple #[.int .i64 9,.agg #[.int .u32 0,.int .i64 2,.int .u32 m,.int .u32 0]]) (results_fr rfl _ _ (w.heap.size+2) _ _ rfl rfl (setRow_heap _ _ _ _ _ _ HRB.out) HFZ.out) rfl ⟨by rw[HF.out],HFN.out⟩
    |false=>
     have HF:Hid (duV (duR D U k nT ks 3 tk now m)=.tuple #[.int .i64 9,.agg #[.int .u32 0,.int .i64 0,.int .u32 0,.int .u32 0]]):=by show _=_;unfold duR;simp[hn1,hm,duV]
     clear hm hn1;have HFN:Hid (Below w.heap.size w (w0.setRow (w.heap.size+2) #[.int .u32 0,.int .i64 0,.int .u32 0,.int .u32 0])):=HB.out.trans ((Wr.setRow _ _ _).below (by omega))
     go_upto_region 19 with fail
     go_wp2_with (first
      |(refine wpList_store_row rfl 38 (.tmp 7) (.tmp 77) rfl (w.heap.size+2) #[.int .u32 0,.int .i64 0,.int .u32 0,.int .u32 0] rfl rfl 38 _ HRB.out HFZ.out rfl (by simp[Value.oneCell']) ?_)
      |fail)
     all_goals exact bodyPost_ret (v:=.tuple #[.int .i64 9,.agg #[.int .u32 0,.int .i64 0,.int .u32 0,.int .u32 0]]) (results_fr rfl _ _ (w.heap.size+2) _ _ rfl rfl (setRow_heap _ _ _ _ _ _ HRB.out) HFZ.out) rfl ⟨by rw[HF.out],HFN.out⟩
   ·have HF:Hid (duV (duR D U k nT ks 3 tk now N)=.tuple #[.int .i64 10,.agg #[.int .u32 0,.int .i64 0,.int .u32 0,.int .u32 0]]):=by show _=_;unfold duR;simp[hn1,duV]
    have hn0':=decide_eq_true hn0;have hn1':=decide_eq_false hn1;clear hn0 hn1;have HFN:Hid (Below w.heap.size w (w0.setRow (w.heap.size+2) #[.int .u32 0,.int .i64 0,.int .u32 0,.int .u32 0])):=HB.out.trans ((Wr.setRow _ _ _).below (by omega))
    go_upto_region 17 with fail
    go_wp2_with (first
     |(refine wpList_store_row rfl 38 (.tmp 7) (.tmp 71) rfl (w.heap.size+2) #[.int .u32 0,.int .i64 0,.int .u32 0,.int .u32 0] rfl rfl 38 _ HRB.out HFZ.out rfl (by simp[Value.oneCell']) ?_)
     |fail)
    all_goals exact bodyPost_ret (v:=.tuple #[.int .i64 10,.agg #[.int .u32 0,.int .i64 0,.int .u32 0,.int .u32 0]]) (results_fr rfl _ _ (w.heap.size+2) _ _ rfl rfl (setRow_heap _ _ _ _ _ _ HRB.out) HFZ.out) rfl ⟨by rw[HF.out],HFN.out⟩
  ·have HF:Hid (duV (duR D U k nT ks 3 tk now N)=.tuple #[.int .i64 10,.agg #[.int .u32 0,.int .i64 0,.int .u32 0,.int .u32 0]]):=by show _=_;unfold duR;simp[hn0,duV]
   have hn0':=decide_eq_false hn0;clear hn0;have HFN:Hid (Below w.heap.size w (w0.setRow (w.heap.size+2) #[.int .u32 0,.int .i64 0,.int .u32 0,.int .u32 0])):=HB.out.trans ((Wr.setRow _ _ _).below (by omega))
   go_upto_region 17 with fail
   go_wp2_with (first
    |(refine wpList_store_row rfl 38 (.tmp 7) (.tmp 71) rfl (w.heap.size+2) #[.int .u32 0,.int .i64 0,.int .u32 0,.int .u32 0] rfl rfl 38 _ HRB.out HFZ.out rfl (by simp[Value.oneCell']) ?_)
    |fail)
   all_goals exact bodyPost_ret (v:=.tuple #[.int .i64 10,.agg #[.int .u32 0,.int .i64 0,.int .u32 0,.int .u32 0]]) (results_fr rfl _ _ (w.heap.size+2) _ _ rfl rfl (setRow_heap _ _ _ _ _ _ HRB.out) HFZ.out) rfl ⟨by rw[HF.out],HFN.out⟩
 by_cases hk4:kind=4
 ·subst hk4;clear hk1 hk2 hk3;have hser:(decide (0≤N)=true∧decide (N<256)=true)∨(decide (0≤N)=true∧decide (N<256)=false)∨decide (0≤N)=false:=by
   cases decide (0≤N)<;>cases decide (N<256)<;>simp
  rcases hser with⟨hn0',hn1'⟩|⟨hn0',hn1'⟩|hn0'
  all_goals
   by_cases hlo:N<k
   ·have HF:Hid (duV (duR D U k nT ks 4 tk now N)=.tuple #[.int .i64 10,.agg #[.int .u32 0,.int .i64 0,.int .u32 0,.int .u32 0]]):=by show _=_;rw[duR_4,if_pos hlo];rfl
    have hlo':=decide_eq_true hlo;clear hlo;have HFN:Hid (Below w.heap.size w (w0.setRow (w.heap.size+2) #[.int .u32 0,.int .i64 0,.int .u32 0,.int .u32 0])):=HB.out.trans ((Wr.setRow _ _ _).below (by omega))
    go_upto_region 23 with fail
    go_wp2_with (first
     |(refine wpList_store_row rfl 38 (.tmp 7) (.tmp 97) rfl (w.heap.size+2) #[.int .u32 0,.int .i64 0,.int .u32 0,.int .u32 0] rfl rfl 38 _ HRB.out HFZ.out rfl (by simp[Value.oneCell']) ?_)
     |fail)
    all_goals exact bodyPost_ret (v:=.tuple #[.int .i64 10,.agg #[.int .u32 0,.int .i64 0,.int .u32 0,.int .u32 0]]) (results_fr rfl _ _ (w.heap.size+2) _ _ rfl rfl (setRow_heap _ _ _ _ _ _ HRB.out) HFZ.out) rfl ⟨by rw[HF.out],HFN.out⟩
   have hlo':=decide_eq_false hlo;by_cases hhi:k+(nT:Int)<N
   ·have HF:Hid (duV (duR D U k nT ks 4 tk now N)=.tuple #[.int .i64 10,.agg #[.int .u32 0,.int .i64 0,.int .u32 0,.int .u32 0]]):=by show _=_;rw[duR_4,if_neg hlo,if_pos hhi];rfl
    have hhi':=decide_eq_true hhi;clear hlo hhi;have HFN:Hid (Below w.heap.size w (w0.setRow (w.heap.size+2) #[.int .u32 0,.int .i64 0,.int .u32 0,.int .u32 0])):=HB.out.trans ((Wr.setRow _ _ _).below (by omega))
    go_upto_region 23 with fail
    go_wp2_with (first
     |(refine wpList_store_row rfl 38 (.tmp 7) (.tmp 97) rfl (w.heap.size+2) #[.int .u32 0,.int .i64 0,.int .u32 0,.int .u32 0] rfl rfl 38 _ HRB.out HFZ.out rfl (by simp[Value.oneCell']) ?_)
     |fail)
    all_goals exact bodyPost_ret (v:=.tuple #[.int .i64 10,.agg #[.int .u32 0,.int .i64 0,.int .u32 0,.int .u32 0]]) (results_fr rfl _ _ (w.heap.size+2) _ _ rfl rfl (setRow_heap _ _ _ _ _ _ HRB.out) HFZ.out) rfl ⟨by rw[HF.out],HFN.out⟩
   have hhi':decide (k+(nT:Int)<N)=false:=decide_eq_false hhi;by_cases hne:N=k
   ·have HF:Hid (duV (duR D U k nT ks 4 tk now N)=.tuple #[.int .i64 9,.agg #[.int .u32 0,.int .i64 0,.int .u32 0,.int .u32 0]]):=by show _=_;rw[duR_4,if_neg hlo,if_neg hhi,if_pos hne];rfl
    subst hne;clear hlo hhi;have HFN:Hid (Below w.heap.size w (w0.setRow (w.heap.size+2) #[.int .u32 0,.int .i64 0,.int .u32 0,.int .u32 0])):=HB.out.trans ((Wr.setRow _ _ _).below (by omega))
    go_upto_region 25 with fail
    go_wp2_with (first
     |(refine wpList_store_row rfl 38 (.tmp 7) (.tmp 102) rfl (w.heap.size+2) #[.int .u32 0,.int .i64 0,.int .u32 0,.int .u32 0] rfl rfl 38 _ HRB.out HFZ.out rfl (by simp[Value.oneCell']) ?_)
     |fail)
    all_goals exact bodyPost_ret (v:=.tuple #[.int .i64 9,.agg #[.int .u32 0,.int .i64 0,.int .u32 0,.int .u32 0]]) (results_fr rfl _ _ (w.heap.size+2) _ _ rfl rfl (setRow_heap _ _ _ _ _ _ HRB.out) HFZ.out) rfl ⟨by rw[HF.out],HFN.out⟩
   obtain⟨m,rfl⟩:∃ m:Nat,N=m:=⟨N.toNat,by omega⟩
   have HF:Hid (duV (duR D U k nT ks 4 tk now m)=.tuple #[.int .i64 9,.agg #[.int .u32 0,.int .i64 3,.int .u32 m,.int .u32 0]]):=by show _=_;rw[duR_4,if_neg hlo,if_neg hhi,if_neg hne];rfl
   have hwr:IntKind.u32.wrap (m:Int)=m:=wr32 (by omega);clear hlo hhi;have HFN:Hid (Below w.heap.size w (w0.setRow (w.heap.size+2) #[.int .u32 0,.int .i64 3,.int .u32 m,.int .u32 0])):=HB.out.trans ((Wr.setRow _ _ _).below (by omega))
   go_upto_region 26 with fail
   go_wp2_with (first
    |(refine wpList_store_row rfl 38 (.tmp 7) (.tmp 105) rfl (w.heap.size+2) #[.int .u32 0,.int .i64 3,.int .u32 m,.int .u32 0] rfl rfl 38 _ HRB.out HFZ.out rfl (by simp[Value.oneCell']) ?_)
    |fail)
   all_goals exact bodyPost_ret (v:=.tuple #[.int .i64 9,.agg #[.int .u32 0,.int .i64 3,.int .u32 m,.int .u32 0]]) (results_fr rfl _ _ (w.heap.size+2) _ _ rfl rfl (setRow_heap _ _ _ _ _ _ HRB.out) HFZ.out) rfl ⟨by rw[HF.out],HFN.out⟩
 have hser:(decide (0≤N)=true∧decide (N<256)=true)∨(decide (0≤N)=true∧decide (N<256)=false)∨decide (0≤N)=false:=by
  cases decide (0≤N)<;>cases decide (N<256)<;>simp
 rcases hser with⟨hn0',hn1'⟩|⟨hn0',hn1'⟩|hn0'
 all_goals
  have HF:Hid (duV (duR D U k nT ks kind tk now N)=.tuple #[.int .i64 9,.agg #[.int .u32 0,.int .i64 0,.int .u32 0,.int .u32 0]]):=by show _=_;unfold duR;simp[hk1,hk2,hk3,hk4,duV]
  have HFN:Hid (Below w.heap.size w (w0.setRow (w.heap.size+2) #[.int .u32 0,.int .i64 0,.int .u32 0,.int .u32 0])):=HB.out.trans ((Wr.setRow _ _ _).below (by omega))
  go_upto_region 27 with fail
  go_wp2_with (first
   |(refine wpList_store_row rfl 38 (.tmp 7) (.tmp 106) rfl (w.heap.size+2) #[.int .u32 0,.int .i64 0,.int .u32 0,.int .u32 0] rfl rfl 38 _ HRB.out HFZ.out rfl (by simp[Value.oneCell']) ?_)
   |fail)
  all_goals exact bodyPost_ret (v:=.tuple #[.int .i64 9,.agg #[.int .u32 0,.int .i64 0,.int .u32 0,.int .u32 0]]) (results_fr rfl _ _ (w.heap.size+2) _ _ rfl rfl (setRow_heap _ _ _ _ _ _ HRB.out) HFZ.out) rfl ⟨by rw[HF.out],HFN.out⟩
end Go.Proofs.YtncomnkdlpoelaaGreatDoor
