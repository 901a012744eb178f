import Derived.Test.YtapejbpgdjbjjaaGreatDoorMICd
import Derived.Test.YtapejbpgdjbjjaaGreatDoorMVal
import Derived.Test.YtapejbpgdjbjjaaGreatDoorMU8i
import Derived.Test.YtapejbpgdjbjjaaGreatDoorMFe3
import Derived.Test.YtapejbpgdjbjjaaGreatDoorMSLst
import Derived.Test.YtapejbpgdjbjjaaGreatDoorMOwnK
namespace Go.Proofs.YtapejbpgdjbjjaaGreatDoor
open Go.ChangeShapes Go.WideShapes Go.ChangeAt Go.RowKit
set_option linter.unusedVariables false
theorem word_bit (ns:List Int) (hw:Wrd ns) (i:Nat):ns.getD (i/64) 0/2^(i%64)%2=val 18446744073709551616 ns/2^i%2:=by
 have hd:=val_digit (B:=18446744073709551616) (by decide) hw (i/64)
 rw[←hd]
 generalize val 18446744073709551616 ns=V
 have e1:(18446744073709551616:Int)^(i/64)=2^(64*(i/64)):=by rw[Int.pow_mul];rfl
 have e2:(2:Int)^i=2^(64*(i/64))*2^(i%64):=by rw[←Int.pow_add];congr 1;omega
 have hp:(0:Int)≤2^(64*(i/64)):=Int.le_of_lt (Int.pow_pos (by decide))
 rw[e1,e2,←Int.ediv_ediv_of_nonneg hp]
 generalize V/2^(64*(i/64))=U
 have e3:(18446744073709551616:Int)=2^(i%64)*2^(64-i%64):=by
  rw[←Int.pow_add,show i%64+(64-i%64)=64 by omega];rfl
 have h1:0<64-i%64:=by omega
 rw[e3]
 have hq:(0:Int)<2^(i%64):=Int.pow_pos (by decide)
 rw[Int.emod_def U,Int.mul_assoc,Int.sub_eq_add_neg,←Int.mul_neg,Int.add_mul_ediv_left _ _ (by omega)]
 obtain⟨m,hm⟩:∃ m,64-i%64=m+1:=⟨63-i%64,by omega⟩
 rw[hm,Int.pow_succ]
 generalize U/2^(i%64)=A
 generalize U/(2^(i%64)*(2^m*2))=B
 rw[show -(2^m*2*B)=2*(-(2^m*B)) by grind,Int.add_mul_emod_self_left]
set_option maxHeartbeats 1000000 in
theorem bit_any (g:Nat) (ns:List Int) (i:Nat) (w:World) (hl:ns.length=4) (hi:i<256) (hr:RowW w g 57 ns) (hw:Wrd ns) :
  Calls Tryz.prog 67 #[.pointer (some ⟨g,0,none⟩),.int .i64 i] w fun e w'=>e=.returned (.int .u64 (val 18446744073709551616 ns/2^i%2))∧w'=w:=by
 have c3:=hr.cell (i/64) (by omega)
 obtain⟨h0,h1⟩:=hw.get (i/64)
 have HB:Hid (ns.getD (i/64) 0/2^(i%64)%2=val 18446744073709551616 ns/2^i%2):=word_bit ns hw i
 have hp:(0:Int)<2^(i%64):=Int.pow_pos (by decide)
 have HA:Hid (bits .and .u64 (ns.getD (i/64) 0/2^(i%64)) 1=ns.getD (i/64) 0/2^(i%64)%2):=by
  have q0:0≤ns.getD (i/64) 0/2^(i%64):=Int.ediv_nonneg h0 (by omega);have q1:ns.getD (i/64) 0/2^(i%64)≤ns.getD (i/64) 0:=Int.ediv_le_self _ h0;exact u64_and_mask _ 1 q0 (by omega) 1 (by decide) (by decide)
 have hlt:(i:Int)/64<4:=by omega
 have hi':(i:Int)<256:=by omega
 clear hr hw hl hp
 generalize ns.getD (i/64) 0=x at *
 go_enter Tryz.func67,Tryz.ntmps67
 go_wp2
 rw[HA.out,HB.out]
 go_ret
 exact⟨rfl,rfl⟩
theorem AddP.q4 {w:World} {g:Nat} {X1 Y1 Z1 T1 X2 Y2 Z2 T2:Int} {e:Ending} {w':World} (h:AddP w g X1 Y1 Z1 T1 X2 Y2 Z2 T2 e w') :
  ∃ x y z t,Pt w' g x y z t∧WrH g w w'∧e=.returned (.tuple #[])∧((ev x,ev y,ev z,ev t):Q4)=F4 (X1,Y1,Z1,T1) (X2,Y2,Z2,T2):=by
 obtain⟨x,y,z,t,h1,h2,h3,h4,h5,h6,h7⟩:=h
 exact⟨x,y,z,t,h1,h2,h3,by rw[h4,h5,h6,h7];rfl⟩
theorem Pt.wrh2 {w w':World} {g V:Nat} {x y z t:List Int} (h:Pt w g x y z t) (hw:WrH V w w') (hne:g≠V):Pt w' g x y z t:=⟨hw.rowW h.row hne,h.x,h.y,h.z,h.t⟩
def MulP (w:World) (g:Nat) (Q:Q4) (e:Ending) (w':World):Prop:=
 ∃ x y z t,Pt w' g x y z t∧WrH g w w'∧e=.returned (.tuple #[])∧((ev x,ev y,ev z,ev t):Q4)=Q
structure MuS (w:World) (g:Nat) (x y z t ns:List Int) (Q:Q4) (wr:World):Prop where
 below:Below w.heap.size w wr
 num:RowW wr w.heap.size 57 ns
 pt:Pt wr g x y z t
 lt:g<w.heap.size
 sum:∃ a b c d,Pt wr (w.heap.size+1+1) a b c d∧((ev a,ev b,ev c,ev d):Q4)=Q
theorem ev_id:((ev [0,0,0,0,0],ev [1,0,0,0,0],ev [1,0,0,0,0],ev [0,0,0,0,0]):Q4)=idQ:=by decide
theorem heap_third (w:World) (o1 o2 o3:Obj):(((w.alloc o1).alloc o2).alloc o3).heap[w.heap.size+1+1]?=some o3:=by
 have:=heap_alloc_new ((w.alloc o1).alloc o2) o3
 rwa [show((w.alloc o1).alloc o2).heap.size=w.heap.size+1+1 by simp] at this
def z20:List Int:=[0,0,0,0,0,0,0,0,0,0,0,0,0,0,0,0,0,0,0,0]
theorem one_ok2:EOk [1,0,0,0,0]:=one_ok
theorem Tryz.sizePoint2:(Tryz.prog.info? 54).map (·.size)=some 20:=by kernel_rfl
set_option maxRecDepth 100000 in
set_option maxHeartbeats 4000000 in
theorem multiply_gen (S:Nat→Q4) (g:Nat) (x y z t ns:List Int) (w:World) (hp:Pt w g x y z t) (hl:ns.length=4) (hw:Wrd ns) (hS0:Hid (S 0=idQ))
  (hSs:Hid (∀ n,S (n+1)=bif vbit (val 18446744073709551616 ns) (255-n) then F4 (F4 (S n) (S n)) (ev x,ev y,ev z,ev t) else F4 (S n) (S n))) :
  Calls Tryz.prog 36 #[.pointer (some ⟨g,0,none⟩),.agg (ns.map (Value.int .u64)).toArray] w (MulP w g (S 256)):=by
 match ns,hl with
 |[n0,n1,n2,n3],_=>
 have HB:Hid (Below w.heap.size w (((w.alloc (.cells #[.int .u64 n0,.int .u64 n1,.int .u64 n2,.int .u64 n3] 57)).alloc (.cells #[.int .u64 1,.int .u64 0,.int .u64 0,.int .u64 0,.int .u64 0] 52)).alloc (.cells #[.int .u64 0,.int .u64 0,.int .u64 0,.int .u64 0,.int .u64 0,.int .u64 0,.int .u64 0,.int .u64 0,.int .u64 0,.int .u64 0,.int .u64 0,.int .u64 0,.int .u64 0,.int .u64 0,.int .u64 0,.int .u64 0,.int .u64 0,.int .u64 0,.int .u64 0,.int .u64 0] 54))):=(((Below.refl _ _).alloc (Nat.le_refl _) _).alloc (by simp) _).alloc (by simp;omega) _
 have HNR:Hid (RowW (((w.alloc (.cells #[.int .u64 n0,.int .u64 n1,.int .u64 n2,.int .u64 n3] 57)).alloc (.cells #[.int .u64 1,.int .u64 0,.int .u64 0,.int .u64 0,.int .u64 0] 52)).alloc (.cells #[.int .u64 0,.int .u64 0,.int .u64 0,.int .u64 0,.int .u64 0,.int .u64 0,.int .u64 0,.int .u64 0,.int .u64 0,.int .u64 0,.int .u64 0,.int .u64 0,.int .u64 0,.int .u64 0,.int .u64 0,.int .u64 0,.int .u64 0,.int .u64 0,.int .u64 0,.int .u64 0] 54)) w.heap.size 57 [n0,n1,n2,n3]):=by
  show _=_
  rw[Below.heap_alloc _ _ w.heap.size (by simp;omega),Below.heap_alloc _ _ w.heap.size (by simp)];exact heap_alloc_new w _
 have HZR:Hid (RowW (((w.alloc (.cells #[.int .u64 n0,.int .u64 n1,.int .u64 n2,.int .u64 n3] 57)).alloc (.cells #[.int .u64 1,.int .u64 0,.int .u64 0,.int .u64 0,.int .u64 0] 52)).alloc (.cells #[.int .u64 0,.int .u64 0,.int .u64 0,.int .u64 0,.int .u64 0,.int .u64 0,.int .u64 0,.int .u64 0,.int .u64 0,.int .u64 0,.int .u64 0,.int .u64 0,.int .u64 0,.int .u64 0,.int .u64 0,.int .u64 0,.int .u64 0,.int .u64 0,.int .u64 0,.int .u64 0] 54)) (w.heap.size+1+1) 54 z20):=heap_third w _ _ _
 have HER:Hid (EAt ((w.alloc (.cells #[.int .u64 n0,.int .u64 n1,.int .u64 n2,.int .u64 n3] 57)).alloc (.cells #[.int .u64 1,.int .u64 0,.int .u64 0,.int .u64 0,.int .u64 0] 52)) (w.heap.size+1) 0 [1,0,0,0,0]):=by
  have r:RowW ((w.alloc (.cells #[.int .u64 n0,.int .u64 n1,.int .u64 n2,.int .u64 n3] 57)).alloc (.cells #[.int .u64 1,.int .u64 0,.int .u64 0,.int .u64 0,.int .u64 0] 52)) (w.heap.size+1) 52 [1,0,0,0,0]:=by
   have:=heap_alloc_new (w.alloc (.cells #[.int .u64 n0,.int .u64 n1,.int .u64 n2,.int .u64 n3] 57)) (.cells #[.int .u64 1,.int .u64 0,.int .u64 0,.int .u64 0,.int .u64 0] 52)
   rwa [show(w.alloc (.cells #[.int .u64 n0,.int .u64 n1,.int .u64 n2,.int .u64 n3] 57)).heap.size=w.heap.size+1 by simp] at this
  exact EAt.of_row r one_ok2
 have HPT:Hid (Pt w g x y z t):=hp
 have HWD:Hid (Wrd [n0,n1,n2,n3]):=hw
 clear hp hw
 simp only[List.map_cons,List.map_nil]
 go_enter Tryz.func36,Tryz.ntmps36
 go_wp2_with (first
  |(refine wpList_loadE rfl (.tmp 4) rfl (w.heap.size+1) 0 [1,0,0,0,0] rfl HER.out ?_)
  |(refine wpList_storeP rfl (.tmp 5) (.tmp 10) rfl (w.heap.size+1+1) [0,0,0,0,0] [1,0,0,0,0] [1,0,0,0,0] [0,0,0,0,0] z20 rfl rfl zero_ok one_ok2 one_ok2 zero_ok rfl HZR.out ?_)
  |fail)
 intro w0 hp0 hw0
 have HS:Hid (MuS w g x y z t [n0,n1,n2,n3] (S 0) w0):=by
  have b0:Below w.heap.size w w0:=HB.out.trans (hw0.below (by omega));exact⟨b0,hw0.rowW HNR.out (by omega),HPT.out.below b0 HPT.out.row.lt,HPT.out.row.lt,[0,0,0,0,0],[1,0,0,0,0],[1,0,0,0,0],[0,0,0,0,0],hp0,by rw[hS0.out];exact ev_id⟩
 clear hp0 hw0 HB HNR HZR HER
 go_wp2_with fail
 go_loopw [6] (fun i wr=>∃ j:Nat,j≤256∧i=.int .i64 ((j:Int)-1)∧MuS w g x y z t [n0,n1,n2,n3] (S (256-j)) wr) (fun i _=>(intOf i+1).toNat)
 case atStart=>exact⟨256,Nat.le_refl _,by go_num,by rw[Nat.sub_self];exact HS.out⟩
 case round=>
  clear HS;obtain⟨j,hj,rfl,hst⟩:=hrel;by_cases hj0:0<j
  ·obtain⟨i,rfl⟩:∃ i,j=i+1:=⟨j-1,by omega⟩
   have ei:((i+1:Nat):Int)-1=(i:Int):=by omega
   rw[ei];clear ei;obtain⟨hbel,hnum,hpt,hlt,a,b,c,d,hsum,hq⟩:=hst;have HST:Hid (Below w.heap.size w wr∧RowW wr w.heap.size 57 [n0,n1,n2,n3]∧Pt wr g x y z t∧g<w.heap.size∧Pt wr (w.heap.size+1+1) a b c d∧((ev a,ev b,ev c,ev d):Q4)=S (256-(i+1))):=⟨hbel,hnum,hpt,hlt,hsum,hq⟩
   clear hbel hnum hpt hlt hsum hq;go_wp2_with fail;refine(add_any (w.heap.size+1+1) (w.heap.size+1+1) a b c d a b c d _ HST.out.2.2.2.2.1 HST.out.2.2.2.2.1).mono ?_;intro e w2 h2;obtain⟨a2,b2,c2,d2,p2,hw2,rfl,q2⟩:=h2.q4;obtain⟨s1,s2,s3,s4,s5,s6⟩:=HST.out;have HST2:Hid (Below w.heap.size w w2∧RowW w2 w.heap.size 57 [n0,n1,n2,n3]∧Pt w2 g x y z t∧g<w.heap.size∧Pt w2 (w.heap.size+1+1) a2 b2 c2 d2∧((ev a2,ev b2,ev c2,ev d2):Q4)=F4 (S (256-(i+1))) (S (256-(i+1)))):=
    ⟨s1.trans (hw2.below w.heap.size (by omega) s1.size),hw2.rowW s2 (by omega),s3.wrh2 hw2 (by omega),s4,p2,by rw[q2,s6]⟩
   clear h2 p2 hw2 q2 s1 s2 s3 s4 s5 s6 HST;go_wp2_with fail;refine(bit_any w.heap.size [n0,n1,n2,n3] i _ rfl (by omega) HST2.out.2.1 HWD.out).mono ?_;rintro e w3 ⟨rfl,rfl⟩;have hv:val 18446744073709551616 [n0,n1,n2,n3]/2^i%2=0∨val 18446744073709551616 [n0,n1,n2,n3]/2^i%2=1:=by omega
   have en:256-i=256-(i+1)+1:=by omega
   have en2:255-(256-(i+1))=i:=by omega
   rcases hv with hv|hv
   ·have hvb:vbit (val 18446744073709551616 [n0,n1,n2,n3]) i=false:=by unfold vbit;rw[hv];rfl
    have HN:Hid (MuS w g x y z t [n0,n1,n2,n3] (S (256-i)) w3):=by
     obtain⟨s1,s2,s3,s4,s5,s6⟩:=HST2.out;refine⟨s1,s2,s3,s4,a2,b2,c2,d2,s5,?_⟩;rw[s6,en,hSs.out,en2,hvb];rfl
    rw[hv];clear hv HST2 en en2 hvb;go_wp2;go_roundw
    case rel=>exact⟨i,by omega,by go_num,HN.out⟩
    case measure=>simp[intOf]
   ·have hvb:vbit (val 18446744073709551616 [n0,n1,n2,n3]) i=true:=by unfold vbit;rw[hv];rfl
    rw[hv];clear hv;go_wp2_with fail;refine(add_any (w.heap.size+1+1) g a2 b2 c2 d2 x y z t _ HST2.out.2.2.2.2.1 HST2.out.2.2.1).mono ?_;intro e w4 h4;obtain⟨a4,b4,c4,d4,p4,hw4,rfl,q4⟩:=h4.q4;have HN:Hid (MuS w g x y z t [n0,n1,n2,n3] (S (256-i)) w4):=by
     obtain⟨s1,s2,s3,s4,s5,s6⟩:=HST2.out;refine⟨s1.trans (hw4.below w.heap.size (by omega) s1.size),hw4.rowW s2 (by omega),s3.wrh2 hw4 (by omega),s4,a4,b4,c4,d4,p4,?_⟩;rw[q4,s6,en,hSs.out,en2,hvb];rfl
    clear HST2 en en2 hvb h4 p4 hw4 q4;go_wp2;go_roundw
    case rel=>exact⟨i,by omega,by go_num,HN.out⟩
    case measure=>simp[intOf]
  ·have hj00:j=0:=by omega
   subst hj00;obtain⟨hbel,hnum,hpt,hlt,a,b,c,d,hsum,hq⟩:=hst;rw[Nat.sub_zero] at hq;have HL:Hid (wr.heap[w.heap.size+1+1]?=some (.cells ((pl a b c d).map (Value.int .u64)).toArray 54 (0,0))):=hsum.row;have HPX:Hid ((pl x y z t).length=20):=by show _=_;unfold pl;simp[HPT.out.x.1,HPT.out.y.1,HPT.out.z.1,HPT.out.t.1]
   have HSZ:Hid ((Tryz.prog.info? 54).map (·.size)=some ((pl a b c d).map (Value.int .u64)).toArray.size):=by
    show _=_
    rw[Tryz.sizePoint2];unfold pl;simp[hsum.x.1,hsum.y.1,hsum.z.1,hsum.t.1]
   have HOK:Hid (EOk a∧EOk b∧EOk c∧EOk d):=⟨hsum.x,hsum.y,hsum.z,hsum.t⟩
   have HPR:Hid (RowW wr g 54 (pl x y z t)):=hpt.row;have HFF:Hid (Below w.heap.size w wr∧((ev a,ev b,ev c,ev d):Q4)=S 256):=⟨hbel,hq⟩
   clear hbel hnum hpt hsum hq;go_wp2_with (first
    |(refine wpList_load_row rfl 54 (.tmp 5) rfl (w.heap.size+1+1) rfl 54 _ (0,0) _ HL.out Tryz.underlying54 rfl HSZ.out ?_)
    |(refine wpList_storeP rfl (.tmp 23) (.tmp 22) rfl g a b c d _ rfl rfl HOK.out.1 HOK.out.2.1 HOK.out.2.2.1 HOK.out.2.2.2 HPX.out HPR.out ?_)
    |fail)
   intro w5 hp5 hw5;have HF:Hid (MulP w g (S 256) (.returned (.tuple #[])) w5):=
    ⟨a,b,c,d,hp5,(WrH.of_below HFF.out.1).trans hw5.wrH,rfl,HFF.out.2⟩
   clear hp5 hw5 HFF HPR HOK HSZ HPX HL;go_wp2
   go_end0
   exact HF.out
theorem multiply_any (g:Nat) (x y z t ns:List Int) (w:World) (hp:Pt w g x y z t) (hl:ns.length=4) (hw:Wrd ns) :
  Calls Tryz.prog 36 #[.pointer (some ⟨g,0,none⟩),.agg (ns.map (Value.int .u64)).toArray] w (MulP w g (pS (val 18446744073709551616 ns) (ev x,ev y,ev z,ev t) 256)):=
 multiply_gen (pS (val 18446744073709551616 ns) (ev x,ev y,ev z,ev t)) g x y z t ns w hp hl hw rfl (fun _=>rfl)
end Go.Proofs.YtapejbpgdjbjjaaGreatDoor
namespace Go.Proofs.YtapejbpgdjbjjaaGreatDoor
open Go.ChangeShapes Go.WideShapes Go.ChangeAt Go.RowKit
set_option linter.unusedVariables false
def ResO (B:Nat) (w:World) (v:Value) (zs:List Int):Prop:=
 ∃ a c,v=.slice a zs.length c∧At .u8 w a zs∧Open w a zs.length∧∀ ad,a=some ad→B≤ad.block
theorem World.frozen?_of_block2 {w w':World} {g i:Nat} (h:w'.heap[g]?=w.heap[g]?):w'.frozen? ⟨g,i,none⟩=w.frozen? ⟨g,i,none⟩:=by
 simp only[World.frozen?,h]
theorem Open.below2 {w w':World} {a:Option Addr} {n:Nat} (h:Open w a n) (hb:Below w.heap.size w w'):Open w' a n:=by
 rcases h with h|⟨g,o,h1,h2,h3⟩
 ·exact .inl h
 ·refine .inr ⟨g,o,h1,by have:=hb.size;omega,fun i hi=>?_⟩;rw[hb.cell (p:=⟨g,o+i,none⟩) h2,World.frozen?_of_block2 (w:=w) (hb.block g h2)];exact h3 i hi
theorem Own.at2 {w:World} {B:Nat} {v:Value} {zs:List Int} (h:Own w B v zs):∃ g c,v=.slice (some ⟨g,0,none⟩) zs.length c∧B≤g∧g<w.heap.size∧At .u8 w (some ⟨g,0,none⟩) zs:=by
 obtain⟨g,c,rfl,hb,hg,hc⟩:=h.base
 exact⟨g,c,rfl,hb,hg,.inr ⟨g,0,rfl,hg,fun i hi=>by rw[Nat.zero_add,h.1.cellAt i (by omega)];simp[hi]⟩⟩
theorem own_res {w:World} {B:Nat} {v:Value} {zs:List Int} (h:Own w B v zs):ResO B w v zs:=by
 obtain⟨g,c,rfl,hB,hg,hA⟩:=h.at2
 exact⟨_,c,rfl,hA,.inr ⟨g,0,rfl,hg,fun i hi=>by rw[Nat.zero_add];exact⟨by rw[h.1.cellAt i (by omega)];simp[hi],h.1.frozenAt i⟩⟩,fun ad e=>by cases e;exact hB⟩
end Go.Proofs.YtapejbpgdjbjjaaGreatDoor
namespace Go.Proofs.YtapejbpgdjbjjaaGreatDoor
open Go.ChangeShapes Go.WideShapes Go.ChangeAt Go.RowKit
set_option linter.unusedVariables false
def baseY:Int:=46316835694926478169428394003475163141307993866256225615783033603165251855960
theorem base_evalN:4*pwN 5 11 5 254 255%fpN=46316835694926478169428394003475163141307993866256225615783033603165251855960:=by decide +kernel
theorem base_eval:(4%fp)*pwF (5%fp) 11 5 254 255%fp=baseY:=by
 have e:(5%fp:Int)=((5:Nat):Int):=by decide
 have e4:(4%fp:Int)=((4:Nat):Int):=by decide
 rw[e,e4,pwF_N,fp_fpN,←Int.natCast_mul,←Int.natCast_emod,base_evalN];rfl
theorem pair_valb (bs:List Int) (d:Int) (k:Nat) (h:bs.length=2*k):val 256 (bs++[d%256,d/256])=val 256 bs+d*65536^k:=by
 rw[val_append,h]
 have e:(256:Int)^(2*k)=65536^k:=by rw[Int.pow_mul,show(256:Int)^2=65536 from by decide]
 rw[e]
 simp only[val]
 have:d%256+256*(d/256)=d:=Int.emod_add_mul_ediv _ _
 have e2:d%256+256*(d/256+256*0)=d:=by omega
 rw[e2,Int.mul_comm]
structure BYSb (w w5:World) (zs:List Int) (k:Nat) (v:Value) (wr:World):Prop where
 st:∃ bs:List Int,Own wr w5.heap.size v bs∧bs.length=2*k∧Byte bs∧val 256 bs=val 65536 (zs.take k)
 below:Below w5.heap.size w5 wr
def CodePb (w:World) (x:Int) (e:Ending) (w':World):Prop:=
 ∃ v bs,e=.returned v∧Own w' w.heap.size v bs∧Byte bs∧bs.length=32∧val 256 bs=x∧Below w.heap.size w w'
theorem Own.lower3b {w:World} {B B':Nat} {v:Value} {zs:List Int} (h:Own w B' v zs) (hB:B≤B'):Own w B v zs:=by
 obtain⟨⟨h1,h2⟩,h3⟩:=h
 refine⟨⟨h1,?_⟩,h3⟩
 rcases h2 with h|⟨g,c,cur,h4,h5,h6⟩
 ·exact .inl h
 ·exact .inr ⟨g,c,cur,h4,by omega,h6⟩
set_option maxHeartbeats 1000000 in
theorem sbas_any (w:World):Calls Tryz.prog 30 #[] w (CodePb w baseY):=by
 go_enter Tryz.func30,Tryz.ntmps30
 go_wp2_with fail
 refine(small_any 4 _ (by decide) (by decide)).mono ?_
 rintro e w1 ⟨g1,c1,rfl,hg1,hg1',hf1,hb1⟩
 have HF1:Hid (FeA w1 (some ⟨g1,0,none⟩) (4%fp)):=hf1
 clear hf1
 go_wp2_with fail
 refine(small_any 5 _ (by decide) (by decide)).mono ?_
 rintro e w2 ⟨g2,c2,rfl,hg2,hg2',hf2,hb2⟩
 have HF2:Hid (FeA w2 (some ⟨g2,0,none⟩) (5%fp)):=hf2
 clear hf2
 go_wp2_with fail
 refine(pow0_any _ c2 (5%fp) _ HF2.out).mono ?_
 rintro e w3 ⟨g3,c3,rfl,hg3,hg3',hf3,hb3⟩
 have HF3:Hid (FeA w3 (some ⟨g3,0,none⟩) (pwF (5%fp) 11 5 254 255)):=hf3
 have HF13:Hid (FeA w3 (some ⟨g1,0,none⟩) (4%fp)):=(HF1.out.below hb2).below hb3
 clear hf3 HF1 HF2
 go_wp2_with fail
 refine(fmul_any _ _ c1 c3 (4%fp) (pwF (5%fp) 11 5 254 255) _ HF13.out HF3.out).mono ?_
 rintro e w4 ⟨g4,c4,rfl,hg4,hg4',hf4,hb4⟩
 rw[base_eval] at hf4
 have HF4:Hid (FeA w4 (some ⟨g4,0,none⟩) baseY):=hf4
 clear hf4 HF3 HF13
 go_wp2_with fail
 refine(least_any _ c4 baseY _ HF4.out).mono ?_
 rintro e w5 ⟨gy,cyy,rfl,hgy,hgy',⟨zs,hzA,hzl,hzd,hzv⟩,hb5⟩
 have HB5:Hid (Below w.heap.size w w5):=hb1.trans ((hb2.trans ((hb3.trans ((hb4.trans (hb5.mono hb4.size)).mono hb3.size)).mono hb2.size)).mono hb1.size)
 have HYC:Hid (∀ i,i<16→w5.cell? ⟨gy,i,none⟩=some (.int .i64 (zs.getD i 0))):=fun i hi=>by
  obtain⟨_,_,e,_,hc⟩:=hzA.get (by omega);cases e;have:=hc i (by omega)
  rwa [Nat.zero_add] at this
 have HZL:Hid (zs.length=16):=hzl
 have HZD:Hid (∀ i,0≤zs.getD i 0∧zs.getD i 0<65536):=hzd
 have HZV:Hid (val 65536 zs=baseY):=hzv
 have HS:Hid (BYSb w w5 zs 0 (.slice (some ⟨w5.heap.size,0,none⟩) 0 0) (w5.alloc (.cells #[] 5))):=⟨⟨[],Own.empty _ _ (Nat.le_refl _),rfl,by simp[Byte],by simp[val]⟩,below_new3 _ _⟩
 clear HF4 hb1 hb2 hb3 hb4 hb5 hzA hzl hzd hzv
 go_wp2
 go_loopw [2,3] (fun v i wr=>∃ k:Nat,k≤16∧i=.int .i64 k∧BYSb w w5 zs k v wr) (fun _ i _=>16-(intOf i).toNat)
 case atStart=>exact⟨0,by decide,rfl,HS.out⟩
 case round=>
  clear HS;obtain⟨k,hk,rfl,⟨bs,hO,hbl,hbb,hbv⟩,hbel⟩:=hrel;by_cases hlt:k<16
  ·have hlt':(k:Int)<16:=by omega
   have hd:=HZD.out k;have vt:=val_take 65536 zs k (by have:=HZL.out;omega);have c0:wr.cell? ⟨gy,k,none⟩=some (.int .i64 (zs.getD k 0)):=by
    rw[hbel.cell (p:=⟨gy,k,none⟩) hgy'];exact HYC.out k hlt
   generalize hdd:zs.getD k 0=d at *;clear hdd;have HGN:Hid (¬ some gy=u2.ownBlock):=by
    obtain⟨g,c,rfl,hg,_,_⟩:=hO.base;intro h;simp[Value.ownBlock] at h;omega
   have HBL:Hid (bs.length≤32):=by show _≤_;omega
   have HN:Hid (val 256 (bs++[d%256,d/256])=val 65536 (zs.take (k+1))∧(bs++[d%256,d/256]).length=2*(k+1)∧Byte (bs++[d%256,d/256])):=by
    refine⟨by rw[pair_valb bs d k hbl,hbv,vt],by simp[hbl];omega,?_⟩;intro z hz;simp at hz;rcases hz with h|h|h
    ·exact hbb z h
    ·omega
    ·omega
   have HO:Hid (Own wr w5.heap.size u2 bs):=hO;have HBE:Hid (Below w5.heap.size w5 wr):=hbel;have hwr:=hbel.size;obtain⟨hd0,hd1⟩:=hd;clear hO hbel vt hbv hbb hbl HYC HZV HZD;go_wp2_with fail;have hm1:d.tmod 256=d%256:=Int.tmod_eq_emod_of_nonneg hd0;have hm2:d.tdiv 256=d/256:=Int.tdiv_eq_ediv_of_nonneg hd0;have hm3:IntKind.u8.wrap (d/256)=d/256:=by rw[IntKind.wrap_u8];omega
   have hm4:IntKind.u8.wrap (d%256)=d%256:=by rw[IntKind.wrap_u8];omega
   have hm5:IntKind.i64.wrap (d/256)=d/256:=by rw[IntKind.wrap_i64];omega
   refine wp_region_any (by kernel_rfl) ?_;refine wpAny_slotsK 15 (fun i w w'=>i≠14→Below w.heap.size w w') (frame:=(fun (a b c d e f g h i j k l m n o:Value)=>fun (t:Nat→Value)=>({ tmps:=List.toArray [a,b,c,d,e,f,g,h,i,j,k,l,m,n,t 0,t 1,t 2,t 3,t 4,t 5,t 6,t 7,t 8,t 9,t 10,t 11,t 12,t 13,t 14,o],defers:=[] }:Act)) _ _ _ _ _ _ _ _ _ _ _ _ _ _ _)
    (Ext:=fun L w'=>(L 14=false→Below wr.heap.size wr w')∧Below w5.heap.size w5 w'∧(∀ i,i<16→w'.cell? ⟨gy,i,none⟩=wr.cell? ⟨gy,i,none⟩)∧wr.heap.size≤w'.heap.size)
    (Good:=GBy w5.heap.size u2 gy cyy k d bs) (by rfl) (by kernel_rfl) (GBy_stab _ _ _ _ _ _ _) (by kernel_rfl) (by kernel_rfl) ?hop ?hend _ _ ((fun (x0 x1 x2 x3 x4 x5 x6 x7 x8 x9 x10 x11 x12 x13 x14:Value)=>fun (i:Nat)=>if i=0 then x0 else if i=1 then x1 else if i=2 then x2 else if i=3 then x3 else if i=4 then x4 else if i=5 then x5 else if i=6 then x6 else if i=7 then x7 else if i=8 then x8 else if i=9 then x9 else if i=10 then x10 else if i=11 then x11 else if i=12 then x12 else if i=13 then x13 else if i=14 then x14 else undef) _ _ _ _ _ _ _ _ _ _ _ _ _ _ _) _ (by simp) (by simp) ?ext ?start (by simp)
   case start=>intro i hi h;exact absurd h (by rw[Array.getD_eq_getD_getElem?,Array.getElem?_replicate];split<;>simp)
   case ext=>exact⟨fun _=>(Below.refl _ _).drew,⟨HBE.out.os,HBE.out.tape,HBE.out.output,HBE.out.size,HBE.out.block⟩,fun _ _=>rfl,Nat.le_refl _⟩
   case hop=>
    intro i o L t w' hil ho hLi hx hdep K hK;obtain⟨hx14,hxB,hxY,hxS⟩:=hx;have cY:w'.cell? ⟨gy,k,none⟩=some (.int .i64 d):=by rw[hxY k (by omega)];exact c0
    have RX:Hid (∀ j,j≠14→∀ ww,Below w'.heap.size w' ww→((updK L j 14=false→Below wr.heap.size wr ww)∧Below w5.heap.size w5 ww∧(∀ i,i<16→ww.cell? ⟨gy,i,none⟩=wr.cell? ⟨gy,i,none⟩)∧wr.heap.size≤ww.heap.size)):=fun j hj ww hb=>
     ⟨fun hL=>(hx14 (by simpa[updK,Ne.symm hj] using hL)).trans (hb.mono hxS),hxB.trans (hb.mono hxB.size),fun i hi=>by rw[hb.cell (p:=⟨gy,i,none⟩) (by show gy<w'.heap.size;omega)];exact hxY i hi,by have:=hb.size;omega⟩
    have RR:Hid (∀ j,j≠14→((updK L j 14=false→Below wr.heap.size wr w')∧Below w5.heap.size w5 w'∧(∀ i,i<16→w'.cell? ⟨gy,i,none⟩=wr.cell? ⟨gy,i,none⟩)∧wr.heap.size≤w'.heap.size)):=fun j hj=>RX.out j hj w' (Below.refl _ _)
    have RM:Hid (∀ j:Nat,j≠14→Below w'.heap.size w' w'):=fun _ _=>Below.refl _ _
    have H14:Hid (L 14=false→Below wr.heap.size wr w'):=hx14;have HXB:Hid (Below w5.heap.size w5 w'):=hxB;have HXY:Hid (∀ i,i<16→w'.cell? ⟨gy,i,none⟩=wr.cell? ⟨gy,i,none⟩):=hxY;clear hx14 hxB hxY;obtain rfl|rfl|rfl|rfl|rfl|rfl|rfl|rfl|rfl|rfl|rfl|rfl|rfl|rfl|rfl:i=0∨i=1∨i=2∨i=3∨i=4∨i=5∨i=6∨i=7∨i=8∨i=9∨i=10∨i=11∨i=12∨i=13∨i=14:=by omega
    all_goals(simp at ho;subst ho)
    ·clear hdep;go_simp;exact hK w' u2 rfl (RR.out 0 (by decide)) (RM.out 0)
    ·clear hdep;go_simp;exact hK w' (.slice (some ⟨gy,0,none⟩) 16 cyy) rfl (RR.out 1 (by decide)) (RM.out 1)
    ·clear hdep;go_simp;exact hK w' (.int .i64 k) rfl (RR.out 2 (by decide)) (RM.out 2)
    ·have d1:t 1=_:=hdep ⟨1,.data⟩ (by simp) rfl;have d2:t 2=_:=hdep ⟨2,.data⟩ (by simp) rfl;clear hdep;go_simp;simpa[upd,d1,d2] using hK w' (.pointer (some ⟨gy,k,none⟩)) rfl (RR.out 3 (by decide)) (RM.out 3)
    ·have d3:t 3=_:=hdep ⟨3,.data⟩ (by simp) rfl;clear hdep;go_simp;simpa[upd,d3] using hK w' (.int .i64 d) rfl (RR.out 4 (by decide)) (RM.out 4)
    ·have d4:t 4=_:=hdep ⟨4,.data⟩ (by simp) rfl;clear hdep;go_simp;simpa[upd,d4,hm1,hm2,hm3,hm4,hm5] using hK w' (.int .i64 (d%256)) rfl (RR.out 5 (by decide)) (RM.out 5)
    ·have d5:t 5=_:=hdep ⟨5,.data⟩ (by simp) rfl;clear hdep;go_simp;simpa[upd,d5,hm1,hm2,hm3,hm4,hm5] using hK w' (.int .u8 (d%256)) rfl (RR.out 6 (by decide)) (RM.out 6)
    ·clear hdep;go_simp;exact hK w' (.slice (some ⟨gy,0,none⟩) 16 cyy) rfl (RR.out 7 (by decide)) (RM.out 7)
    ·clear hdep;go_simp;exact hK w' (.int .i64 k) rfl (RR.out 8 (by decide)) (RM.out 8)
    ·have d7:t 7=_:=hdep ⟨7,.data⟩ (by simp) rfl;have d8:t 8=_:=hdep ⟨8,.data⟩ (by simp) rfl;clear hdep;go_simp;simpa[upd,d7,d8] using hK w' (.pointer (some ⟨gy,k,none⟩)) rfl (RR.out 9 (by decide)) (RM.out 9)
    ·have d9:t 9=_:=hdep ⟨9,.data⟩ (by simp) rfl;clear hdep;go_simp;simpa[upd,d9] using hK w' (.int .i64 d) rfl (RR.out 10 (by decide)) (RM.out 10)
    ·have d10:t 10=_:=hdep ⟨10,.data⟩ (by simp) rfl;clear hdep;go_simp;simpa[upd,d10,hm1,hm2,hm3,hm4,hm5] using hK w' (.int .i64 (d/256)) rfl (RR.out 11 (by decide)) (RM.out 11)
    ·have d11:t 11=_:=hdep ⟨11,.data⟩ (by simp) rfl;clear hdep;go_simp;simpa[upd,d11,hm1,hm2,hm3,hm4,hm5] using hK w' (.int .u8 (d/256)) rfl (RR.out 12 (by decide)) (RM.out 12)
    ·have d6:t 6=_:=hdep ⟨6,.data⟩ (by simp) rfl;have d12:t 12=_:=hdep ⟨12,.data⟩ (by simp) rfl;clear hdep;have hK':=hK (w'.alloc (.cells #[.int .u8 (d%256),.int .u8 (d/256)] 5)) (.slice (some ⟨w'.heap.size,0,none⟩) 2 2) (fun _=>⟨w'.heap.size,rfl,by simp,cell_of_row _ _ _ _ _ _ (heap_alloc_new _ _),cell_of_row _ _ _ _ _ _ (heap_alloc_new _ _)⟩) (RX.out 13 (by decide) _ (below_new3 _ _)) (fun _=>below_new3 _ _);clear hK;go_simp;simpa[upd,d6,d12] using hK'
    ·have d0:t 0=_:=hdep ⟨0,.data⟩ (by simp) rfl;have d13:=hdep ⟨13,.data⟩ (by simp) rfl;obtain⟨g',e13,hg',cc0,cc1⟩:=d13 hLi;clear hdep d13;have hO:=HO.out.grow2 (H14.out hLi);refine wp_app (a:=_) _ _ _ rfl w5.heap.size _ bs (by first|exact d0|(simp[d0];done)) hO ⟨g',0,none⟩ 2 2 [d%256,d/256] (by first|exact e13|(simp[e13];done)) rfl ?_ ?_ ?_ ?_
     ·intro j hj;rcases (show j=0∨j=1 by omega) with rfl|rfl
      ·rw[Addr.add_lit];exact cc0
      ·rw[Addr.add_lit];exact cc1
     ·have:=HBL.out;omega
     ·exact HXB.out.size
     ·intro v' w9 hown' hbel' hgr;have hs9:=hgr.size;have hyY:∀ i,i<16→w9.cell? ⟨gy,i,none⟩=wr.cell? ⟨gy,i,none⟩:=fun i hi=>by
       rw[World.cell?_of_block (a:=⟨gy,i,none⟩) (w:=w') (hgr.block gy (by omega) HGN.out)];exact HXY.out i hi
      exact hK w9 v' hown' ⟨fun h=>by simp[updK] at h,HXB.out.trans hbel',hyY,by omega⟩ (fun h=>absurd rfl h)
   case hend=>
    intro o L t w' ho hx hg K hK;simp at ho;subst ho;obtain⟨hx14,hxB,hxY,hxS⟩:=hx;have O14:Own w' w5.heap.size (t 14) (bs++[d%256,d/256]):=hg 14 (by decide);have HXB:Hid (Below w5.heap.size w5 w'):=hxB;have HXY:Hid (∀ i,i<16→w'.cell? ⟨gy,i,none⟩=wr.cell? ⟨gy,i,none⟩):=hxY;have HSZ:Hid (wr.heap.size≤w'.heap.size):=hxS;have HO14:Hid (Own w' w5.heap.size (t 14) (bs++[d%256,d/256])):=O14;clear hg O14 hx14 hxB hxY hxS;go_simp;refine hK _ _ ?_;have hHB:Below w5.heap.size w5 w':=HXB.out;have HP:Hid (BYSb w w5 zs (k+1) (t 14) w'):=⟨⟨_,HO14.out,HN.out.2.1,HN.out.2.2,HN.out.1⟩,hHB⟩
    clear hHB HXB HXY HO14 HSZ HN HO HBE HGN hK c0;generalize t 14=v14 at *;go_wp2;go_roundw
    case rel=>exact⟨k+1,by omega,by go_num,HP.out⟩
    case measure=>simp[intOf];omega
  ·have hk16:k=16:=by omega
   rw[hk16,List.take_of_length_le (by have:=HZL.out;omega),HZV.out] at hbv;have HP:Hid (CodePb w baseY (.returned u2) wr):=⟨u2,bs,rfl,hO.lower3b HB5.out.size,hbb,by omega,hbv,HB5.out.trans (hbel.mono HB5.out.size)⟩
   clear hbv hO hbb hbl hbel hk16 HZV HZD HYC;go_wp2
   go_ret
   exact HP.out
end Go.Proofs.YtapejbpgdjbjjaaGreatDoor
