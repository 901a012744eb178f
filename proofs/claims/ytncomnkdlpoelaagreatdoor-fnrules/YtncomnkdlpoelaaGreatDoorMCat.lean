import Derived.Test.YtncomnkdlpoelaaGreatDoorMBase
import Derived.Test.YtncomnkdlpoelaaGreatDoorMCatC
import Derived.Test.YtncomnkdlpoelaaGreatDoorMCatZ
import Derived.Test.YtncomnkdlpoelaaGreatDoorMMuM
import Derived.Test.YtncomnkdlpoelaaGreatDoorMCatF
import Derived.Test.YtncomnkdlpoelaaGreatDoorMSMul
import Derived.Deep.Cut
namespace Go.Proofs.YtncomnkdlpoelaaGreatDoor
open Go.ChangeShapes Go.WideShapes Go.ChangeAt Go.RowKit
set_option linter.unusedVariables false
def four (x:Int):List Int:=[x%256,x/256%256,x/65536%256,x/16777216]
set_option maxHeartbeats 400000 in
theorem four_any (x:Int) (w:World) (hx:U32 x) :
  Calls Tryz.prog 64 #[.int .u32 x] w fun e w'=>e=.returned (.slice (some ⟨w.heap.size,0,none⟩) 4 4)∧
   w'=w.alloc (.cells #[.int .u8 (x%256),.int .u8 (x/256%256),.int .u8 (x/65536%256),.int .u8 (x/16777216)] 5):=by
 obtain⟨h0,h1⟩:=hx;go_enter Tryz.func64,Tryz.ntmps64;go_wp2
 go_ret
 exact⟨rfl,rfl⟩
theorem word_bit (ns:List Int) (hw:Wrd ns) (i:Nat):ns.getD (i/64) 0/2^(i%64)%2=val 18446744073709551616 ns/2^i%2:=by
 have hd:=val_digit (B:=18446744073709551616) (by decide) hw (i/64);rw[←hd];generalize val 18446744073709551616 ns=V;have e1:(18446744073709551616:Int)^(i/64)=2^(64*(i/64)):=by rw[Int.pow_mul];rfl
 have e2:(2:Int)^i=2^(64*(i/64))*2^(i%64):=by rw[←Int.pow_add];congr 1;omega
 have hp:(0:Int)≤2^(64*(i/64)):=Int.le_of_lt (Int.pow_pos (by decide));rw[e1,e2,←Int.ediv_ediv_of_nonneg hp];generalize V/2^(64*(i/64))=U;have e3:(18446744073709551616:Int)=2^(i%64)*2^(64-i%64):=by
  rw[←Int.pow_add,show i%64+(64-i%64)=64 by omega];rfl
 have h1:0<64-i%64:=by omega
 rw[e3];have hq:(0:Int)<2^(i%64):=Int.pow_pos (by decide);rw[Int.emod_def U,Int.mul_assoc,Int.sub_eq_add_neg,←Int.mul_neg,Int.add_mul_ediv_left _ _ (by omega)];obtain⟨m,hm⟩:∃ m,64-i%64=m+1:=⟨63-i%64,by omega⟩
 rw[hm,Int.pow_succ];generalize U/2^(i%64)=A;generalize U/(2^(i%64)*(2^m*2))=B;rw[show -(2^m*2*B)=2*(-(2^m*B)) by grind,Int.add_mul_emod_self_left]
set_option maxHeartbeats 1000000 in
theorem bit_any (g:Nat) (ns:List Int) (i:Nat) (w:World) (hl:ns.length=4) (hi:i<256) (hr:RowW w g 146 ns) (hw:Wrd ns) :
  Calls Tryz.prog 121 #[.pointer (some ⟨g,0,none⟩),.int .i64 i] w fun e w'=>e=.returned (.int .u64 (val 18446744073709551616 ns/2^i%2))∧w'=w:=by
 have c3:=hr.cell (i/64) (by omega);obtain⟨h0,h1⟩:=hw.get (i/64);have HB:=hdI <| word_bit ns hw i
 have hp:(0:Int)<2^(i%64):=Int.pow_pos (by decide);have HA:Hid (bits .and .u64 (ns.getD (i/64) 0/2^(i%64)) 1=ns.getD (i/64) 0/2^(i%64)%2):=by
  have q0:0≤ns.getD (i/64) 0/2^(i%64):=Int.ediv_nonneg h0 (by omega);have q1:ns.getD (i/64) 0/2^(i%64)≤ns.getD (i/64) 0:=Int.ediv_le_self _ h0;exact u64_and_mask _ 1 q0 (by omega) 1 (by decide) (by decide)
 have hlt:(i:Int)/64<4:=by omega
 have hi':(i:Int)<256:=by omega
 clear hr hw hl hp;generalize ns.getD (i/64) 0=x at *;go_enter Tryz.func121,Tryz.ntmps121;go_wp2;rw[HA.out,HB.out]
 go_ret
 exact⟨rfl,rfl⟩
theorem AddP.q4 {w:World} {g:Nat} {X1 Y1 Z1 T1 X2 Y2 Z2 T2:Int} {e:Ending} {w':World} (h:AddP w g X1 Y1 Z1 T1 X2 Y2 Z2 T2 e w') :
  ∃ x y z t,Pt w' g x y z t∧WrH g w w'∧e=.returned (.tuple #[])∧((ev x,ev y,ev z,ev t):Q4)=F4 (X1,Y1,Z1,T1) (X2,Y2,Z2,T2):=by
 obtain⟨x,y,z,t,h1,h2,h3,h4,h5,h6,h7⟩:=h;exact⟨x,y,z,t,h1,h2,h3,by rw[h4,h5,h6,h7];rfl⟩
theorem Pt.wrh2 {w w':World} {g V:Nat} {x y z t:List Int} (h:Pt w g x y z t) (hw:WrH V w w') (hne:g≠V):Pt w' g x y z t:=⟨hw.rowW h.row hne,h.x,h.y,h.z,h.t⟩
def MulP (w:World) (g:Nat) (Q:Q4) (e:Ending) (w':World):Prop:=
 ∃ x y z t,Pt w' g x y z t∧WrH g w w'∧e=.returned (.tuple #[])∧((ev x,ev y,ev z,ev t):Q4)=Q
structure MuS (w:World) (g:Nat) (x y z t ns:List Int) (Q:Q4) (wr:World):Prop where
 below:Below w.heap.size w wr
 num:RowW wr w.heap.size 146 ns
 pt:Pt wr g x y z t
 lt:g<w.heap.size
 sum:∃ a b c d,Pt wr (w.heap.size+1+1) a b c d∧((ev a,ev b,ev c,ev d):Q4)=Q
theorem ev_id:((ev [0,0,0,0,0],ev [1,0,0,0,0],ev [1,0,0,0,0],ev [0,0,0,0,0]):Q4)=idQ:=by decide
theorem heap_third (w:World) (o1 o2 o3:Obj):(((w.alloc o1).alloc o2).alloc o3).heap[w.heap.size+1+1]?=some o3:=by
 have:=heap_alloc_new ((w.alloc o1).alloc o2) o3
 rwa [show((w.alloc o1).alloc o2).heap.size=w.heap.size+1+1 by simp] at this
def z20:List Int:=[0,0,0,0,0,0,0,0,0,0,0,0,0,0,0,0,0,0,0,0]
theorem one_ok2:EOk [1,0,0,0,0]:=one_ok
theorem Tryz.sizePoint2:(Tryz.prog.info? 143).map (·.size)=some 20:=by kernel_rfl
set_option maxRecDepth 100000 in
set_option maxHeartbeats 4000000 in
theorem multiply_gen (S:Nat→Q4) (g:Nat) (x y z t ns:List Int) (w:World) (hp:Pt w g x y z t) (hl:ns.length=4) (hw:Wrd ns) (hS0:Hid (S 0=idQ))
  (hSs:Hid (∀ n,S (n+1)=bif vbit (val 18446744073709551616 ns) (255-n) then F4 (F4 (S n) (S n)) (ev x,ev y,ev z,ev t) else F4 (S n) (S n))) :
  Calls Tryz.prog 105 #[.pointer (some ⟨g,0,none⟩),.agg (ns.map (Value.int .u64)).toArray] w (MulP w g (S 256)):=by
 match ns,hl with
 |[n0,n1,n2,n3],_=>
 have HB:Hid (Below w.heap.size w (((w.alloc (.cells #[.int .u64 n0,.int .u64 n1,.int .u64 n2,.int .u64 n3] 146)).alloc (.cells #[.int .u64 1,.int .u64 0,.int .u64 0,.int .u64 0,.int .u64 0] 141)).alloc (.cells #[.int .u64 0,.int .u64 0,.int .u64 0,.int .u64 0,.int .u64 0,.int .u64 0,.int .u64 0,.int .u64 0,.int .u64 0,.int .u64 0,.int .u64 0,.int .u64 0,.int .u64 0,.int .u64 0,.int .u64 0,.int .u64 0,.int .u64 0,.int .u64 0,.int .u64 0,.int .u64 0] 143))):=(((Below.refl _ _).alloc (Nat.le_refl _) _).alloc (by simp) _).alloc (by simp;omega) _;have HNR:Hid (RowW (((w.alloc (.cells #[.int .u64 n0,.int .u64 n1,.int .u64 n2,.int .u64 n3] 146)).alloc (.cells #[.int .u64 1,.int .u64 0,.int .u64 0,.int .u64 0,.int .u64 0] 141)).alloc (.cells #[.int .u64 0,.int .u64 0,.int .u64 0,.int .u64 0,.int .u64 0,.int .u64 0,.int .u64 0,.int .u64 0,.int .u64 0,.int .u64 0,.int .u64 0,.int .u64 0,.int .u64 0,.int .u64 0,.int .u64 0,.int .u64 0,.int .u64 0,.int .u64 0,.int .u64 0,.int .u64 0] 143)) w.heap.size 146 [n0,n1,n2,n3]):=by
  show _=_
  rw[Below.heap_alloc _ _ w.heap.size (by simp;omega),Below.heap_alloc _ _ w.heap.size (by simp)];exact heap_alloc_new w _
 have HZR:Hid (RowW (((w.alloc (.cells #[.int .u64 n0,.int .u64 n1,.int .u64 n2,.int .u64 n3] 146)).alloc (.cells #[.int .u64 1,.int .u64 0,.int .u64 0,.int .u64 0,.int .u64 0] 141)).alloc (.cells #[.int .u64 0,.int .u64 0,.int .u64 0,.int .u64 0,.int .u64 0,.int .u64 0,.int .u64 0,.int .u64 0,.int .u64 0,.int .u64 0,.int .u64 0,.int .u64 0,.int .u64 0,.int .u64 0,.int .u64 0,.int .u64 0,.int .u64 0,.int .u64 0,.int .u64 0,.int .u64 0] 143)) (w.heap.size+1+1) 143 z20):=heap_third w _ _ _;have HER:Hid (EAt ((w.alloc (.cells #[.int .u64 n0,.int .u64 n1,.int .u64 n2,.int .u64 n3] 146)).alloc (.cells #[.int .u64 1,.int .u64 0,.int .u64 0,.int .u64 0,.int .u64 0] 141)) (w.heap.size+1) 0 [1,0,0,0,0]):=by
  have r:RowW ((w.alloc (.cells #[.int .u64 n0,.int .u64 n1,.int .u64 n2,.int .u64 n3] 146)).alloc (.cells #[.int .u64 1,.int .u64 0,.int .u64 0,.int .u64 0,.int .u64 0] 141)) (w.heap.size+1) 141 [1,0,0,0,0]:=by
   have:=heap_alloc_new (w.alloc (.cells #[.int .u64 n0,.int .u64 n1,.int .u64 n2,.int .u64 n3] 146)) (.cells #[.int .u64 1,.int .u64 0,.int .u64 0,.int .u64 0,.int .u64 0] 141)
   rwa [show(w.alloc (.cells #[.int .u64 n0,.int .u64 n1,.int .u64 n2,.int .u64 n3] 146)).heap.size=w.heap.size+1 by simp] at this
  exact EAt.of_row r one_ok2
 have HPT:=hdI <| hp
 have HWD:=hdI <| hw
 clear hp hw;simp only[List.map_cons,List.map_nil];go_enter Tryz.func105,Tryz.ntmps105;go_wp2_with (first
  |(refine wpList_loadE rfl (.tmp 4) rfl (w.heap.size+1) 0 [1,0,0,0,0] rfl HER.out ?_)
  |(refine wpList_storeP rfl (.tmp 5) (.tmp 10) rfl (w.heap.size+1+1) [0,0,0,0,0] [1,0,0,0,0] [1,0,0,0,0] [0,0,0,0,0] z20 rfl rfl zero_ok one_ok2 one_ok2 zero_ok rfl HZR.out ?_)
  |fail)
 intro w0 hp0 hw0;have HS:Hid (MuS w g x y z t [n0,n1,n2,n3] (S 0) w0):=by
  have b0:=HB.out.trans (hw0.below (by omega));exact⟨b0,hw0.rowW HNR.out (by omega),HPT.out.below b0 HPT.out.row.lt,HPT.out.row.lt,[0,0,0,0,0],[1,0,0,0,0],[1,0,0,0,0],[0,0,0,0,0],hp0,by rw[hS0.out];exact ev_id⟩
 clear hp0 hw0 HB HNR HZR HER;go_wp2_with fail
 go_loopw [6] (fun i wr=>∃ j:Nat,j≤256∧i=.int .i64 ((j:Int)-1)∧MuS w g x y z t [n0,n1,n2,n3] (S (256-j)) wr) (fun i _=>(intOf i+1).toNat)
 case atStart=>exact⟨256,Nat.le_refl _,by go_num,by rw[Nat.sub_self];exact HS.out⟩
 case round=>
  clear HS;obtain⟨j,hj,rfl,hst⟩:=hrel;by_cases hj0:0<j
  ·obtain⟨i,rfl⟩:∃ i,j=i+1:=⟨j-1,by omega⟩
   have ei:((i+1:Nat):Int)-1=(i:Int):=by omega
   rw[ei];clear ei;obtain⟨hbel,hnum,hpt,hlt,a,b,c,d,hsum,hq⟩:=hst;have HST:Hid (Below w.heap.size w wr∧RowW wr w.heap.size 146 [n0,n1,n2,n3]∧Pt wr g x y z t∧g<w.heap.size∧Pt wr (w.heap.size+1+1) a b c d∧((ev a,ev b,ev c,ev d):Q4)=S (256-(i+1))):=⟨hbel,hnum,hpt,hlt,hsum,hq⟩
   clear hbel hnum hpt hlt hsum hq;go_wp2_with fail;refine(add_any (w.heap.size+1+1) (w.heap.size+1+1) a b c d a b c d _ HST.out.2.2.2.2.1 HST.out.2.2.2.2.1).mono ?_;intro e w2 h2;obtain⟨a2,b2,c2,d2,p2,hw2,rfl,q2⟩:=h2.q4;obtain⟨s1,s2,s3,s4,s5,s6⟩:=HST.out;have HST2:Hid (Below w.heap.size w w2∧RowW w2 w.heap.size 146 [n0,n1,n2,n3]∧Pt w2 g x y z t∧g<w.heap.size∧Pt w2 (w.heap.size+1+1) a2 b2 c2 d2∧((ev a2,ev b2,ev c2,ev d2):Q4)=F4 (S (256-(i+1))) (S (256-(i+1)))):=
    ⟨s1.trans (hw2.below w.heap.size (by omega) s1.size),hw2.rowW s2 (by omega),s3.wrh2 hw2 (by omega),s4,p2,by rw[q2,s6]⟩
   clear h2 p2 hw2 q2 s1 s2 s3 s4 s5 s6 HST;go_wp2_with fail;refine(bit_any w.heap.size [n0,n1,n2,n3] i _ rfl (by omega) HST2.out.2.1 HWD.out).mono ?_;rintro e w3 ⟨rfl,rfl⟩;have hv:val 18446744073709551616 [n0,n1,n2,n3]/2^i%2=0∨val 18446744073709551616 [n0,n1,n2,n3]/2^i%2=1:=by omega
   have en:256-i=256-(i+1)+1:=by omega
   have en2:255-(256-(i+1))=i:=by omega
   rcases hv with hv|hv
   ·have hvb:vbit (val 18446744073709551616 [n0,n1,n2,n3]) i=false:=by unfold vbit;rw[hv];rfl
    have HN:Hid (MuS w g x y z t [n0,n1,n2,n3] (S (256-i)) w3):=by
     obtain⟨s1,s2,s3,s4,s5,s6⟩:=HST2.out;refine⟨s1,s2,s3,s4,a2,b2,c2,d2,s5,?_⟩;rw[s6,en,hSs.out,en2,hvb];rfl
    rw[hv];clear hv HST2 en en2 hvb;go_wp2;go_roundw
    case rel=>exact⟨i,by omega,by go_num,HN.out⟩
    case measure=>simp[intOf]
   ·have hvb:vbit (val 18446744073709551616 [n0,n1,n2,n3]) i=true:=by unfold vbit;rw[hv];rfl
    rw[hv];clear hv;go_wp2_with fail;refine(add_any (w.heap.size+1+1) g a2 b2 c2 d2 x y z t _ HST2.out.2.2.2.2.1 HST2.out.2.2.1).mono ?_;intro e w4 h4;obtain⟨a4,b4,c4,d4,p4,hw4,rfl,q4⟩:=h4.q4;have HN:Hid (MuS w g x y z t [n0,n1,n2,n3] (S (256-i)) w4):=by
     obtain⟨s1,s2,s3,s4,s5,s6⟩:=HST2.out;refine⟨s1.trans (hw4.below w.heap.size (by omega) s1.size),hw4.rowW s2 (by omega),s3.wrh2 hw4 (by omega),s4,a4,b4,c4,d4,p4,?_⟩;rw[q4,s6,en,hSs.out,en2,hvb];rfl
    clear HST2 en en2 hvb h4 p4 hw4 q4;go_wp2;go_roundw
    case rel=>exact⟨i,by omega,by go_num,HN.out⟩
    case measure=>simp[intOf]
  ·have hj00:j=0:=by omega
   subst hj00;obtain⟨hbel,hnum,hpt,hlt,a,b,c,d,hsum,hq⟩:=hst;rw[Nat.sub_zero] at hq;have HL:=hdI <| hsum.row
   have HPX:Hid ((pl x y z t).length=20):=by show _=_;unfold pl;simp[HPT.out.x.1,HPT.out.y.1,HPT.out.z.1,HPT.out.t.1]
   have HSZ:Hid ((Tryz.prog.info? 143).map (·.size)=some ((pl a b c d).map (Value.int .u64)).toArray.size):=by
    show _=_
    rw[Tryz.sizePoint2];unfold pl;simp[hsum.x.1,hsum.y.1,hsum.z.1,hsum.t.1]
   have HOK:Hid (EOk a∧EOk b∧EOk c∧EOk d):=⟨hsum.x,hsum.y,hsum.z,hsum.t⟩
   have HPR:=hdI <| hpt.row
   have HFF:Hid (Below w.heap.size w wr∧((ev a,ev b,ev c,ev d):Q4)=S 256):=⟨hbel,hq⟩
   clear hbel hnum hpt hsum hq;go_wp2_with (first
    |(refine wpList_load_row rfl 143 (.tmp 5) rfl (w.heap.size+1+1) rfl 143 _ (0,0) _ HL.out Tryz.underlying143 rfl HSZ.out ?_)
    |(refine wpList_storeP rfl (.tmp 23) (.tmp 22) rfl g a b c d _ rfl rfl HOK.out.1 HOK.out.2.1 HOK.out.2.2.1 HOK.out.2.2.2 HPX.out HPR.out ?_)
    |fail)
   intro w5 hp5 hw5;have HF:Hid (MulP w g (S 256) (.returned (.tuple #[])) w5):=
    ⟨a,b,c,d,hp5,(WrH.of_below HFF.out.1).trans hw5.wrH,rfl,HFF.out.2⟩
   clear hp5 hw5 HFF HPR HOK HSZ HPX HL;go_wp2
   go_end0
   exact HF.out
theorem multiply_any (g:Nat) (x y z t ns:List Int) (w:World) (hp:Pt w g x y z t) (hl:ns.length=4) (hw:Wrd ns) :
  Calls Tryz.prog 105 #[.pointer (some ⟨g,0,none⟩),.agg (ns.map (Value.int .u64)).toArray] w (MulP w g (pS (val 18446744073709551616 ns) (ev x,ev y,ev z,ev t) 256)):=
 multiply_gen (pS (val 18446744073709551616 ns) (ev x,ev y,ev z,ev t)) g x y z t ns w hp hl hw rfl (fun _=>rfl)
def blks (zs:List Int):Nat→List Int
 |0=>ivL
 |k+1=>mixL (blks zs k) (blkOf (zs.drop (128*k)))
theorem blks_w8 (zs:List Int) (k:Nat):W8 (blks zs k):=by
 cases k with
 |zero=>exact ivL_w8
 |succ k=>exact mixL_w8 _ _
def shaL (zs:List Int):List Int:=txtW (finL (blks zs (zs.length/128)) (zs.drop (128*(zs.length/128))) zs.length)
theorem finL_w8 (hs zs:List Int) (n:Int):W8 (finL hs zs n):=by
 unfold finL;split
 ·exact mixL_w8 _ _
 ·exact mixL_w8 _ _
structure KS (w:World) (G:Nat) (hs:List Int) (y:World):Prop where
 wds:RowW y G 175 hs
 tab:TabIn y
 below:Below w.heap.size w y
 hi:w.heap.size≤G
theorem KS.frg {w:World} {G:Nat} {hs hs':List Int} {y y':World} (h:KS w G hs y) (hz:1<w.heap.size) (hf:FrG G y y') (hr:RowW y' G 175 hs'):KS w G hs' y':=by
 have:=h.hi;exact⟨hr,h.tab.frg (fun k hk e=>hf.block k hk (by omega)),h.below.trans (hf.below h.hi h.below.size),h.hi⟩
theorem KS.new {w:World} {G:Nat} {hs:List Int} {y y':World} (h:KS w G hs y) (hz:1<w.heap.size) (hb:Below y.heap.size y y'):KS w G hs y':=
 ⟨h.wds.below hb h.wds.lt,h.tab.frg (fun k hk _=>hb.block k hk),h.below.trans (hb.mono h.below.size),h.hi⟩
theorem Own.lowK {w:World} {B B':Nat} {v:Value} {zs:List Int} (h:Own w B' v zs) (hB:B≤B'):Own w B v zs:=by
 obtain⟨⟨h1,h2⟩,h3⟩:=h;refine⟨⟨h1,?_⟩,h3⟩;rcases h2 with h|⟨g,cap,cur,e,hg,r⟩
 ·exact .inl h
 ·exact .inr ⟨g,cap,cur,e,Nat.le_trans hB hg,r⟩
set_option maxRecDepth 100000 in
set_option maxHeartbeats 2000000 in
theorem shaI_any (a:Option Addr) (n cap:Nat) (zs:List Int) (w:World) (hn:zs.length=n) (ha:At .u8 w a zs) (hz:Byte zs) (hm:n≤2097152) (hcap:n≤cap) (hT:TabIn w) (h0:1<w.heap.size) :
  Calls Tryz.prog 108 #[.slice a n cap] w fun e w'=>∃ v,e=.returned v∧Own w' w.heap.size v (shaL zs)∧Below w.heap.size w w':=by
 have z1:=zvBlk;have z2:=zsBlk;have z3:=znBlk;have A:=hid_ofS (first_any w hT h0);have HT:=hid_ofS hT;have HA:=hid_ofS ha;have HZ:=hid_ofS hz;have HN:=hid_ofS hn;clear hn ha hz hT;go_enter Tryz.func108,Tryz.ntmps108;go_wp2_with fail;refine A.out.mono ?_;rintro e w1 ⟨rfl,b1⟩;have HB1:=hid_ofS b1;clear A b1;have HZN:Hid (RowW (w1.alloc (.cells #[.int .u64 0,.int .u64 0,.int .u64 0,.int .u64 0,.int .u64 0,.int .u64 0,.int .u64 0,.int .u64 0] 175)) w1.heap.size 175 [0,0,0,0,0,0,0,0]):=heap_alloc_new w1 _;have HAL:Hid (Below w1.heap.size w1 (w1.alloc (.cells #[.int .u64 0,.int .u64 0,.int .u64 0,.int .u64 0,.int .u64 0,.int .u64 0,.int .u64 0,.int .u64 0] 175))):=(Below.refl _ _).alloc (Nat.le_refl _) _;have HL:=hid_ofS ivL_w8.1;go_wp2_with (first
  |(refine wpList_storeW rfl (.tmp 3) (.tmp 6) rfl Tryz.sizeWds w1.heap.size ivL [0,0,0,0,0,0,0,0] rfl rfl HL.out rfl HZN.out ?_)
  |fail)
 intro w2 hr2 hw2;have hs1:=HB1.out.size;have HK:Hid (KS w w1.heap.size (blks zs 0) w2):=⟨hr2,((HT.out.frg (fun k hk _=>HB1.out.block k hk)).frg (fun k hk _=>HAL.out.block k hk)).frg (fun k _ e=>hw2.block k (by omega)),(HB1.out.trans (HAL.out.mono hs1)).trans (hw2.below hs1),hs1⟩
 clear hr2 hw2 HB1 HAL HZN HL HT;go_wp2
 go_loopw [4] (fun v wr=>∃(k:Nat) (a':Option Addr) (c':Nat),128*k≤n∧v=.slice a' (n-128*k) c'∧n-128*k≤c'∧At .u8 w a' (zs.drop (128*k))∧KS w w1.heap.size (blks zs k) wr) (fun v _=>lenOf v)
 case atStart=>exact⟨0,a,cap,by omega,rfl,by omega,HA.out,HK.out⟩
 case round=>
  clear HK;obtain⟨k,a',c',hk,rfl,hc',ha',hst⟩:=hrel;have HK:=hid_ofS hst;have HA':=hid_ofS ha';have hlen:(zs.drop (128*k)).length=n-128*k:=by rw[List.length_drop,HN.out]
  have HBY:Hid (Byte (zs.drop (128*k))):=fun z h=>HZ.out z (List.mem_of_mem_drop h)
  have HDL:=hid_ofS hlen;clear hst ha' hlen;by_cases hge:128≤n-128*k
  ·have hge':(128:Int)≤((n-128*k:Nat):Int):=by omega
   have HBL:Hid (blks zs (k+1)=mixL (blks zs k) (blkOf (zs.drop (128*k)))):=rfl;obtain⟨b,off,rfl,hb0,hcc⟩:=HA'.out.get (by rw[HDL.out];omega);have HN2:Hid (n-128*(k+1)=n-128*k-128):=by show _=_;omega
   have HD2:Hid (zs.drop (128*(k+1))=(zs.drop (128*k)).drop 128):=by show _=_;rw[List.drop_drop];congr 1
   have HK1:Hid (128*(k+1)≤n):=by show _≤_;omega
   have HCC:=hid_ofS hcc;clear hcc;obtain⟨m,hm'⟩:∃ m,m=n-128*k:=⟨_,rfl⟩
   rw[←hm'] at HN2 HDL hge hge' hc' ⊢;have hmm:m≤2097152:=by omega
   clear hm';have B:=hid_ofS (blk_any (some ⟨b,off,none⟩) m c' (zs.drop (128*k)) wr HDL.out (HA'.out.below HK.out.below) hmm);go_wp2_with fail;refine B.out.mono ?_;rintro e w3 ⟨rfl,b3⟩;have HK3:=hid_ofS (HK.out.new h0 b3);clear b3 B HK;have HZN:Hid (Row (w3.alloc (.cells zBlk 178)) w3.heap.size 178 (List.replicate 128 0)):=by show _=_;rw[heap_alloc_new,zcBlk]
   have HAL:Hid (Below w3.heap.size w3 (w3.alloc (.cells zBlk 178))):=(Below.refl _ _).alloc (Nat.le_refl _) _;have HLB:=hid_ofS (blkOf_len (zs.drop (128*k)));go_wp2_with (first
    |(refine wpList_storeB rfl (.tmp 5) (.tmp 12) rfl Tryz.sizeBlk w3.heap.size (blkOf (zs.drop (128*k))) (List.replicate 128 0) rfl rfl HLB.out (by simp) HZN.out ?_)
    |fail)
   intro w4 hr4 hw4;have hlt3:=HK3.out.wds.lt;have hsz3:=HK3.out.below.size;have hz3:=HK3.out.hi;have b34:=HAL.out.trans (hw4.below (Nat.le_refl _));have HK4:=hid_ofS (HK3.out.new h0 b34);have HG0:Hid (w1.heap.size≠1):=by show ¬ _;omega
   have C:=hid_ofS (mix_any w1.heap.size w3.heap.size (blks zs k) (blkOf (zs.drop (128*k))) w4 HK4.out.wds (blks_w8 _ _) hr4 HLB.out (blkOf_byte HBY.out) HK4.out.tab HG0.out);clear hr4 hw4 b34 HK3 HZN HAL;go_wp2_with fail;refine C.out.mono ?_;rintro e w5 ⟨rfl,r5,b5⟩;have HK5:Hid (KS w w1.heap.size (blks zs (k+1)) w5):=by rw[HBL.out];exact HK4.out.frg h0 b5 r5
   clear r5 b5 C HK4;go_wp2;refine⟨⟨k+1,_,c'-128,HK1.out,by rw[HN2.out],by rw[HN2.out];omega,?_,HK5.out⟩,by show m-128<m;omega⟩;rw[HD2.out];by_cases hcc:c'=128
   ·exact .inl (List.eq_nil_of_length_eq_zero (by rw[List.length_drop,HDL.out];omega))
   ·rw[if_neg hcc];refine .inr ⟨b,off+128,rfl,hb0,fun i hi=>?_⟩;rw[List.length_drop] at hi;rw[Nat.add_assoc,HCC.out (128+i) (by omega),List.getD_eq_getElem?_getD,List.getD_eq_getElem?_getD,List.getElem?_drop,List.getElem?_drop,List.getElem?_drop]
  ·have hge':¬ ((128:Int)≤((n-128*k:Nat):Int)):=by omega
   have HQ:Hid (shaL zs=txtW (finL (blks zs k) (zs.drop (128*k)) (n:Int))):=by
    show _=_
    unfold shaL;rw[HN.out,show n/128=k by omega]
   have HUN:Hid (U64 (n:Int)):=⟨by omega,by omega⟩
   have HG0:Hid (w1.heap.size≠1):=by show ¬ _;omega
   obtain⟨m,hm'⟩:∃ m,m=n-128*k:=⟨_,rfl⟩
   rw[←hm'] at HDL hge hge' hc' ⊢;have hmm:m<128:=by omega
   clear hm';have B:=hid_ofS (fin_any w1.heap.size (blks zs k) a' m c' (zs.drop (128*k)) (n:Int) wr HK.out.wds (blks_w8 _ _) HDL.out (HA'.out.below HK.out.below) HBY.out hmm HK.out.tab HG0.out HUN.out);go_wp2_with fail;refine B.out.mono ?_;rintro e w3 ⟨rfl,r3,b3⟩;have HK3:Hid (KS w w1.heap.size (finL (blks zs k) (zs.drop (128*k)) n) w3):=HK.out.frg h0 b3 r3;clear r3 b3 B HK;have C:=hid_ofS (textI_any w1.heap.size _ w3 HK3.out.wds (finL_w8 _ _ _));go_wp2_with fail;refine C.out.mono ?_;rintro e w4 ⟨v,rfl,o4,b4⟩;have HO:Hid (Own w4 w.heap.size v (shaL zs)):=by rw[HQ.out];exact o4.lowK HK3.out.below.size
   have HB:Hid (Below w.heap.size w w4):=HK3.out.below.trans (b4.mono HK3.out.below.size);clear o4 b4 C HK3;go_wp2
   go_ret
   exact⟨_,rfl,HO.out,HB.out⟩
theorem getD_app (xs ys:List Int) (i:Nat):(xs++ys).getD i 0=if i<xs.length then xs.getD i 0 else ys.getD (i-xs.length) 0:=by
 simp only[List.getD_eq_getElem?_getD,List.getElem?_append];split<;>rfl
theorem getD_rep0 (n i:Nat):(List.replicate n (0:Int)).getD i 0=0:=by
 simp only[List.getD_eq_getElem?_getD,List.getElem?_replicate];split<;>rfl
theorem getD_out (xs:List Int) (i:Nat) (h:xs.length≤i):xs.getD i 0=0:=by
 rw[List.getD_eq_getElem?_getD,List.getElem?_eq_none h];rfl
theorem getD_dropI (xs:List Int) (m i:Nat):(xs.drop m).getD i 0=xs.getD (m+i) 0:=by
 simp only[List.getD_eq_getElem?_getD,List.getElem?_drop]
theorem getD_takeI (xs:List Int) (m i:Nat) (h:i<m):(xs.take m).getD i 0=xs.getD i 0:=by
 simp only[List.getD_eq_getElem?_getD,List.getElem?_take,if_pos h]
theorem ext_getD {xs ys:List Int} (n:Nat) (h1:xs.length=n) (h2:ys.length=n) (h:∀ i,i<n→xs.getD i 0=ys.getD i 0):xs=ys:=by
 apply List.ext_getElem (by omega);intro i hi hj;have:=h i (by omega);simpa[List.getD_eq_getElem?_getD,hi,hj] using this
theorem ov8_get (bs:List Int) (o:Nat) (v:Int) (k:Nat) (hk:o+k≤bs.length) (i:Nat) :
  (ov8 bs o v k).getD i 0=if o≤i∧i<o+k then v/2^(56-8*(i-o))%256 else bs.getD i 0:=by
 induction k with
 |zero=>rw[if_neg (by omega)];rfl
 |succ k ih=>
  have ih:=ih (by omega);unfold ov8;by_cases e:i=o+k
  ·rw[e,getD_set_same _ _ _ (by rw[ov8_len];omega),if_pos (by omega),show o+k-o=k by omega]
  ·rw[getD_set_other _ _ _ _ e,ih];by_cases c:o≤i∧i<o+k
   ·rw[if_pos c,if_pos (by omega)]
   ·rw[if_neg c,if_neg (by omega)]
theorem blkOf_get (zs:List Int) (i:Nat) (h:i<128):(blkOf zs).getD i 0=zs.getD i 0:=by
 unfold blkOf;rw[getD_app];split
 ·rw[getD_takeI _ _ _ h]
 ·next c=>rw[getD_rep0,getD_out];rw[List.length_take] at c;omega
theorem mrk_get (zs:List Int) (i:Nat) (h:i<128) (hl:zs.length<128):(mrk zs).getD i 0=if i=zs.length then 128 else zs.getD i 0:=by
 unfold mrk;by_cases e:i=zs.length
 ·rw[e,getD_set_same _ _ _ (by rw[blkOf_len];exact hl),if_pos rfl]
 ·rw[getD_set_other _ _ _ _ e,blkOf_get _ _ h,if_neg e]
theorem lenB_get (bs:List Int) (n:Nat) (hl:bs.length=128) (hn:n≤2097152) (i:Nat) :
  (lenB bs n).getD i 0=if i<112 then bs.getD i 0 else if i<120 then 0 else if i<128 then(by8 (8*(n:Int))).getD (i-120) 0 else 0:=by
 unfold lenB;rw[ov8_get _ _ _ _ (by rw[ov8_len];omega),ov8_get _ _ _ _ (by omega)];have hw:IntKind.u64.wrap ((n:Int)*8)=8*(n:Int):=by rw[IntKind.wrap_u64];omega
 have h61:(n:Int)/2^61=0:=by omega
 rw[hw,h61];by_cases a:i<112
 ·rw[if_neg (by omega),if_neg (by omega),if_pos a]
 ·rw[if_neg a];by_cases b:i<120
  ·rw[if_neg (by omega),if_pos (by omega),if_pos b,Int.zero_ediv];rfl
  ·rw[if_neg b];by_cases c:i<128
   ·rw[if_pos (by omega),if_pos c,by8_get _ _ (by omega)]
   ·rw[if_neg (by omega),if_neg (by omega),if_neg c,getD_out _ _ (by omega)]
theorem padL_len (zs:List Int):(padL zs).length=zs.length+1+padZ zs.length+16:=by
 unfold padL;simp[by8_len];omega
theorem padL_get (zs:List Int) (i:Nat):(padL zs).getD i 0=if i<zs.length then zs.getD i 0 else if i=zs.length then 128 else if i<zs.length+1+padZ zs.length+8 then 0 else(by8 (8*(zs.length:Int))).getD (i-(zs.length+1+padZ zs.length+8)) 0:=by
 unfold padL;rw[getD_app,getD_app,getD_app,getD_app];simp only[List.length_append,List.length_replicate,List.length_cons,List.length_nil,getD_rep0,Nat.zero_add];by_cases a:i<zs.length
 ·rw[if_pos (by omega),if_pos (by omega),if_pos (by omega),if_pos a,if_pos a]
 ·rw[if_neg a,if_neg a];by_cases b:i=zs.length
  ·rw[if_pos (by omega),if_pos (by omega),if_pos (by omega),if_pos b,b,Nat.sub_self];rfl
  ·rw[if_neg b];by_cases c:i<zs.length+1+padZ zs.length+8
   ·rw[if_pos c,if_pos c];split
    ·rw[if_neg (by omega)]
    ·rfl
   ·rw[if_neg c,if_neg c]
def mbl (zs:List Int):Nat→List Int
 |0=>ivL
 |k+1=>mixL (mbl zs k) (((padL zs).drop (128*k)).take 128)
theorem mbl_w8 (zs:List Int) (k:Nat):W8 (mbl zs k):=by
 cases k with
 |zero=>exact ivL_w8
 |succ k=>exact mixL_w8 _ _
def nBl (n:Nat):Nat:=(n+1+padZ n+16)/128
theorem nBl_len (zs:List Int):(padL zs).length=128*nBl zs.length:=by
 have h:=padZ_spec zs.length;rw[padL_len];unfold nBl;omega
theorem pblk_len (zs:List Int) (k:Nat) (h:k<nBl zs.length):(((padL zs).drop (128*k)).take 128).length=128:=by
 rw[List.length_take,List.length_drop,nBl_len];omega
theorem pblk_get (zs:List Int) (k i:Nat) (h:i<128):(((padL zs).drop (128*k)).take 128).getD i 0=(padL zs).getD (128*k+i) 0:=by
 rw[getD_takeI _ _ _ h,getD_dropI]
theorem mbl_lo (zs:List Int) (k:Nat) (h:128*k≤zs.length):mbl zs k=blks zs k:=by
 induction k with
 |zero=>rfl
 |succ k ih=>
  have hs:=padZ_spec zs.length;have hk:k<nBl zs.length:=by unfold nBl;omega
  show mixL (mbl zs k) _=mixL (blks zs k) _
  rw[ih (by omega)]
  congr 1
  refine ext_getD 128 (pblk_len zs k hk) (blkOf_len _) fun i hi=>?_
  rw[pblk_get _ _ _ hi,blkOf_get _ _ hi,getD_dropI,padL_get,if_pos (by omega)]
theorem mbl_fin (zs:List Int) (hn:zs.length≤2097152):mbl zs (nBl zs.length)=finL (blks zs (zs.length/128)) (zs.drop (128*(zs.length/128))) zs.length:=by
 obtain⟨n,hn'⟩:∃ n,n=zs.length:=⟨_,rfl⟩
 obtain⟨q,hq⟩:∃ q,q=n/128:=⟨_,rfl⟩
 rw[←hn',←hq];have hs:=padZ_spec n;have hdl:(zs.drop (128*q)).length=n-128*q:=by rw[List.length_drop,hn']
 have hlo:=mbl_lo zs q (by omega);unfold finL;by_cases c:n-128*q<112
 ·have e:nBl n=q+1:=by unfold nBl;omega
  have eT:n+1+padZ n=128*q+112:=by omega
  rw[if_pos (by omega),e];have e1:((padL zs).drop (128*q)).take 128=lenB (mrk (zs.drop (128*q))) n:=?_
  ·show mixL (mbl zs q) _=_
   rw[hlo,e1]
  refine ext_getD 128 (pblk_len zs q (by rw[←hn',e];omega)) (lenB_len (mrk_len _) _) fun i hi=>?_
  rw[pblk_get _ _ _ hi,lenB_get _ _ (mrk_len _) (by omega),padL_get,←hn',eT];by_cases a:i<112
  ·rw[if_pos a,mrk_get _ _ hi (by omega),hdl,getD_dropI];by_cases b:i<n-128*q
   ·rw[if_pos (by omega),if_neg (by omega)]
   ·rw[if_neg (by omega)];by_cases d:i=n-128*q
    ·rw[if_pos (by omega),if_pos d]
    ·rw[if_neg (by omega),if_pos (by omega),if_neg d,getD_out];omega
  ·rw[if_neg a,if_neg (by omega),if_neg (by omega)];by_cases b:i<120
   ·rw[if_pos b,if_pos (by omega)]
   ·rw[if_neg b,if_neg (by omega),if_pos hi];rw[show 128*q+i-(128*q+112+8)=i-120 by omega]
 ·have e:nBl n=q+2:=by unfold nBl;omega
  have eT:n+1+padZ n=128*q+240:=by omega
  rw[if_neg (by omega),e];have e1:((padL zs).drop (128*q)).take 128=mrk (zs.drop (128*q)):=by
   refine ext_getD 128 (pblk_len zs q (by rw[←hn',e];omega)) (mrk_len _) fun i hi=>?_
   rw[pblk_get _ _ _ hi,padL_get,←hn',eT,mrk_get _ _ hi (by omega),hdl,getD_dropI];by_cases b:i<n-128*q
   ·rw[if_pos (by omega),if_neg (by omega)]
   ·rw[if_neg (by omega)];by_cases d:i=n-128*q
    ·rw[if_pos (by omega),if_pos d]
    ·rw[if_neg (by omega),if_pos (by omega),if_neg d,getD_out];omega
  have e2:((padL zs).drop (128*(q+1))).take 128=lenB (List.replicate 128 0) n:=by
   refine ext_getD 128 (pblk_len zs (q+1) (by rw[←hn',e];omega)) (lenB_len (by simp) _) fun i hi=>?_
   rw[pblk_get _ _ _ hi,lenB_get _ _ (by simp) (by omega),padL_get,←hn',eT,if_neg (by omega),if_neg (by omega),getD_rep0];by_cases b:i<120
   ·rw[if_pos (by omega)];by_cases d:i<112
    ·rw[if_pos d]
    ·rw[if_neg d,if_pos b]
   ·rw[if_neg (by omega),if_neg (by omega),if_neg b,if_pos hi];rw[show 128*(q+1)+i-(128*q+240+8)=i-120 by omega]
  generalize lenB (List.replicate 128 0) (n:Int)=X at *;generalize mrk (zs.drop (128*q))=Y at *;have e3:mbl zs (q+1)=mixL (blks zs q) Y:=by rw[←hlo,←e1];rfl
  rw[←e3,←e2];rfl
theorem mbl_sha (zs:List Int) (hn:zs.length≤2097152):txtW (mbl zs (nBl zs.length))=shaL zs:=by
 rw[mbl_fin zs hn];rfl
theorem padL_byte {zs:List Int} (hz:Byte zs):Byte (padL zs):=by
 intro z h;unfold padL at h;simp only[List.mem_append,List.mem_replicate,List.mem_singleton] at h;rcases h with (((h|rfl)|⟨_,rfl⟩)|⟨_,rfl⟩)|h
 ·exact hz z h
 ·exact⟨by decide,by decide⟩
 ·exact⟨by decide,by decide⟩
 ·exact⟨by decide,by decide⟩
 ·exact by8_byte _ z h
theorem apR_no {D U:List Int} {k:Int} {T:List Int} {n:Nat} {kind:Int} {a b:Nat} (h:(apR D U k T n kind a b).ok=false):apR D U k T n kind a b=apNo:=by
 unfold apR at h ⊢;split
 ·split
  ·rename_i h1 h2;rw[if_pos h1,if_pos h2] at h;cases h
  ·rfl
 ·split
  ·rename_i h1 h2
   rw[if_neg h1,if_pos h2] at h;split
   ·rename_i h3;rw[if_pos h3] at h;cases h
   ·rename_i h3
    rw[if_neg h3] at h;split
    ·rename_i h4;rw[if_pos h4] at h;cases h
    ·rfl
  ·rename_i h1 h2
   rw[if_neg h1,if_neg h2] at h;split
   ·rename_i h3
    rw[if_pos h3] at h;split
    ·rename_i h4;rw[if_pos h4] at h;cases h
    ·rfl
   ·rfl
theorem withS_ser (xs:List Int) (a:Nat):SerP (withS xs a):=upTo_ser _
theorem apR_ser {D U:List Int} {k:Int} {T:List Int} {n:Nat} {kind:Int} {a b:Nat} (hD:SerP D) (hU:SerP U):SerP (apR D U k T n kind a b).D∧SerP (apR D U k T n kind a b).U:=by
 have hn:SerP ([]:List Int):=fun i hi=>by simp at hi
 unfold apR;split
 ·split
  ·exact⟨hD,withS_ser _ _⟩
  ·exact⟨hn,hn⟩
 ·split
  ·split
   ·exact⟨withS_ser _ _,hU⟩
   ·split
    ·exact⟨without_ser hD _,hU⟩
    ·exact⟨hn,hn⟩
  ·split
   ·split
    ·exact⟨hD,hU⟩
    ·exact⟨hn,hn⟩
   ·exact⟨hn,hn⟩
open Classical in
noncomputable def apF (D U:List Int) (k:Int) (T:List Int) (n:Nat) (kind:Int) (a b:Nat):ApR:=if stB D U k T n=true then apR D U k T n kind a b else apNo
theorem stP_of {D U:List Int} {k:Int} {T:List Int} {n:Nat} (h:stB D U k T n=true):StP D U k T n:=by
 unfold stB at h;simpa using h
def APV (lo:Nat) (w:World) (v:Value) (r:ApR):Prop:=
 ∃ aD nD cD aU nU cU aT nT cT,v=.agg #[.bool r.ok,.slice aD nD cD,.slice aU nU cU,.int .i64 r.k,.slice aT nT cT]∧S3 lo w aD aU aT nD nU nT r.D r.U r.T
theorem APV.no (lo:Nat) (w:World):APV lo w (.agg #[.bool false,.slice none 0 0,.slice none 0 0,.int .i64 0,.slice none 0 0]) apNo:=
 ⟨none,0,0,none,0,0,none,0,0,rfl,.inl rfl,.inl rfl,.inl rfl,rfl,rfl,rfl,fun _ h=>(by cases h),fun _ h=>(by cases h),fun _ h=>(by cases h),fun _ _ h=>(by cases h),fun _ _ h=>(by cases h),fun _ _ h=>(by cases h)⟩
theorem IO.sat {B:Nat} {w:World} {a:Option Addr} {n c:Nat} {xs:List Int} (h:IO B w (.slice a n c) xs):SAt w a xs∧xs.length=n∧Lies B w a:=by
 rcases h.2 with⟨h',h0⟩|⟨g,cap,cur,h',hb,hh,hc,hm,hs,ht⟩
 ·cases h';have:xs=[]:=List.eq_nil_of_length_eq_zero h0;exact⟨.inl this,h0,fun _ e=>(by cases e)⟩
 ·cases h';have hlt:=(Array.getElem?_eq_some_iff.1 hh).1;refine⟨.inr ⟨g,0,rfl,hlt,fun i hi=>?_⟩,rfl,fun ad e=>(by cases e;exact⟨hb,hlt⟩)⟩;rw[Nat.zero_add];refine⟨?_,frozen_of_row _ _ _ _ _ hh⟩;have:=World.ownsRow.cellAt h i (by omega);rw[this];simp[hi]
theorem TapV.sat {B:Nat} {w:World} {a:Option Addr} {n c:Nat} {T:List Int} (h:TapV B w (.slice a n c) T n):SAt w a T∧T.length=n*2∧Lies B w a:=by
 obtain⟨hl,⟨h1,h2⟩|⟨t,o,c',h1,hB,ht,hc,hm,hx⟩⟩:=h
 ·cases h1;exact⟨.inl (List.eq_nil_of_length_eq_zero (by omega)),hl,fun _ e=>(by cases e)⟩
 ·cases h1;exact⟨.inr ⟨t,o,rfl,ht,fun i hi=>hx.1 i (by omega)⟩,hl,fun ad e=>(by cases e;exact⟨hB,ht⟩)⟩
structure IX (w:World) (fr:Array Value) (wr:World):Prop where
 below:Below w.heap.size w wr
 fb:wr.heap[w.heap.size+1]?=some (.cells fr 38 (0,0))
 rb:wr.heap[w.heap.size+2]?=some (.cells #[.bool false,.slice none 0 0,.slice none 0 0,.int .i64 0,.slice none 0 0] 42 (0,0))
theorem IX.call {w wr w':World} {fr:Array Value} {B:Nat} (h:IX w fr wr) (b:Below B wr w') (hB:w.heap.size+3≤B):IX w fr w':=
 ⟨h.below.trans (b.mono (by omega)),by rw[b.block _ (by omega)];exact h.fb,by rw[b.block _ (by omega)];exact h.rb⟩
theorem IX.start (w:World) (sc fr:Array Value):IX w fr (((w.alloc (.cells sc 26)).alloc (.cells fr 38)).alloc (.cells #[.bool false,.slice none 0 0,.slice none 0 0,.int .i64 0,.slice none 0 0] 42)):=by
 refine⟨(((Below.refl _ _).alloc (Nat.le_refl _) _).alloc (by simp) _).alloc (by simp;omega) _,?_,?_⟩
 ·rw[Below.heap_alloc _ _ (w.heap.size+1) (by simp)];have:=heap_alloc_new (w.alloc (.cells sc 26)) (.cells fr 38)
  rwa [show(w.alloc (.cells sc 26)).heap.size=w.heap.size+1 by simp] at this
 ·have:=heap_alloc_new ((w.alloc (.cells sc 26)).alloc (.cells fr 38)) (.cells #[.bool false,.slice none 0 0,.slice none 0 0,.int .i64 0,.slice none 0 0] 42)
  rwa [show((w.alloc (.cells sc 26)).alloc (.cells fr 38)).heap.size=w.heap.size+2 by simp] at this
theorem TapO.keep {B:Nat} {w w':World} {v:Value} {T:List Int} {n:Nat} (h:TapO B w v T n) (hb:∀ k,B≤k→k<w.heap.size→w'.heap[k]?=w.heap[k]?):TapO B w' v T n:=by
 refine⟨h.1,?_⟩;rcases h.2 with h'|⟨g,c,cur,h1,h2,h3,h4⟩
 ·exact .inl h'
 ·exact .inr ⟨g,c,cur,h1,h2,by rw[hb g h2 (Array.getElem?_eq_some_iff.1 h3).1];exact h3,h4⟩
theorem TapO.below {B:Nat} {w w':World} {v:Value} {T:List Int} {n:Nat} (h:TapO B w v T n) (b:Below w.heap.size w w'):TapO B w' v T n:=h.keep (fun k _ hk=>b.block k hk)
theorem TapO.wrk {B R:Nat} {w w':World} {v:Value} {T:List Int} {n:Nat} (h:TapO B w v T n) (hw:Wr R w w') (hR:R<B):TapO B w' v T n:=h.keep (fun k hk _=>hw.block k (by omega))
theorem TapO.wr {B R:Nat} {w w':World} {v:Value} {T:List Int} {n:Nat} (h:TapO B w v T n) (hw:Wr R w w') (hR:R<B):TapO B w' v T n:=h.wrk hw hR
def CpFin (lo:Nat) (k:Int) (D U T:List Int) (nT:Nat) (w:World) (cs:Array Value):Prop:=
 ∃ aD nD cD aU nU cU aT cT,cs=#[.slice aD nD cD,.slice aU nU cU,.int .i64 k,.slice aT nT cT]∧IO lo w (.slice aD nD cD) D∧IO lo w (.slice aU nU cU) U∧TapO lo w (.slice aT nT cT) T nT
section
variable {lo lo' R:Nat} {k:Int} {D U T:List Int} {nT:Nat} {w w':World} {cs:Array Value} {v:Value}
theorem CpFin.below (h:CpFin lo k D U T nT w cs) (b:Below w.heap.size w w'):CpFin lo k D U T nT w' cs:=by
 obtain⟨aD,nD,cD,aU,nU,cU,aT,cT,e,h1,h2,h3⟩:=h;exact⟨aD,nD,cD,aU,nU,cU,aT,cT,e,h1.below b,h2.below b,h3.below b⟩
theorem CpFin.mono (h:CpFin lo k D U T nT w cs) (hl:lo'≤lo):CpFin lo' k D U T nT w cs:=by
 obtain⟨aD,nD,cD,aU,nU,cU,aT,cT,e,h1,h2,h3⟩:=h;exact⟨aD,nD,cD,aU,nU,cU,aT,cT,e,h1.mono hl,h2.mono hl,TapO.mono h3 hl⟩
def CpBd (lo:Nat) (k:Int) (D U T:List Int) (nT:Nat) (w:World) (v:Value):Prop:=∃ cs,v=.agg cs∧CpFin lo k D U T nT w cs
theorem CpBd.below (h:CpBd lo k D U T nT w v) (b:Below w.heap.size w w'):CpBd lo k D U T nT w' v:=by obtain⟨cs,e,h⟩:=h;exact⟨cs,e,h.below b⟩
theorem CpBd.wr (h:CpBd lo k D U T nT w v) (hw:Wr R w w') (hR:R<lo):CpBd lo k D U T nT w' v:=by
 obtain⟨cs,e,aD,nD,cD,aU,nU,cU,aT,cT,e2,h1,h2,h3⟩:=h;exact⟨cs,e,aD,nD,cD,aU,nU,cU,aT,cT,e2,h1.wr hw hR,h2.wr hw hR,h3.wr hw hR⟩
end
structure WBF (w wb:World) (sc:Array Value):Prop where
 p1:w.heap.size<wb.heap.size
 p2:wb.heap[w.heap.size]?=some (.cells sc 26 (0,0))
 p3:w.heap.size≤wb.heap.size
 p4:wb.heap.size≤w.heap.size+1
set_option maxRecDepth 100000 in
set_option maxHeartbeats 4000000 in
theorem l5c_any (aD aU aT:Option Addr) (nD cD nU cU nT cT:Nat) (D U:List Int) (k:Int) (T:List Int) (w:World) (hD:D.length=nD) (hU:U.length=nU) (hT:T.length=nT*2) (mD:nD≤1048576) (mU:nU≤1048576) (mT:nT≤1048576)
  (haD:At .i64 w aD D) (haU:At .i64 w aU U) (haT:At .i64 w aT T) :
  Calls Tryz.prog 21 #[.agg #[.slice aD nD cD,.slice aU nU cU,.int .i64 k,.slice aT nT cT]] w fun e w'=>∃ cs,e=.returned (.agg cs)∧CpFin w.heap.size k D U T nT w' cs∧Below w.heap.size w w':=by
 obtain⟨wb,hwb⟩:∃ wb,wb=w.alloc (.cells #[.slice aD nD cD,.slice aU nU cU,.int .i64 k,.slice aT nT cT] 26):=⟨_,rfl⟩
 have HWB:Hid (WBF w wb #[.slice aD nD cD,.slice aU nU cU,.int .i64 k,.slice aT nT cT]):=⟨by rw[hwb];simp,by rw[hwb];exact heap_alloc_new w _,by rw[hwb];simp,by rw[hwb];simp⟩
 have HBW:Hid (Below w.heap.size w wb):=by show Below _ _ _;rw[hwb];exact(Below.refl _ _).alloc (Nat.le_refl _) _
 have HAD:=hdI <| haD
 have HAU:=hdI <| haU
 have HAT:=hdI <| haT
 have HLN:Hid (D.length=nD∧U.length=nU∧T.length=nT*2):=⟨hD,hU,hT⟩
 have HSZ:Hid ((Tryz.prog.info? 26).map (·.size)=some 4):=by show _=_;kernel_rfl
 have HW0:Hid (Below wb.heap.size wb ((w.alloc (.cells #[.slice aD nD cD,.slice aU nU cU,.int .i64 k,.slice aT nT cT] 26)).alloc (.cells #[.slice none 0 0,.slice none 0 0,.int .i64 0,.slice none 0 0] 26)).drew):=by
  have h1:Below wb.heap.size wb (wb.alloc (.cells #[.slice none 0 0,.slice none 0 0,.int .i64 0,.slice none 0 0] 26)):=(Below.refl _ _).alloc (Nat.le_refl _) _;rw[hwb] at h1 ⊢;exact⟨h1.os,h1.tape,h1.output,h1.size,h1.block⟩
 have HR0:Hid (((w.alloc (.cells #[.slice aD nD cD,.slice aU nU cU,.int .i64 k,.slice aT nT cT] 26)).alloc (.cells #[.slice none 0 0,.slice none 0 0,.int .i64 0,.slice none 0 0] 26)).drew.heap[w.heap.size+1]?=some (.cells #[.slice none 0 0,.slice none 0 0,.int .i64 0,.slice none 0 0] 26 (0,0))):=by
  have:=heap_alloc_new (w.alloc (.cells #[.slice aD nD cD,.slice aU nU cU,.int .i64 k,.slice aT nT cT] 26)) (.cells #[.slice none 0 0,.slice none 0 0,.int .i64 0,.slice none 0 0] 26)
  rwa [show(w.alloc (.cells #[.slice aD nD cD,.slice aU nU cU,.int .i64 k,.slice aT nT cT] 26)).heap.size=w.heap.size+1 by simp] at this
 clear haD haU haT hD hU hT hwb;go_enter Tryz.func21,Tryz.ntmps21;go_wp2_with fail;refine wp_region_any (by kernel_rfl) ?_;refine wpAny_slotsU (fun i a b=>if i=15 then Wr (w.heap.size+1) a b else Below a.heap.size a b) (frame:=(fun (a b c:Value)=>fun (t:Nat→Value)=>({ tmps:=List.toArray [a,b,c,t 0,t 1,t 2,t 3,t 4,t 5,t 6,t 7,t 8,t 9,t 10,t 11,t 12,t 13,t 14],defers:=[] }:Act)) _ _ _)
  (Ext:=fun L u w'=>ApS wb (w.heap.size+1) 15 26 #[.slice none 0 0,.slice none 0 0,.int .i64 0,.slice none 0 0] (CpFin (w.heap.size+2) k D U T nT) [] L u w') (Good:=fun i L w' v=>if i=0 then EmS (w.heap.size+2) 2 w' v else if i=1 then v=.pointer (some ⟨w.heap.size,0,none⟩) else if i=2 then v=.slice aD nD cD else if i=3 then IO (w.heap.size+2) w' v D else if i=4 then EmS (w.heap.size+2) 2 w' v else if i=5 then v=.pointer (some ⟨w.heap.size,1,none⟩) else if i=6 then v=.slice aU nU cU else if i=7 then IO (w.heap.size+2) w' v U else if i=8 then v=.pointer (some ⟨w.heap.size,2,none⟩) else if i=9 then v=.int .i64 k else if i=10 then EmS (w.heap.size+2) 70 w' v else if i=11 then v=.pointer (some ⟨w.heap.size,3,none⟩) else if i=12 then v=.slice aT nT cT else if i=13 then TapO (w.heap.size+2) w' v T nT else if i=14 then CpBd (w.heap.size+2) k D U T nT w' v else if i=15 then L 15=true else True) ?hstab (by kernel_rfl) ?hop ?hdone _ _ ((fun (x0 x1 x2 x3 x4 x5 x6 x7 x8 x9 x10 x11 x12 x13 x14:Value)=>fun (i:Nat)=>if i=0 then x0 else if i=1 then x1 else if i=2 then x2 else if i=3 then x3 else if i=4 then x4 else if i=5 then x5 else if i=6 then x6 else if i=7 then x7 else if i=8 then x8 else if i=9 then x9 else if i=10 then x10 else if i=11 then x11 else if i=12 then x12 else if i=13 then x13 else if i=14 then x14 else undef) _ _ _ _ _ _ _ _ _ _ _ _ _ _ _) _ (by simp) ?ext ?start (by simp)
 case start=>intro i hi h;exact absurd h (by rw[Array.getD_eq_getD_getElem?,Array.getElem?_replicate];split<;>simp)
 case ext=>exact ApS.start ⟨HW0.out,fun p _ hp=>absurd hp (by rw[Array.getD_eq_getD_getElem?,Array.getElem?_replicate];split<;>simp),fun p _ q _ _ hp=>absurd hp (by rw[Array.getD_eq_getD_getElem?,Array.getElem?_replicate];split<;>simp)⟩ (fun i=>by rw[Array.getD_eq_getD_getElem?,Array.getElem?_replicate];split<;>rfl) HR0.out
 case hstab=>
  intro j L w9 w' i v hM hij hLi h;by_cases h0:j=0
  ·subst h0;by_cases hl:i=15
   ·subst hl;simp at h hM ⊢;exact h.wr hM (by omega)
   ·rw[if_neg hl] at hM;simp at h ⊢;exact h.below hM
  by_cases h3:j=3
  ·subst h3;by_cases hl:i=15
   ·subst hl;simp at h hM ⊢;exact h.wr hM (by omega)
   ·rw[if_neg hl] at hM;simp at h ⊢;exact h.below hM
  by_cases h4:j=4
  ·subst h4;by_cases hl:i=15
   ·subst hl;simp at h hM ⊢;exact h.wr hM (by omega)
   ·rw[if_neg hl] at hM;simp at h ⊢;exact h.below hM
  by_cases h7:j=7
  ·subst h7;by_cases hl:i=15
   ·subst hl;simp at h hM ⊢;exact h.wr hM (by omega)
   ·rw[if_neg hl] at hM;simp at h ⊢;exact h.below hM
  by_cases h10:j=10
  ·subst h10;by_cases hl:i=15
   ·subst hl;simp at h hM ⊢;exact h.wr hM (by omega)
   ·rw[if_neg hl] at hM;simp at h ⊢;exact h.below hM
  by_cases h13:j=13
  ·subst h13;by_cases hl:i=15
   ·subst hl;simp at h hM ⊢;exact h.wr hM (by omega)
   ·rw[if_neg hl] at hM;simp at h ⊢;exact h.below hM
  by_cases h14:j=14
  ·subst h14;by_cases hl:i=15
   ·subst hl;simp at h hM ⊢;exact h.wr hM (by omega)
   ·rw[if_neg hl] at hM;simp at h ⊢;exact h.below hM
  by_cases hl:j=15
  ·subst hl;simp at h ⊢;unfold updK;simp[h]
  simp only[if_neg h0,if_neg h3,if_neg h4,if_neg h7,if_neg h10,if_neg h13,if_neg h14,if_neg hl] at h ⊢;exact h
 case hop=>
  intro i o L t w' ho hLi hx hdep K hK;have hi:i<16:=(Array.getElem?_eq_some_iff.1 ho).1;obtain rfl|rfl|rfl|rfl|rfl|rfl|rfl|rfl|rfl|rfl|rfl|rfl|rfl|rfl|rfl|rfl:i=0∨i=1∨i=2∨i=3∨i=4∨i=5∨i=6∨i=7∨i=8∨i=9∨i=10∨i=11∨i=12∨i=13∨i=14∨i=15:=by omega
  all_goals(simp at ho;subst ho)
  ·clear hdep;have hsz:w.heap.size+2≤w'.heap.size:=by have:=hx.lt;omega
   have bb:Below w'.heap.size w' (w'.alloc (.cells #[] 2)):=(Below.refl _ _).alloc (Nat.le_refl _) _;have hK':=hK (w'.alloc (.cells #[] 2)) (.slice (some ⟨w'.heap.size,0,none⟩) 0 0) (by simpa using EmS.new 2 w' hsz) (hx.step (fun _ _ _ b h=>h.below b) 0 (by decide) _ bb (fun h=>absurd h (by decide))) (by rw[if_neg (by decide)];exact bb);clear hK bb;rw[if_pos (by rfl)];go_simp;simpa[upd] using hK'
  ·clear hdep;have hK':=hK w' (.pointer (some ⟨w.heap.size,0,none⟩)) (by simp) (hx.step (fun _ _ _ b h=>h.below b) 1 (by decide) _ (Below.refl _ _) (fun h=>absurd h (by decide))) (by rw[if_neg (by decide)];exact(Below.refl _ _));clear hK;rw[if_pos (by rfl)];go_simp;simpa[upd] using hK'
  ·have d1:t 1=.pointer (some ⟨w.heap.size,0,none⟩):=by simpa using(hdep ⟨1,.data⟩ (by simp) rfl).2
   clear hdep;have cc:w'.cell? ⟨w.heap.size,0,none⟩=some (.slice aD nD cD):=by rw[World.cell?_of_block (a:=⟨w.heap.size,0,none⟩) (w:=wb) (hx.ax.below.block _ HWB.out.p1),cell_of_row wb w.heap.size 0 _ _ _ HWB.out.p2];rfl
   have hK':=hK w' (.slice aD nD cD) (by simp) (hx.step (fun _ _ _ b h=>h.below b) 2 (by decide) _ (Below.refl _ _) (fun h=>absurd h (by decide))) (by rw[if_neg (by decide)];exact(Below.refl _ _));clear hK;rw[if_pos (by rfl)];go_simp;simpa[upd,d1] using hK'
  ·have f0:EmS (w.heap.size+2) 2 w' (t 0):=by simpa using(hdep ⟨0,.data⟩ (by simp) rfl).2
   have d2:t 2=.slice aD nD cD:=by simpa using(hdep ⟨2,.data⟩ (by simp) rfl).2
   clear hdep;have hsz:w.heap.size+2≤w'.heap.size:=by have:=hx.lt;omega
   have bw:=HBW.out.trans (hx.ax.below.mono HWB.out.p3);have hK':∀ ww v,IO (w.heap.size+2) ww v D→Below w'.heap.size w' ww→K _ ww:=fun ww v hv hb=>hK ww v (by simpa using hv) (hx.step (fun _ _ _ b h=>h.below b) 3 (by decide) _ hb (fun h=>absurd h (by decide))) (by rw[if_neg (by decide)];exact hb)
   clear hK;rw[if_pos (by rfl)];refine wp_appG 23 2 (.int .i64 0) 1 8 Tryz.infoI64 Tryz.underlying23 rfl (by decide) (by decide) w' (.tmp 3) (.tmp 5) rfl (w.heap.size+2) (t 0) rfl f0 aD nD cD D d2 (by rw[HLN.out.1,Nat.mul_one]) (HAD.out.below bw) mD hsz ?_;intro v' ww h1 h2;have hK2:=hK' ww v' (by unfold IO;rw[HLN.out.1];exact h1) h2;clear hK' h1 h2;simpa[upd,Act.put] using hK2
  ·clear hdep;have hsz:w.heap.size+2≤w'.heap.size:=by have:=hx.lt;omega
   have bb:Below w'.heap.size w' (w'.alloc (.cells #[] 2)):=(Below.refl _ _).alloc (Nat.le_refl _) _;have hK':=hK (w'.alloc (.cells #[] 2)) (.slice (some ⟨w'.heap.size,0,none⟩) 0 0) (by simpa using EmS.new 2 w' hsz) (hx.step (fun _ _ _ b h=>h.below b) 4 (by decide) _ bb (fun h=>absurd h (by decide))) (by rw[if_neg (by decide)];exact bb);clear hK bb;rw[if_pos (by rfl)];go_simp;simpa[upd] using hK'
  ·clear hdep;have hK':=hK w' (.pointer (some ⟨w.heap.size,1,none⟩)) (by simp) (hx.step (fun _ _ _ b h=>h.below b) 5 (by decide) _ (Below.refl _ _) (fun h=>absurd h (by decide))) (by rw[if_neg (by decide)];exact(Below.refl _ _));clear hK;rw[if_pos (by rfl)];go_simp;simpa[upd] using hK'
  ·have d5:t 5=.pointer (some ⟨w.heap.size,1,none⟩):=by simpa using(hdep ⟨5,.data⟩ (by simp) rfl).2
   clear hdep;have cc:w'.cell? ⟨w.heap.size,1,none⟩=some (.slice aU nU cU):=by rw[World.cell?_of_block (a:=⟨w.heap.size,1,none⟩) (w:=wb) (hx.ax.below.block _ HWB.out.p1),cell_of_row wb w.heap.size 1 _ _ _ HWB.out.p2];rfl
   have hK':=hK w' (.slice aU nU cU) (by simp) (hx.step (fun _ _ _ b h=>h.below b) 6 (by decide) _ (Below.refl _ _) (fun h=>absurd h (by decide))) (by rw[if_neg (by decide)];exact(Below.refl _ _));clear hK;rw[if_pos (by rfl)];go_simp;simpa[upd,d5] using hK'
  ·have f4:EmS (w.heap.size+2) 2 w' (t 4):=by simpa using(hdep ⟨4,.data⟩ (by simp) rfl).2
   have d6:t 6=.slice aU nU cU:=by simpa using(hdep ⟨6,.data⟩ (by simp) rfl).2
   clear hdep;have hsz:w.heap.size+2≤w'.heap.size:=by have:=hx.lt;omega
   have bw:=HBW.out.trans (hx.ax.below.mono HWB.out.p3);have hK':∀ ww v,IO (w.heap.size+2) ww v U→Below w'.heap.size w' ww→K _ ww:=fun ww v hv hb=>hK ww v (by simpa using hv) (hx.step (fun _ _ _ b h=>h.below b) 7 (by decide) _ hb (fun h=>absurd h (by decide))) (by rw[if_neg (by decide)];exact hb)
   clear hK;rw[if_pos (by rfl)];refine wp_appG 23 2 (.int .i64 0) 1 8 Tryz.infoI64 Tryz.underlying23 rfl (by decide) (by decide) w' (.tmp 7) (.tmp 9) rfl (w.heap.size+2) (t 4) rfl f4 aU nU cU U d6 (by rw[HLN.out.2.1,Nat.mul_one]) (HAU.out.below bw) mU hsz ?_;intro v' ww h1 h2;have hK2:=hK' ww v' (by unfold IO;rw[HLN.out.2.1];exact h1) h2;clear hK' h1 h2;simpa[upd,Act.put] using hK2
  ·clear hdep;have hK':=hK w' (.pointer (some ⟨w.heap.size,2,none⟩)) (by simp) (hx.step (fun _ _ _ b h=>h.below b) 8 (by decide) _ (Below.refl _ _) (fun h=>absurd h (by decide))) (by rw[if_neg (by decide)];exact(Below.refl _ _));clear hK;rw[if_pos (by rfl)];go_simp;simpa[upd] using hK'
  ·have d8:t 8=.pointer (some ⟨w.heap.size,2,none⟩):=by simpa using(hdep ⟨8,.data⟩ (by simp) rfl).2
   clear hdep;have cc:w'.cell? ⟨w.heap.size,2,none⟩=some (.int .i64 k):=by rw[World.cell?_of_block (a:=⟨w.heap.size,2,none⟩) (w:=wb) (hx.ax.below.block _ HWB.out.p1),cell_of_row wb w.heap.size 2 _ _ _ HWB.out.p2];rfl
   have hK':=hK w' (.int .i64 k) (by simp) (hx.step (fun _ _ _ b h=>h.below b) 9 (by decide) _ (Below.refl _ _) (fun h=>absurd h (by decide))) (by rw[if_neg (by decide)];exact(Below.refl _ _));clear hK;rw[if_pos (by rfl)];go_simp;simpa[upd,d8] using hK'
  ·clear hdep;have hsz:w.heap.size+2≤w'.heap.size:=by have:=hx.lt;omega
   have bb:Below w'.heap.size w' (w'.alloc (.cells #[] 70)):=(Below.refl _ _).alloc (Nat.le_refl _) _;have hK':=hK (w'.alloc (.cells #[] 70)) (.slice (some ⟨w'.heap.size,0,none⟩) 0 0) (by simpa using EmS.new 70 w' hsz) (hx.step (fun _ _ _ b h=>h.below b) 10 (by decide) _ bb (fun h=>absurd h (by decide))) (by rw[if_neg (by decide)];exact bb);clear hK bb;rw[if_pos (by rfl)];go_simp;simpa[upd] using hK'
  ·clear hdep;have hK':=hK w' (.pointer (some ⟨w.heap.size,3,none⟩)) (by simp) (hx.step (fun _ _ _ b h=>h.below b) 11 (by decide) _ (Below.refl _ _) (fun h=>absurd h (by decide))) (by rw[if_neg (by decide)];exact(Below.refl _ _));clear hK;rw[if_pos (by rfl)];go_simp;simpa[upd] using hK'
  ·have d11:t 11=.pointer (some ⟨w.heap.size,3,none⟩):=by simpa using(hdep ⟨11,.data⟩ (by simp) rfl).2
   clear hdep;have cc:w'.cell? ⟨w.heap.size,3,none⟩=some (.slice aT nT cT):=by rw[World.cell?_of_block (a:=⟨w.heap.size,3,none⟩) (w:=wb) (hx.ax.below.block _ HWB.out.p1),cell_of_row wb w.heap.size 3 _ _ _ HWB.out.p2];rfl
   have hK':=hK w' (.slice aT nT cT) (by simp) (hx.step (fun _ _ _ b h=>h.below b) 12 (by decide) _ (Below.refl _ _) (fun h=>absurd h (by decide))) (by rw[if_neg (by decide)];exact(Below.refl _ _));clear hK;rw[if_pos (by rfl)];go_simp;simpa[upd,d11] using hK'
  ·have f10:EmS (w.heap.size+2) 70 w' (t 10):=by simpa using(hdep ⟨10,.data⟩ (by simp) rfl).2
   have d12:t 12=.slice aT nT cT:=by simpa using(hdep ⟨12,.data⟩ (by simp) rfl).2
   clear hdep;have hsz:w.heap.size+2≤w'.heap.size:=by have:=hx.lt;omega
   have bw:=HBW.out.trans (hx.ax.below.mono HWB.out.p3);have hK':∀ ww v,TapO (w.heap.size+2) ww v T nT→Below w'.heap.size w' ww→K _ ww:=fun ww v hv hb=>hK ww v (by simpa using hv) (hx.step (fun _ _ _ b h=>h.below b) 13 (by decide) _ hb (fun h=>absurd h (by decide))) (by rw[if_neg (by decide)];exact hb)
   clear hK;rw[if_pos (by rfl)];refine wp_appG 24 70 (.agg #[.int .i64 0,.int .i64 0]) 2 16 Tryz.infoTap Tryz.underlying24 rfl (by decide) (by decide) w' (.tmp 13) (.tmp 15) rfl (w.heap.size+2) (t 10) rfl f10 aT nT cT T d12 HLN.out.2.2 (HAT.out.below bw) mT hsz ?_;intro v' ww h1 h2;have hK2:=hK' ww v' h1 h2;clear hK' h1 h2;simpa[upd,Act.put] using hK2
  ·have f3:IO (w.heap.size+2) w' (t 3) D:=by simpa using(hdep ⟨3,.data⟩ (by simp) rfl).2
   have f7:IO (w.heap.size+2) w' (t 7) U:=by simpa using(hdep ⟨7,.data⟩ (by simp) rfl).2
   have d9:t 9=.int .i64 k:=by simpa using(hdep ⟨9,.data⟩ (by simp) rfl).2
   have f13:TapO (w.heap.size+2) w' (t 13) T nT:=by simpa using(hdep ⟨13,.data⟩ (by simp) rfl).2
   clear hdep;obtain⟨aD',nD',cD',d3⟩:=f3.form;obtain⟨aU',nU',cU',d7⟩:=f7.form;obtain⟨aT',cT',d13⟩:=f13.tapV.slice;rw[d3] at f3;rw[d7] at f7;rw[d13] at f13;have hK':=hK w' (.agg #[.slice aD' nD' cD',.slice aU' nU' cU',.int .i64 k,.slice aT' nT cT']) (by simpa using⟨_,rfl,aD',nD',cD',aU',nU',cU',aT',cT',rfl,f3,f7,f13⟩) (hx.step (fun _ _ _ b h=>h.below b) 14 (by decide) _ (Below.refl _ _) (fun h=>absurd h (by decide))) (by rw[if_neg (by decide)];exact(Below.refl _ _));clear hK f3 f7 f13;rw[if_pos (by rfl)];go_simp;simpa[upd,d3,d7,d9,d13] using hK'
  ·have f14:CpBd (w.heap.size+2) k D U T nT w' (t 14):=by simpa using(hdep ⟨14,.data⟩ (by simp) rfl).2
   clear hdep;obtain⟨cs,e9,aD',nD',cD',aU',nU',cU',aT',cT',rfl,f3,f7,f13⟩:=f14;have hrs:=hx.pre hLi;have hK':∀ ww,Wr (w.heap.size+1) w' ww→ww.heap[w.heap.size+1]?=some (.cells #[.slice aD' nD' cD',.slice aU' nU' cU',.int .i64 k,.slice aT' nT cT'] 26 (0,0))→K _ ww:=fun ww hw hr=>hK ww undef (by simp[updK]) (hx.put HWB.out.p4 (by decide) _ hw hr ⟨aD',nD',cD',aU',nU',cU',aT',cT',rfl,f3.wr hw (by omega),f7.wr hw (by omega),f13.wrk hw (by omega)⟩) (by rw[if_pos rfl];exact hw)
   clear hK f3 f7 f13;rw[if_pos (by rfl)];refine wp_store_row 26 (.tmp 2) (.tmp 17) rfl (w.heap.size+1) _ rfl e9 26 _ hrs HSZ.out rfl (by simp[Value.oneCell']) ?_;have hK2:=hK' _ (Wr.setRow _ _ _) (setRow_heap _ _ _ _ _ _ hrs);clear hK';simpa[upd,Act.put] using hK2
 case hdone=>
  intro L t w' hx hg;have l15:L 15=true:=by simpa using hg 15 (by decide)
  clear hg;obtain⟨cs,hr,hfin⟩:=hx.fin l15;have HR9:=hdI <| hr
  have HF:Hid (CpFin w.heap.size k D U T nT w' cs∧Below w.heap.size w w'):=⟨hfin.mono (by omega),HBW.out.trans (hx.ax.below.mono HWB.out.p3)⟩
  have HS4:Hid ((Tryz.prog.info? 26).map (·.size)=some cs.size):=by
   obtain⟨aD',nD',cD',aU',nU',cU',aT',cT',e,_⟩:=hfin;rw[e];exact HSZ.out
  clear hx hr hfin;go_wp2_with fail;exact bodyPost_ret (v:=.agg cs) (results_cell_row rfl _ _ (w.heap.size+1) 26 _ (0,0) _ rfl HR9.out Tryz.underlying26 rfl HS4.out) rfl ⟨cs,rfl,HF.out.1,HF.out.2⟩
def WPV (lo:Nat) (w:World) (v:Value) (r:ApR):Prop:=
 ∃ aD nD cD aU nU cU aT nT cT,v=.agg #[.bool r.ok,.slice aD nD cD,.slice aU nU cU,.int .i64 r.k,.slice aT nT cT]∧At .i64 w aD r.D∧At .i64 w aU r.U∧At .i64 w aT r.T∧r.D.length=nD∧r.U.length=nU∧r.T.length=nT*2∧Lies lo w aD∧Lies lo w aU∧Lies lo w aT∧nT≤cT∧cT≤9223372036854775807
theorem WPV.no (lo:Nat) (w:World):WPV lo w (.agg #[.bool false,.slice none 0 0,.slice none 0 0,.int .i64 0,.slice none 0 0]) apNo:=⟨none,0,0,none,0,0,none,0,0,rfl,.inl rfl,.inl rfl,.inl rfl,rfl,rfl,rfl,fun _ h=>(by cases h),fun _ h=>(by cases h),fun _ h=>(by cases h),by decide,by decide⟩
theorem TapO.cap {B:Nat} {w:World} {a:Option Addr} {n c n':Nat} {T:List Int} (h:TapO B w (.slice a n c) T n'):n≤c∧c≤9223372036854775807:=by
 rcases h.2 with⟨h1,h2⟩|⟨g,c',cur,h1,_,_,h4,h5,_⟩
 ·cases h1;exact⟨Nat.le_refl _,by decide⟩
 ·cases h1;exact⟨h4,by unfold maxLen at h5;omega⟩
structure SX (w:World) (sc fr:Array Value) (wr:World):Prop where
 below:Below w.heap.size w wr
 sb:wr.heap[w.heap.size]?=some (.cells sc 26 (0,0))
 fb:wr.heap[w.heap.size+1]?=some (.cells fr 38 (0,0))
 rb:wr.heap[w.heap.size+2]?=some (.cells #[.bool false,.slice none 0 0,.slice none 0 0,.int .i64 0,.slice none 0 0] 42 (0,0))
theorem SX.keep {w wr w':World} {sc fr:Array Value} (h:SX w sc fr wr) (b:Below (w.heap.size+3) wr w'):SX w sc fr w':=
 ⟨h.below.trans (b.mono (by omega)),by rw[b.block _ (by omega)];exact h.sb,by rw[b.block _ (by omega)];exact h.fb,by rw[b.block _ (by omega)];exact h.rb⟩
theorem SX.lt {w wr:World} {sc fr:Array Value} (h:SX w sc fr wr):w.heap.size+3≤wr.heap.size:=(Array.getElem?_eq_some_iff.1 h.rb).1
theorem SX.call {w wr w':World} {sc fr:Array Value} (h:SX w sc fr wr) (b:Below wr.heap.size wr w'):SX w sc fr w':=h.keep (b.mono h.lt)
theorem SX.start (w:World) (sc fr:Array Value):SX w sc fr (((w.alloc (.cells sc 26)).alloc (.cells fr 38)).alloc (.cells #[.bool false,.slice none 0 0,.slice none 0 0,.int .i64 0,.slice none 0 0] 42)):=by
 have h:=IX.start w sc fr;refine⟨h.below,?_,h.fb,h.rb⟩;rw[Below.heap_alloc _ _ w.heap.size (by simp;omega),Below.heap_alloc _ _ w.heap.size (by simp)];exact heap_alloc_new w _
structure OX (w:World) (sc fr:Array Value) (O:Nat) (cs:Array Value) (wr:World):Prop where
 sx:SX w sc fr wr
 out:wr.heap[O]?=some (.cells cs 26 (0,0))
 hO:w.heap.size+3≤O
theorem OX.lt {w wr:World} {sc fr cs:Array Value} {O:Nat} (h:OX w sc fr O cs wr):O<wr.heap.size:=(Array.getElem?_eq_some_iff.1 h.out).1
theorem OX.call {w wr w':World} {sc fr cs:Array Value} {O:Nat} (h:OX w sc fr O cs wr) (b:Below wr.heap.size wr w'):OX w sc fr O cs w':=⟨h.sx.call b,by rw[b.block _ h.lt];exact h.out,h.hO⟩
theorem OX.put {w wr:World} {sc fr cs:Array Value} {O:Nat} (h:OX w sc fr O cs wr) (i:Nat) (v:Value):OX w sc fr O (cs.setIfInBounds i v) (wr.setCell ⟨O,i,none⟩ v):=by
 have hw:Wr O wr (wr.setCell ⟨O,i,none⟩ v):=(Wr.refl _ _).setCell _ _;exact⟨h.sx.keep (hw.below h.hO),heap_setCell_same _ _ _ _ _ _ h.out,h.hO⟩
def LK (lo O:Nat) (w:World) (a:Option Addr) (xs:List Int):Prop:=At .i64 w a xs∧∀ ad,a=some ad→lo≤ad.block∧ad.block≠O∧ad.block<w.heap.size
theorem LK.below {lo O:Nat} {w w':World} {a:Option Addr} {xs:List Int} (h:LK lo O w a xs) (b:Below w.heap.size w w'):LK lo O w' a xs:=⟨h.1.below b,fun ad e=>by have:=h.2 ad e;have:=b.size;omega⟩
theorem LK.wr {lo O:Nat} {w w':World} {a:Option Addr} {xs:List Int} (h:LK lo O w a xs) (hw:Wr O w w'):LK lo O w' a xs:=
 ⟨h.1.keepT (by rw[hw.size];exact Nat.le_refl _) (fun ad e _=>hw.block _ (h.2 ad e).2.1),fun ad e=>by rw[hw.size];exact h.2 ad e⟩
theorem LK.grown {lo O:Nat} {w w':World} {a:Option Addr} {xs:List Int} {row:Option Nat} (h:LK lo O w a xs) (hg:w.grownBy w' row) (hne:∀ ad,a=some ad→some ad.block≠row):LK lo O w' a xs:=
 ⟨h.1.keepT hg.size (fun ad e hl=>hg.block _ hl (hne ad e)),fun ad e=>by have:=h.2 ad e;have:=hg.size;omega⟩
theorem At.wrR {lo O R:Nat} {w w':World} {a:Option Addr} {xs:List Int} (h:At .i64 w a xs) (hw:Wr R w w') (h2:∀ ad,a=some ad→lo≤ad.block∧ad.block≠O∧ad.block<w.heap.size) (hR:R<lo:=by omega):At .i64 w' a xs:=
 h.keepT (by rw[hw.size];exact Nat.le_refl _) (fun ad e _=>hw.block _ (by have:=(h2 ad e).1;omega))
theorem IO.lk {lo O B:Nat} {w:World} {a:Option Addr} {n c:Nat} {xs:List Int} (h:IO B w (.slice a n c) xs) (hB:lo≤B) (hO:O<B∨w.heap.size≤O):LK lo O w a xs:=by
 obtain⟨h1,h2,h3⟩:=h.sat;exact⟨h1.at_,fun ad e=>by have:=h3 ad e;omega⟩
theorem TapO.lk {lo O B:Nat} {w:World} {a:Option Addr} {n c:Nat} {T:List Int} (h:TapO B w (.slice a n c) T n) (hB:lo≤B) (hO:O<B∨w.heap.size≤O):LK lo O w a T:=by
 obtain⟨h1,h2,h3⟩:=h.tapV.sat;exact⟨h1.at_,fun ad e=>by have:=h3 ad e;omega⟩
theorem io_tap {B B':Nat} {w:World} {a a':Option Addr} {n c n' c':Nat} {xs T:List Int} (h:IO B w (.slice a n c) xs) (h':TapO B' w (.slice a' n' c') T n'):∀ ad,a=some ad→some ad.block≠(Value.slice a' n' c').ownBlock:=by
 intro ad e he;rcases h.2 with⟨h1,_⟩|⟨g,cap,cur,h1,_,hh,_⟩
 ·cases h1;cases e
 ·cases h1;cases e;rcases h'.2 with⟨h2,_⟩|⟨g',cap',cur',h2,_,hh',_⟩
  ·cases h2;simp[Value.ownBlock] at he
  ·cases h2;simp[Value.ownBlock] at he;subst he;rw[hh] at hh';injection hh' with e1
   injection e1 with _ e2 _
   exact absurd e2 (by decide)
theorem apR_tap {D U:List Int} {k:Int} {T:List Int} {n a b:Nat} (h:a<256∧¬ (a:Int)∈U∧¬ (a:Int)∈D):apR D U k T n 1 a b=⟨true,D,withS U a,k,T++[(a:Int),(b:Int)],n+1⟩:=by unfold apR;rw[if_pos rfl,if_pos h]
theorem apR_tapNo {D U:List Int} {k:Int} {T:List Int} {n a b:Nat} (h:¬ (a<256∧¬ (a:Int)∈U∧¬ (a:Int)∈D)):apR D U k T n 1 a b=apNo:=by unfold apR;rw[if_pos rfl,if_neg h]
theorem apR_add {D U:List Int} {k:Int} {T:List Int} {n a:Nat} (h:a<256∧¬ (a:Int)∈D∧¬ D.length=16):apR D U k T n 2 a 1=⟨true,withS D a,U,k,T,n⟩:=by unfold apR;rw[if_neg (by decide),if_pos rfl,if_pos ⟨rfl,h⟩]
theorem apR_rem {D U:List Int} {k:Int} {T:List Int} {n a:Nat} (h:a<256∧(a:Int)∈D):apR D U k T n 2 a 0=⟨true,lessS D a,U,k,T,n⟩:=by unfold apR;rw[if_neg (by decide),if_pos rfl,if_neg (fun h=>by cases h.1),if_pos ⟨rfl,h⟩]
theorem apR_denyNo {D U:List Int} {k:Int} {T:List Int} {n a b:Nat} (h:¬ (b=1∧a<256∧¬ (a:Int)∈D∧¬ D.length=16)) (h':¬ (b=0∧a<256∧(a:Int)∈D)):apR D U k T n 2 a b=apNo:=by unfold apR;rw[if_neg (by decide),if_pos rfl,if_neg h,if_neg h']
theorem apR_ack {D U:List Int} {k:Int} {T:List Int} {n a:Nat} (h:(a:Int)≤k+n):apR D U k T n 3 a 0=⟨true,D,U,max a k,T.drop (ackM k a*2),n-ackM k a⟩:=by unfold apR;rw[if_neg (by decide),if_neg (by decide),if_pos rfl,if_pos ⟨rfl,h⟩]
theorem apR_ackNo {D U:List Int} {k:Int} {T:List Int} {n a b:Nat} (h:¬ (b=0∧(a:Int)≤k+n)):apR D U k T n 3 a b=apNo:=by unfold apR;rw[if_neg (by decide),if_neg (by decide),if_pos rfl,if_neg h]
theorem apR_other {D U:List Int} {k:Int} {T:List Int} {n a b:Nat} {kind:Int} (h1:¬ kind=1) (h2:¬ kind=2) (h3:¬ kind=3):apR D U k T n kind a b=apNo:=by unfold apR;rw[if_neg h1,if_neg h2,if_neg h3]
end Go.Proofs.YtncomnkdlpoelaaGreatDoor
