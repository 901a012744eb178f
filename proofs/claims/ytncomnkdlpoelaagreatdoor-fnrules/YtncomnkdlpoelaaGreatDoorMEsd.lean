import Derived.Test.YtncomnkdlpoelaaGreatDoorMCatC
import Derived.Test.YtncomnkdlpoelaaGreatDoorMCatZ
import Derived.Test.YtncomnkdlpoelaaGreatDoorMMuM
import Derived.Test.YtncomnkdlpoelaaGreatDoorMShK
import Derived.Test.YtncomnkdlpoelaaGreatDoorMINofS
import Derived.Test.YtncomnkdlpoelaaGreatDoorMBase
import Derived.Test.YtncomnkdlpoelaaGreatDoorMCatF
namespace Go.Proofs.YtncomnkdlpoelaaGreatDoor
open Go.ChangeShapes Go.WideShapes Go.ChangeAt Go.RowKit
set_option linter.unusedVariables false
theorem WrG.bel {g:Nat} {w wr w':World} (h:WrG g w wr) (hb:Below w.heap.size wr w'):WrG g w w':=
 ⟨hb.os.trans h.os,hb.tape.trans h.tape,hb.output.trans h.output,Nat.le_trans h.size hb.size,fun k hk hg=>(hb.block k hk).trans (h.block k hk hg)⟩
theorem CurB.keepE {w w':World} {g:Nat} {x:Option Addr} {n cap:Nat} (h:CurB w g x n cap) (hb:w'.heap[g]?=w.heap[g]?):CurB w' g x n cap:=by
 obtain⟨i0,h0,p1,p2,p3,p4,p5⟩:=h;exact⟨i0,h0,p1,p2,p3,p4,by rw[hb];exact p5⟩
theorem Own.keepE {w w':World} {B:Nat} {v:Value} {zs:List Int} (h:Own w B v zs) (hk:∀ k,B≤k→k<w.heap.size→w'.heap[k]?=w.heap[k]?):Own w' B v zs:=by
 refine⟨⟨h.1.1,?_⟩,h.2⟩;rcases h.1.2 with h'|⟨g',c',cur,h',hBg,hh,r⟩
 ·exact .inl h'
 ·exact .inr ⟨g',c',cur,h',hBg,by rw[hk g' hBg (Array.getElem?_eq_some_iff.1 hh).1];exact hh,r⟩
theorem Own.monoE {w:World} {B B':Nat} {v:Value} {zs:List Int} (h:Own w B v zs) (hB:B'≤B):Own w B' v zs:=by
 refine⟨⟨h.1.1,?_⟩,h.2⟩;rcases h.1.2 with h'|⟨g',c',cur,h',hBg,hh,r⟩
 ·exact .inl h'
 ·exact .inr ⟨g',c',cur,h',Nat.le_trans hB hBg,hh,r⟩
theorem byte_app1 {zs:List Int} (hz:Byte zs) {x:Int} (hx:0≤x∧x<256):Byte (zs++[x]):=fun v hv=>by
 rcases List.mem_append.1 hv with h|h
 ·exact hz v h
 ·rw[List.mem_singleton] at h;rw[h];exact hx
theorem hid_ofE {p:Prop} (h:p):Hid p:=h
theorem Own.setE {w:World} {B g c n:Nat} {zs:List Int} (hn:zs.length=n) (h:Own w B (.slice (some ⟨g,0,none⟩) n c) zs) (i:Nat) (x:Int) (hi:i<n) :
  w.cell? ⟨g,i,none⟩=some (.int .u8 (zs.getD i 0))∧w.frozen? ⟨g,i,none⟩=false∧Own (w.setCell ⟨g,i,none⟩ (.int .u8 x)) B (.slice (some ⟨g,0,none⟩) n c) (zs.set i x):=by
 subst hn;refine⟨?_,h.1.frozenAt i,?_,?_⟩
 ·rw[h.1.cellAt i (by omega)];simp[hi]
 ·have:=(h.1.stored i (.int .u8 x)).1;rw[←List.map_set] at this;rw[List.length_set];exact this
 ·rw[List.length_set];exact⟨_,_,rfl⟩
theorem byte_setE {zs:List Int} (hz:Byte zs) (i:Nat) {y:Int} (hy:0≤y∧y<256):Byte (zs.set i y):=fun v hv=>by
 rcases List.mem_or_eq_of_mem_set hv with h|h
 ·exact hz v h
 ·rw[h];exact hy
theorem below_setE {w:World} {B q i:Nat} {v:Value} (h:B≤q):Below B w (w.setCell ⟨q,i,none⟩ v):=
 ⟨rfl,rfl,rfl,by simp only[World.setCell,Array.size_modify];exact Nat.le_refl _,fun k hk=>heap_setCell_other _ _ _ _ (by show k≠q;omega)⟩
theorem getD_byteE {zs:List Int} (hz:Byte zs) (i:Nat):0≤zs.getD i 0∧zs.getD i 0<256:=by
 by_cases h:i<zs.length
 ·rw[show zs.getD i 0=zs[i] from by simp[h]];exact hz _ (List.getElem_mem h)
 ·rw[show zs.getD i 0=0 from by simp[h]];decide
set_option maxHeartbeats 1000000 in
theorem scOf_any (x:Int) (w:World) (hx0:0≤x) (hx1:x≤1000) :
  Calls Tryz.prog 37 #[.int .i64 x] w (fun e w'=>∃ v zs,e=.returned v∧Own w' w.heap.size v zs∧Byte zs∧zs.length=32∧val 256 zs=x∧Below w.heap.size w w'):=by
 go_enter Tryz.func37,Tryz.ntmps37;go_wp2
 go_loopw [3] (fun v wr=>∃ k:Nat,k≤30∧Own wr w.heap.size v ([x%256,x/256%256]++List.replicate k 0)∧Below w.heap.size w wr) (fun v _=>match v with|.slice _ n _=>32-n|_=>0)
 case atStart=>exact⟨0,by omega,Own.lit w _ [x%256,x/256%256] (Nat.le_refl _) (by simp),(Below.refl _ _).alloc (Nat.le_refl _) _⟩
 case round=>
  obtain⟨k,hk,hown,hbel⟩:=hrel;obtain⟨gq,c,rfl,hq1,hq2,hq3⟩:=hown.base;have hlen:([x%256,x/256%256]++List.replicate k 0).length=k+2:=by simp
  rw[hlen] at hown ⊢;have hsz:=hbel.size;by_cases hlt:k<30
  ·have hlt':((k+2:Nat):Int)<32:=by omega
   go_wp2_with (at_builtin;refine wpList_app _ rfl _ _ rfl w.heap.size _ _ rfl (hown.alloc _) ⟨wr.heap.size,0,none⟩ 1 1 [0] rfl rfl ?c1 ?c2 ?c3 ?_);all_goals first|(intro j hj;obtain rfl:j=0:=by omega
                                                                                                                                                                     simp[Addr.add];done)|skip
   case c2=>simp;omega
   case c3=>first|omega|(rw[World.size_alloc];omega)
   intro v' w1 hown' hbel' _;have HO:Hid (Own w1 w.heap.size v' ([x%256,x/256%256]++List.replicate (k+1) 0)):=by rw[List.replicate_succ',←List.append_assoc];exact hown'
   have HB:Hid (Below w.heap.size w w1):=(hbel.alloc (by omega) _).trans hbel';clear hown hown' hbel hbel';go_wp2;go_roundw
   case rel=>exact⟨k+1,by omega,HO.out,HB.out⟩
   case measure=>
    obtain⟨gq',c',rfl,_⟩:=HO.out.base;simp;omega
  ·have hkn:k=30:=by omega
   subst hkn;go_wp2
   go_ret
   refine⟨_,_,rfl,hown,?_,rfl,?_,hbel⟩
   ·intro v hv;rcases List.mem_append.1 hv with h|h
    ·simp at h;omega
    ·rw[List.mem_replicate] at h;omega
   ·rw[show(30:Nat)=30 from rfl];simp[val,List.replicate];omega
theorem word_bit (ns:List Int) (hw:Wrd ns) (i:Nat):ns.getD (i/64) 0/2^(i%64)%2=val 18446744073709551616 ns/2^i%2:=by
 have hd:=val_digit (B:=18446744073709551616) (by decide) hw (i/64);rw[←hd];generalize val 18446744073709551616 ns=V;have e1:(18446744073709551616:Int)^(i/64)=2^(64*(i/64)):=by rw[Int.pow_mul];rfl
 have e2:(2:Int)^i=2^(64*(i/64))*2^(i%64):=by rw[←Int.pow_add];congr 1;omega
 have hp:(0:Int)≤2^(64*(i/64)):=Int.le_of_lt (Int.pow_pos (by decide));rw[e1,e2,←Int.ediv_ediv_of_nonneg hp];generalize V/2^(64*(i/64))=U;have e3:(18446744073709551616:Int)=2^(i%64)*2^(64-i%64):=by
  rw[←Int.pow_add,show i%64+(64-i%64)=64 by omega];rfl
 have h1:0<64-i%64:=by omega
 rw[e3];have hq:(0:Int)<2^(i%64):=Int.pow_pos (by decide);rw[Int.emod_def U,Int.mul_assoc,Int.sub_eq_add_neg,←Int.mul_neg,Int.add_mul_ediv_left _ _ (by omega)];obtain⟨m,hm⟩:∃ m,64-i%64=m+1:=⟨63-i%64,by omega⟩
 rw[hm,Int.pow_succ];generalize U/2^(i%64)=A;generalize U/(2^(i%64)*(2^m*2))=B;rw[show -(2^m*2*B)=2*(-(2^m*B)) by grind,Int.add_mul_emod_self_left]
set_option maxHeartbeats 1000000 in
theorem bit_any (g:Nat) (ns:List Int) (i:Nat) (w:World) (hl:ns.length=4) (hi:i<256) (hr:RowW w g 146 ns) (hw:Wrd ns) :
  Calls Tryz.prog 121 #[.pointer (some ⟨g,0,none⟩),.int .i64 i] w fun e w'=>e=.returned (.int .u64 (val 18446744073709551616 ns/2^i%2))∧w'=w:=by
 have c3:=hr.cell (i/64) (by omega);obtain⟨h0,h1⟩:=hw.get (i/64);have HB:=hdI <| word_bit ns hw i
 have hp:(0:Int)<2^(i%64):=Int.pow_pos (by decide);have HA:Hid (bits .and .u64 (ns.getD (i/64) 0/2^(i%64)) 1=ns.getD (i/64) 0/2^(i%64)%2):=by
  have q0:0≤ns.getD (i/64) 0/2^(i%64):=Int.ediv_nonneg h0 (by omega);have q1:ns.getD (i/64) 0/2^(i%64)≤ns.getD (i/64) 0:=Int.ediv_le_self _ h0;exact u64_and_mask _ 1 q0 (by omega) 1 (by decide) (by decide)
 have hlt:(i:Int)/64<4:=by omega
 have hi':(i:Int)<256:=by omega
 clear hr hw hl hp;generalize ns.getD (i/64) 0=x at *;go_enter Tryz.func121,Tryz.ntmps121;go_wp2;rw[HA.out,HB.out]
 go_ret
 exact⟨rfl,rfl⟩
theorem AddP.q4 {w:World} {g:Nat} {X1 Y1 Z1 T1 X2 Y2 Z2 T2:Int} {e:Ending} {w':World} (h:AddP w g X1 Y1 Z1 T1 X2 Y2 Z2 T2 e w') :
  ∃ x y z t,Pt w' g x y z t∧WrH g w w'∧e=.returned (.tuple #[])∧((ev x,ev y,ev z,ev t):Q4)=F4 (X1,Y1,Z1,T1) (X2,Y2,Z2,T2):=by
 obtain⟨x,y,z,t,h1,h2,h3,h4,h5,h6,h7⟩:=h;exact⟨x,y,z,t,h1,h2,h3,by rw[h4,h5,h6,h7];rfl⟩
theorem Pt.wrh2 {w w':World} {g V:Nat} {x y z t:List Int} (h:Pt w g x y z t) (hw:WrH V w w') (hne:g≠V):Pt w' g x y z t:=⟨hw.rowW h.row hne,h.x,h.y,h.z,h.t⟩
def MulP (w:World) (g:Nat) (Q:Q4) (e:Ending) (w':World):Prop:=
 ∃ x y z t,Pt w' g x y z t∧WrH g w w'∧e=.returned (.tuple #[])∧((ev x,ev y,ev z,ev t):Q4)=Q
structure MuS (w:World) (g:Nat) (x y z t ns:List Int) (Q:Q4) (wr:World):Prop where
 below:Below w.heap.size w wr
 num:RowW wr w.heap.size 146 ns
 pt:Pt wr g x y z t
 lt:g<w.heap.size
 sum:∃ a b c d,Pt wr (w.heap.size+1+1) a b c d∧((ev a,ev b,ev c,ev d):Q4)=Q
theorem ev_id:((ev [0,0,0,0,0],ev [1,0,0,0,0],ev [1,0,0,0,0],ev [0,0,0,0,0]):Q4)=idQ:=by decide
theorem heap_third (w:World) (o1 o2 o3:Obj):(((w.alloc o1).alloc o2).alloc o3).heap[w.heap.size+1+1]?=some o3:=by
 have:=heap_alloc_new ((w.alloc o1).alloc o2) o3
 rwa [show((w.alloc o1).alloc o2).heap.size=w.heap.size+1+1 by simp] at this
def z20:List Int:=[0,0,0,0,0,0,0,0,0,0,0,0,0,0,0,0,0,0,0,0]
theorem one_ok2:EOk [1,0,0,0,0]:=one_ok
theorem Tryz.sizePoint2:(Tryz.prog.info? 143).map (·.size)=some 20:=by kernel_rfl
set_option maxRecDepth 100000 in
set_option maxHeartbeats 4000000 in
theorem multiply_gen (S:Nat→Q4) (g:Nat) (x y z t ns:List Int) (w:World) (hp:Pt w g x y z t) (hl:ns.length=4) (hw:Wrd ns) (hS0:Hid (S 0=idQ))
  (hSs:Hid (∀ n,S (n+1)=bif vbit (val 18446744073709551616 ns) (255-n) then F4 (F4 (S n) (S n)) (ev x,ev y,ev z,ev t) else F4 (S n) (S n))) :
  Calls Tryz.prog 105 #[.pointer (some ⟨g,0,none⟩),.agg (ns.map (Value.int .u64)).toArray] w (MulP w g (S 256)):=by
 match ns,hl with
 |[n0,n1,n2,n3],_=>
 have HB:Hid (Below w.heap.size w (((w.alloc (.cells #[.int .u64 n0,.int .u64 n1,.int .u64 n2,.int .u64 n3] 146)).alloc (.cells #[.int .u64 1,.int .u64 0,.int .u64 0,.int .u64 0,.int .u64 0] 141)).alloc (.cells #[.int .u64 0,.int .u64 0,.int .u64 0,.int .u64 0,.int .u64 0,.int .u64 0,.int .u64 0,.int .u64 0,.int .u64 0,.int .u64 0,.int .u64 0,.int .u64 0,.int .u64 0,.int .u64 0,.int .u64 0,.int .u64 0,.int .u64 0,.int .u64 0,.int .u64 0,.int .u64 0] 143))):=(((Below.refl _ _).alloc (Nat.le_refl _) _).alloc (by simp) _).alloc (by simp;omega) _;have HNR:Hid (RowW (((w.alloc (.cells #[.int .u64 n0,.int .u64 n1,.int .u64 n2,.int .u64 n3] 146)).alloc (.cells #[.int .u64 1,.int .u64 0,.int .u64 0,.int .u64 0,.int .u64 0] 141)).alloc (.cells #[.int .u64 0,.int .u64 0,.int .u64 0,.int .u64 0,.int .u64 0,.int .u64 0,.int .u64 0,.int .u64 0,.int .u64 0,.int .u64 0,.int .u64 0,.int .u64 0,.int .u64 0,.int .u64 0,.int .u64 0,.int .u64 0,.int .u64 0,.int .u64 0,.int .u64 0,.int .u64 0] 143)) w.heap.size 146 [n0,n1,n2,n3]):=by
  show _=_
  rw[Below.heap_alloc _ _ w.heap.size (by simp;omega),Below.heap_alloc _ _ w.heap.size (by simp)];exact heap_alloc_new w _
 have HZR:Hid (RowW (((w.alloc (.cells #[.int .u64 n0,.int .u64 n1,.int .u64 n2,.int .u64 n3] 146)).alloc (.cells #[.int .u64 1,.int .u64 0,.int .u64 0,.int .u64 0,.int .u64 0] 141)).alloc (.cells #[.int .u64 0,.int .u64 0,.int .u64 0,.int .u64 0,.int .u64 0,.int .u64 0,.int .u64 0,.int .u64 0,.int .u64 0,.int .u64 0,.int .u64 0,.int .u64 0,.int .u64 0,.int .u64 0,.int .u64 0,.int .u64 0,.int .u64 0,.int .u64 0,.int .u64 0,.int .u64 0] 143)) (w.heap.size+1+1) 143 z20):=heap_third w _ _ _;have HER:Hid (EAt ((w.alloc (.cells #[.int .u64 n0,.int .u64 n1,.int .u64 n2,.int .u64 n3] 146)).alloc (.cells #[.int .u64 1,.int .u64 0,.int .u64 0,.int .u64 0,.int .u64 0] 141)) (w.heap.size+1) 0 [1,0,0,0,0]):=by
  have r:RowW ((w.alloc (.cells #[.int .u64 n0,.int .u64 n1,.int .u64 n2,.int .u64 n3] 146)).alloc (.cells #[.int .u64 1,.int .u64 0,.int .u64 0,.int .u64 0,.int .u64 0] 141)) (w.heap.size+1) 141 [1,0,0,0,0]:=by
   have:=heap_alloc_new (w.alloc (.cells #[.int .u64 n0,.int .u64 n1,.int .u64 n2,.int .u64 n3] 146)) (.cells #[.int .u64 1,.int .u64 0,.int .u64 0,.int .u64 0,.int .u64 0] 141)
   rwa [show(w.alloc (.cells #[.int .u64 n0,.int .u64 n1,.int .u64 n2,.int .u64 n3] 146)).heap.size=w.heap.size+1 by simp] at this
  exact EAt.of_row r one_ok2
 have HPT:=hdI <| hp
 have HWD:=hdI <| hw
 clear hp hw;simp only[List.map_cons,List.map_nil];go_enter Tryz.func105,Tryz.ntmps105;go_wp2_with (first
  |(refine wpList_loadE rfl (.tmp 4) rfl (w.heap.size+1) 0 [1,0,0,0,0] rfl HER.out ?_)
  |(refine wpList_storeP rfl (.tmp 5) (.tmp 10) rfl (w.heap.size+1+1) [0,0,0,0,0] [1,0,0,0,0] [1,0,0,0,0] [0,0,0,0,0] z20 rfl rfl zero_ok one_ok2 one_ok2 zero_ok rfl HZR.out ?_)
  |fail)
 intro w0 hp0 hw0;have HS:Hid (MuS w g x y z t [n0,n1,n2,n3] (S 0) w0):=by
  have b0:=HB.out.trans (hw0.below (by omega));exact⟨b0,hw0.rowW HNR.out (by omega),HPT.out.below b0 HPT.out.row.lt,HPT.out.row.lt,[0,0,0,0,0],[1,0,0,0,0],[1,0,0,0,0],[0,0,0,0,0],hp0,by rw[hS0.out];exact ev_id⟩
 clear hp0 hw0 HB HNR HZR HER;go_wp2_with fail
 go_loopw [6] (fun i wr=>∃ j:Nat,j≤256∧i=.int .i64 ((j:Int)-1)∧MuS w g x y z t [n0,n1,n2,n3] (S (256-j)) wr) (fun i _=>(intOf i+1).toNat)
 case atStart=>exact⟨256,Nat.le_refl _,by go_num,by rw[Nat.sub_self];exact HS.out⟩
 case round=>
  clear HS;obtain⟨j,hj,rfl,hst⟩:=hrel;by_cases hj0:0<j
  ·obtain⟨i,rfl⟩:∃ i,j=i+1:=⟨j-1,by omega⟩
   have ei:((i+1:Nat):Int)-1=(i:Int):=by omega
   rw[ei];clear ei;obtain⟨hbel,hnum,hpt,hlt,a,b,c,d,hsum,hq⟩:=hst;have HST:Hid (Below w.heap.size w wr∧RowW wr w.heap.size 146 [n0,n1,n2,n3]∧Pt wr g x y z t∧g<w.heap.size∧Pt wr (w.heap.size+1+1) a b c d∧((ev a,ev b,ev c,ev d):Q4)=S (256-(i+1))):=⟨hbel,hnum,hpt,hlt,hsum,hq⟩
   clear hbel hnum hpt hlt hsum hq;go_wp2_with fail;refine(add_any (w.heap.size+1+1) (w.heap.size+1+1) a b c d a b c d _ HST.out.2.2.2.2.1 HST.out.2.2.2.2.1).mono ?_;intro e w2 h2;obtain⟨a2,b2,c2,d2,p2,hw2,rfl,q2⟩:=h2.q4;obtain⟨s1,s2,s3,s4,s5,s6⟩:=HST.out;have HST2:Hid (Below w.heap.size w w2∧RowW w2 w.heap.size 146 [n0,n1,n2,n3]∧Pt w2 g x y z t∧g<w.heap.size∧Pt w2 (w.heap.size+1+1) a2 b2 c2 d2∧((ev a2,ev b2,ev c2,ev d2):Q4)=F4 (S (256-(i+1))) (S (256-(i+1)))):=
    ⟨s1.trans (hw2.below w.heap.size (by omega) s1.size),hw2.rowW s2 (by omega),s3.wrh2 hw2 (by omega),s4,p2,by rw[q2,s6]⟩
   clear h2 p2 hw2 q2 s1 s2 s3 s4 s5 s6 HST;go_wp2_with fail;refine(bit_any w.heap.size [n0,n1,n2,n3] i _ rfl (by omega) HST2.out.2.1 HWD.out).mono ?_;rintro e w3 ⟨rfl,rfl⟩;have hv:val 18446744073709551616 [n0,n1,n2,n3]/2^i%2=0∨val 18446744073709551616 [n0,n1,n2,n3]/2^i%2=1:=by omega
   have en:256-i=256-(i+1)+1:=by omega
   have en2:255-(256-(i+1))=i:=by omega
   rcases hv with hv|hv
   ·have hvb:vbit (val 18446744073709551616 [n0,n1,n2,n3]) i=false:=by unfold vbit;rw[hv];rfl
    have HN:Hid (MuS w g x y z t [n0,n1,n2,n3] (S (256-i)) w3):=by
     obtain⟨s1,s2,s3,s4,s5,s6⟩:=HST2.out;refine⟨s1,s2,s3,s4,a2,b2,c2,d2,s5,?_⟩;rw[s6,en,hSs.out,en2,hvb];rfl
    rw[hv];clear hv HST2 en en2 hvb;go_wp2;go_roundw
    case rel=>exact⟨i,by omega,by go_num,HN.out⟩
    case measure=>simp[intOf]
   ·have hvb:vbit (val 18446744073709551616 [n0,n1,n2,n3]) i=true:=by unfold vbit;rw[hv];rfl
    rw[hv];clear hv;go_wp2_with fail;refine(add_any (w.heap.size+1+1) g a2 b2 c2 d2 x y z t _ HST2.out.2.2.2.2.1 HST2.out.2.2.1).mono ?_;intro e w4 h4;obtain⟨a4,b4,c4,d4,p4,hw4,rfl,q4⟩:=h4.q4;have HN:Hid (MuS w g x y z t [n0,n1,n2,n3] (S (256-i)) w4):=by
     obtain⟨s1,s2,s3,s4,s5,s6⟩:=HST2.out;refine⟨s1.trans (hw4.below w.heap.size (by omega) s1.size),hw4.rowW s2 (by omega),s3.wrh2 hw4 (by omega),s4,a4,b4,c4,d4,p4,?_⟩;rw[q4,s6,en,hSs.out,en2,hvb];rfl
    clear HST2 en en2 hvb h4 p4 hw4 q4;go_wp2;go_roundw
    case rel=>exact⟨i,by omega,by go_num,HN.out⟩
    case measure=>simp[intOf]
  ·have hj00:j=0:=by omega
   subst hj00;obtain⟨hbel,hnum,hpt,hlt,a,b,c,d,hsum,hq⟩:=hst;rw[Nat.sub_zero] at hq;have HL:=hdI <| hsum.row
   have HPX:Hid ((pl x y z t).length=20):=by show _=_;unfold pl;simp[HPT.out.x.1,HPT.out.y.1,HPT.out.z.1,HPT.out.t.1]
   have HSZ:Hid ((Tryz.prog.info? 143).map (·.size)=some ((pl a b c d).map (Value.int .u64)).toArray.size):=by
    show _=_
    rw[Tryz.sizePoint2];unfold pl;simp[hsum.x.1,hsum.y.1,hsum.z.1,hsum.t.1]
   have HOK:Hid (EOk a∧EOk b∧EOk c∧EOk d):=⟨hsum.x,hsum.y,hsum.z,hsum.t⟩
   have HPR:=hdI <| hpt.row
   have HFF:Hid (Below w.heap.size w wr∧((ev a,ev b,ev c,ev d):Q4)=S 256):=⟨hbel,hq⟩
   clear hbel hnum hpt hsum hq;go_wp2_with (first
    |(refine wpList_load_row rfl 143 (.tmp 5) rfl (w.heap.size+1+1) rfl 143 _ (0,0) _ HL.out Tryz.underlying143 rfl HSZ.out ?_)
    |(refine wpList_storeP rfl (.tmp 23) (.tmp 22) rfl g a b c d _ rfl rfl HOK.out.1 HOK.out.2.1 HOK.out.2.2.1 HOK.out.2.2.2 HPX.out HPR.out ?_)
    |fail)
   intro w5 hp5 hw5;have HF:Hid (MulP w g (S 256) (.returned (.tuple #[])) w5):=
    ⟨a,b,c,d,hp5,(WrH.of_below HFF.out.1).trans hw5.wrH,rfl,HFF.out.2⟩
   clear hp5 hw5 HFF HPR HOK HSZ HPX HL;go_wp2
   go_end0
   exact HF.out
theorem multiply_any (g:Nat) (x y z t ns:List Int) (w:World) (hp:Pt w g x y z t) (hl:ns.length=4) (hw:Wrd ns) :
  Calls Tryz.prog 105 #[.pointer (some ⟨g,0,none⟩),.agg (ns.map (Value.int .u64)).toArray] w (MulP w g (pS (val 18446744073709551616 ns) (ev x,ev y,ev z,ev t) 256)):=
 multiply_gen (pS (val 18446744073709551616 ns) (ev x,ev y,ev z,ev t)) g x y z t ns w hp hl hw rfl (fun _=>rfl)
theorem byte_bit (ks:List Int) (hw:Byte ks) (i:Nat):ks.getD (i/8) 0/2^(i%8)%2=val 256 ks/2^i%2:=by
 have hd:=val_digit (B:=256) (by decide) (fun z hz=>hw z hz) (i/8);rw[←hd];generalize val 256 ks=V;have e1:(256:Int)^(i/8)=2^(8*(i/8)):=by rw[Int.pow_mul];rfl
 have e2:(2:Int)^i=2^(8*(i/8))*2^(i%8):=by rw[←Int.pow_add];congr 1;omega
 have hp:(0:Int)≤2^(8*(i/8)):=Int.le_of_lt (Int.pow_pos (by decide));rw[e1,e2,←Int.ediv_ediv_of_nonneg hp];generalize V/2^(8*(i/8))=U;have e3:(256:Int)=2^(i%8)*2^(8-i%8):=by
  rw[←Int.pow_add,show i%8+(8-i%8)=8 by omega];rfl
 have h1:0<8-i%8:=by omega
 rw[e3];have hq:(0:Int)<2^(i%8):=Int.pow_pos (by decide);rw[Int.emod_def U,Int.mul_assoc,Int.sub_eq_add_neg,←Int.mul_neg,Int.add_mul_ediv_left _ _ (by omega)];obtain⟨m,hm⟩:∃ m,8-i%8=m+1:=⟨7-i%8,by omega⟩
 rw[hm,Int.pow_succ];generalize U/2^(i%8)=A;generalize U/(2^(i%8)*(2^m*2))=B;rw[show -(2^m*2*B)=2*(-(2^m*B)) by grind,Int.add_mul_emod_self_left]
theorem FeA.lt {w:World} {g:Nat} {x:Int} (h:FeA w (some ⟨g,0,none⟩) x):g<w.heap.size:=by
 obtain⟨zs,h1,h2,h3⟩:=h;obtain⟨b,o,e,hb,hc⟩:=h1.get (by have:=h2.1;omega);cases e;exact hb
def OutS (B:Nat) (wr:World) (G:Nat) (Q:Q4):Prop:=
 ∃ h0 k0 h1 k1 h2 k2 h3 k3,PtW wr G #[.slice (some ⟨h0,0,none⟩) 16 k0,.slice (some ⟨h1,0,none⟩) 16 k1,.slice (some ⟨h2,0,none⟩) 16 k2,.slice (some ⟨h3,0,none⟩) 16 k3]∧FeA wr (some ⟨h0,0,none⟩) Q.1∧FeA wr (some ⟨h1,0,none⟩) Q.2.1∧FeA wr (some ⟨h2,0,none⟩) Q.2.2.1∧FeA wr (some ⟨h3,0,none⟩) Q.2.2.2∧(h0≠G∧h1≠G∧h2≠G∧h3≠G)∧(B<h0∧B<h1∧B<h2∧B<h3)
structure TmE (w:World) (pc:Array Value) (G:Nat) (wr:World):Prop where
 below:Below w.heap.size w wr
 pb:PtW wr w.heap.size pc
 rs:PtW wr (w.heap.size+1) #[.slice none 0 0,.slice none 0 0,.slice none 0 0,.slice none 0 0]
 gt:w.heap.size+1<G
theorem TmE.call {w wr w':World} {pc:Array Value} {G:Nat} (h:TmE w pc G wr) (b:Below wr.heap.size wr w'):TmE w pc G w':=
 ⟨h.below.trans (b.mono h.below.size),h.pb.below b h.pb.lt,h.rs.below b h.rs.lt,h.gt⟩
theorem PtW.wr2 {w w':World} {g V:Nat} {cs:Array Value} (h:PtW w g cs) (hw:Wr V w w') (hne:g≠V):PtW w' g cs:=by unfold PtW;rw[hw.block g hne];exact h
theorem TmE.wr {w wr w':World} {pc:Array Value} {G:Nat} (h:TmE w pc G wr) (hw:Wr G wr w'):TmE w pc G w':=
 ⟨h.below.trans (hw.below (by have:=h.gt;omega)),h.pb.wr2 hw (by have:=h.gt;omega),h.rs.wr2 hw (by have:=h.gt;omega),h.gt⟩
def TimP (w:World) (Q:Q4) (e:Ending) (w':World):Prop:=
 ∃ h0 k0 h1 k1 h2 k2 h3 k3,e=.returned (.agg #[.slice (some ⟨h0,0,none⟩) 16 k0,.slice (some ⟨h1,0,none⟩) 16 k1,.slice (some ⟨h2,0,none⟩) 16 k2,.slice (some ⟨h3,0,none⟩) 16 k3])∧FeA w' (some ⟨h0,0,none⟩) Q.1∧FeA w' (some ⟨h1,0,none⟩) Q.2.1∧FeA w' (some ⟨h2,0,none⟩) Q.2.2.1∧FeA w' (some ⟨h3,0,none⟩) Q.2.2.2∧Below w.heap.size w w'
theorem OutS.put {B:Nat} {wr w5 w6:World} {G:Nat} {P Q:Q4} {v:Value} (hG:G<wr.heap.size) (hB:B<G)
  (h:SumP wr (smA P.1 P.2.1 Q.1 Q.2.1) (smB P.1 P.2.1 Q.1 Q.2.1) (smC mdD P.2.2.2 Q.2.2.2) (smG P.2.2.1 Q.2.2.1) (.returned v) w5) :
  ∃ s0 s1 s2 s3,v=.agg #[s0,s1,s2,s3]∧(s0.oneCell'=true∧s1.oneCell'=true∧s2.oneCell'=true∧s3.oneCell'=true)∧(PtW w6 G #[s0,s1,s2,s3]→Wr G w5 w6→OutS B w6 G (F4 P Q)):=by
 obtain⟨g1,k1,g2,k2,g3,k3,g4,k4,e,f1,f2,f3,f4,b,q1,q2,q3,q4⟩:=h;cases e;refine⟨_,_,_,_,rfl,⟨rfl,rfl,rfl,rfl⟩,fun hp hw=>⟨g1,k1,g2,k2,g3,k3,g4,k4,hp,f1.wr hw (by omega),f2.wr hw (by omega),f3.wr hw (by omega),f4.wr hw (by omega),⟨by omega,by omega,by omega,by omega⟩,by omega,by omega,by omega,by omega⟩⟩
set_option maxRecDepth 100000 in
set_option maxHeartbeats 8000000 in
theorem ltimes_gen (M:Nat→Q4×Bool) (kp:Option Addr) (kc:Nat) (ks:List Int) (p0 p1 p2 p3 gd c0 c1 c2 c3 cd:Nat) (P:Q4) (w:World) (hk:ks.length=32) (hb:Byte ks) (ha:At .u8 w kp ks)
  (h0:FeA w (some ⟨p0,0,none⟩) P.1) (h1:FeA w (some ⟨p1,0,none⟩) P.2.1) (h2:FeA w (some ⟨p2,0,none⟩) P.2.2.1) (h3:FeA w (some ⟨p3,0,none⟩) P.2.2.2) (hd:FeA w (some ⟨gd,0,none⟩) mdD) (hM0:Hid (M 0=(idQ,false)))
  (hMs:Hid (∀ n Q b,M n=(Q,b)→M (n+1)=bif vbit (val 256 ks) (255-n) then(F4 (bif b then F4 Q Q else Q) P,true) else(bif b then F4 Q Q else Q,b))) :
  Calls Tryz.prog 36 #[.slice kp 32 kc,.agg #[.slice (some ⟨p0,0,none⟩) 16 c0,.slice (some ⟨p1,0,none⟩) 16 c1,.slice (some ⟨p2,0,none⟩) 16 c2,.slice (some ⟨p3,0,none⟩) 16 c3],.slice (some ⟨gd,0,none⟩) 16 cd] w (TimP w (M 256).1):=by
 have bb:Below w.heap.size w ((w.alloc (.cells #[.slice (some ⟨p0,0,none⟩) 16 c0,.slice (some ⟨p1,0,none⟩) 16 c1,.slice (some ⟨p2,0,none⟩) 16 c2,.slice (some ⟨p3,0,none⟩) 16 c3] 79)).alloc (.cells #[.slice none 0 0,.slice none 0 0,.slice none 0 0,.slice none 0 0] 79)):=((Below.refl _ _).alloc (Nat.le_refl _) _).alloc (by simp) _;have HP0:Hid (PtW ((w.alloc (.cells #[.slice (some ⟨p0,0,none⟩) 16 c0,.slice (some ⟨p1,0,none⟩) 16 c1,.slice (some ⟨p2,0,none⟩) 16 c2,.slice (some ⟨p3,0,none⟩) 16 c3] 79)).alloc (.cells #[.slice none 0 0,.slice none 0 0,.slice none 0 0,.slice none 0 0] 79)) w.heap.size #[.slice (some ⟨p0,0,none⟩) 16 c0,.slice (some ⟨p1,0,none⟩) 16 c1,.slice (some ⟨p2,0,none⟩) 16 c2,.slice (some ⟨p3,0,none⟩) 16 c3]):=by
  show _=_
  rw[Below.heap_alloc _ _ w.heap.size (by simp)];exact heap_alloc_new w _
 have HZ0:Hid (PtW ((w.alloc (.cells #[.slice (some ⟨p0,0,none⟩) 16 c0,.slice (some ⟨p1,0,none⟩) 16 c1,.slice (some ⟨p2,0,none⟩) 16 c2,.slice (some ⟨p3,0,none⟩) 16 c3] 79)).alloc (.cells #[.slice none 0 0,.slice none 0 0,.slice none 0 0,.slice none 0 0] 79)) (w.heap.size+1) #[.slice none 0 0,.slice none 0 0,.slice none 0 0,.slice none 0 0]):=by
  show _=_
  have:=heap_alloc_new (w.alloc (.cells #[.slice (some ⟨p0,0,none⟩) 16 c0,.slice (some ⟨p1,0,none⟩) 16 c1,.slice (some ⟨p2,0,none⟩) 16 c2,.slice (some ⟨p3,0,none⟩) 16 c3] 79)) (.cells #[.slice none 0 0,.slice none 0 0,.slice none 0 0,.slice none 0 0] 79);simpa using this
 have HB0:=hdI <| bb
 have HF0:=hdI <| h0
 have HF1:=hdI <| h1
 have HF2:=hdI <| h2
 have HF3:=hdI <| h3
 have HFD:=hdI <| hd
 obtain⟨kb,ko,rfl,hkb,hkc⟩:=ha.get (by omega);have HKB:=hdI <| hkb
 have HKC:Hid (∀ q,q<32→w.cell? ⟨kb,ko+q,none⟩=some (.int .u8 (ks.getD q 0))):=fun q hq=>hkc q (by omega)
 have HBY:=hdI <| hb
 have HKL:=hdI <| hk
 go_enter Tryz.func36,Tryz.ntmps36;go_wp2_with fail;generalize ((w.alloc (.cells #[.slice (some ⟨p0,0,none⟩) 16 c0,.slice (some ⟨p1,0,none⟩) 16 c1,.slice (some ⟨p2,0,none⟩) 16 c2,.slice (some ⟨p3,0,none⟩) 16 c3] 79)).alloc (.cells #[.slice none 0 0,.slice none 0 0,.slice none 0 0,.slice none 0 0] 79))=w0 at *;refine(small_any 0 _ (by decide) (by decide)).mono ?_;rintro e w1 ⟨g1,k1,rfl,hr1,_,hf,hb⟩;have hg1:w.heap.size+1<g1:=by have:=HZ0.out.lt;omega
 have HX:=hdI <| hf
 have b1:=HB0.out.trans (hb.mono HB0.out.size);have HP1:=hdI <| HP0.out.below hb HP0.out.lt
 have HZ1:=hdI <| HZ0.out.below hb HZ0.out.lt
 have HB1:=hdI <| b1
 go_wp2_with fail;refine(small_any 1 _ (by decide) (by decide)).mono ?_;rintro e w2 ⟨g2,k2,rfl,hr2,_,hf,hb⟩;have hg2:w.heap.size+1<g2:=by have:=HZ1.out.lt;omega
 have HX2:=hdI <| HX.out.below hb
 have HY2:=hdI <| hf
 have HP2:=hdI <| HP1.out.below hb HP1.out.lt
 have HZ2:=hdI <| HZ1.out.below hb HZ1.out.lt
 have HB2:=hdI <| HB1.out.trans (hb.mono HB1.out.size)
 go_wp2_with fail;refine(affine_any (some ⟨g1,0,none⟩) (some ⟨g2,0,none⟩) k1 k2 _ _ _ HX2.out HY2.out).mono ?_;rintro e w3 ⟨gz,cz,gt,ct,rfl,f3,f4,hb,hr3,hr4⟩;have hgz:w.heap.size+1<gz:=by have:=HZ2.out.lt;omega
 have hgt:w.heap.size+1<gt:=by have:=HZ2.out.lt;omega
 have HX3:Hid (FeA w3 (some ⟨g1,0,none⟩) (0%fp)∧FeA w3 (some ⟨g2,0,none⟩) (1%fp)∧FeA w3 (some ⟨gz,0,none⟩) (1%fp)∧FeA w3 (some ⟨gt,0,none⟩) (0%fp*(1%fp)%fp)):=⟨HX2.out.below hb,HY2.out.below hb,f3,f4⟩
 have HP3:=hdI <| HP2.out.below hb HP2.out.lt
 have HZ3:=hdI <| HZ2.out.below hb HZ2.out.lt
 have HB3:=hdI <| HB2.out.trans (hb.mono HB2.out.size)
 have HPN:=hdI <| PtW.new w3
 go_wp2_with (first
  |(refine wpList_storePt rfl (.tmp 7) (.tmp 12) rfl w3.heap.size _ _ _ _ _ rfl rfl rfl rfl rfl rfl rfl HPN.out ?_)
  |fail)
 intro w4 hp4 hw4;have b34:=(below_new3 _ _).trans (hw4.below (Nat.le_refl _));have HE:Hid (TmE w #[.slice (some ⟨p0,0,none⟩) 16 c0,.slice (some ⟨p1,0,none⟩) 16 c1,.slice (some ⟨p2,0,none⟩) 16 c2,.slice (some ⟨p3,0,none⟩) 16 c3] w3.heap.size w4):=⟨HB3.out.trans (b34.mono HB3.out.size),HP3.out.below b34 HP3.out.lt,HZ3.out.below b34 HZ3.out.lt,HZ3.out.lt⟩
 have HO:Hid (OutS (w.heap.size+1) w4 w3.heap.size (M 0).1):=by
  show OutS _ _ _ _
  rw[hM0.out];obtain⟨q1,q2,q3,q4⟩:=HX3.out;refine⟨g1,k1,g2,k2,gz,cz,gt,ct,hp4,?_,?_,?_,?_,⟨?_,?_,?_,?_⟩,hg1,hg2,hgz,hgt⟩
  ·exact q1.below b34
  ·exact q2.below b34
  ·exact q3.below b34
  ·exact q4.below b34
  ·have:=q1.lt;omega
  ·have:=q2.lt;omega
  ·have:=q3.lt;omega
  ·have:=q4.lt;omega
 generalize w3.heap.size=G at *;go_wp2_with fail
 go_loopw [8,9] (fun b i wr=>∃ j:Nat,j≤256∧i=.int .i64 ((j:Int)-1)∧b=.bool (M (256-j)).2∧TmE w #[.slice (some ⟨p0,0,none⟩) 16 c0,.slice (some ⟨p1,0,none⟩) 16 c1,.slice (some ⟨p2,0,none⟩) 16 c2,.slice (some ⟨p3,0,none⟩) 16 c3] G wr∧OutS (w.heap.size+1) wr G (M (256-j)).1) (fun _ i _=>(intOf i+1).toNat)
 case atStart=>exact⟨256,Nat.le_refl _,by go_num,by rw[Nat.sub_self,hM0.out],HE.out,by rw[Nat.sub_self];exact HO.out⟩
 case round=>
  obtain⟨j,hj,rfl,rfl,hE,hO⟩:=hrel;by_cases hj0:0<j
  ·obtain⟨i,rfl⟩:∃ i,j=i+1:=⟨j-1,by omega⟩
   have ei:((i+1:Nat):Int)-1=(i:Int):=by omega
   rw[ei];have en:256-i=256-(i+1)+1:=by omega
   have en2:255-(256-(i+1))=i:=by omega
   have hi8:i<256:=by omega
   generalize hM:M (256-(i+1))=mq at *;obtain⟨Q,bg⟩:=mq;simp only at hO ⊢;cases bg with
   |false=>
    have hge:¬ ((i:Int)<0):=by omega
    have cK:wr.cell? ⟨kb,ko+i/8,none⟩=some (.int .u8 (ks.getD (i/8) 0)):=by rw[hE.below.cell (p:=⟨kb,ko+i/8,none⟩) HKB.out];exact HKC.out (i/8) (by omega)
    have hx:=HBY.out.get (i/8);have HBIT:=hdI <| byte_bit ks HBY.out i
    have hlt:(i:Int)/8<32:=by omega
    have HE:=hdI <| hE
    have HO:Hid (OutS (w.heap.size+1) wr G (Q)):=hO;generalize ks.getD (i/8) 0=x at *;obtain⟨hx0,hx1⟩:=hx;have hv:(val 256 ks)/2^i%2=0∨(val 256 ks)/2^i%2=1:=by omega
    have hpp:(0:Int)<2^(i%8):=Int.pow_pos (by decide);have hy0:0≤x/2^(i%8):=Int.ediv_nonneg hx0 (by omega);have hy1:x/2^(i%8)≤x:=Int.ediv_le_self _ hx0;rcases hv with hv|hv
    ·have hvb:vbit (val 256 ks) i=false:=by unfold vbit;rw[hv];rfl
     have hb0:x/2^(i%8)%2=0:=by rw[HBIT.out,hv]
     have HN:Hid ((M (256-i))=(Q,false)):=by
      show _=_
      rw[en,hMs.out _ _ _ hM,en2,hvb];rfl
     have ht:(x/2^(i%8)).tmod 2=0:=by rw[Int.tmod_eq_emod_of_nonneg hy0,hb0]
     go_wp2;go_roundw
     case rel=>exact⟨i,by omega,by go_num,by rw[HN.out],HE.out,by rw[HN.out];exact HO.out⟩
     case measure=>simp[intOf]
    ·have hvb:vbit (val 256 ks) i=true:=by unfold vbit;rw[hv];rfl
     have hb0:x/2^(i%8)%2=1:=by rw[HBIT.out,hv]
     have HN:Hid ((M (256-i))=(F4 (Q) P,true)):=by
      show _=_
      rw[en,hMs.out _ _ _ hM,en2,hvb];rfl
     have ht:(x/2^(i%8)).tmod 2=1:=by rw[Int.tmod_eq_emod_of_nonneg hy0,hb0]
     obtain⟨h0,k0,h1,k1,h2,k2,h3,k3,hp,hf0,hf1,hf2,hf3,hne⟩:=HO.out;have hE:=HE.out;have CS := sum_any (some ⟨h0,0,none⟩) (some ⟨h1,0,none⟩) (some ⟨h2,0,none⟩) (some ⟨h3,0,none⟩) (some ⟨p0,0,none⟩) (some ⟨p1,0,none⟩) (some ⟨p2,0,none⟩) (some ⟨p3,0,none⟩) (some ⟨gd,0,none⟩) k0 k1 k2 k3 c0 c1 c2 c3 cd _ _ _ _ _ _ _ _ mdD wr (fun e he=>by
                                                                                            simp only[List.mem_cons,List.not_mem_nil,or_false] at he
                                                                                            rcases he with rfl|rfl|rfl|rfl|rfl|rfl|rfl|rfl|rfl
                                                                                            · exact hf0
                                                                                            · exact hf1
                                                                                            · exact hf2
                                                                                            · exact hf3
                                                                                            · exact(HF0.out.below hE.below)
                                                                                            · exact(HF1.out.below hE.below)
                                                                                            · exact(HF2.out.below hE.below)
                                                                                            · exact(HF3.out.below hE.below)
                                                                                            · exact(HFD.out.below hE.below))
     have HPO:=hdI <| hp
     have HPB:=hdI <| hE.pb
     go_wp2_with (first
      |(refine wpList_load_row rfl 79 (.tmp 7) rfl G rfl 79 _ (0,0) _ HPO.out Tryz.underlying79 rfl Tryz.sizePt ?_)
      |(refine wpList_load_row rfl 79 (.tmp 4) rfl w.heap.size rfl 79 _ (0,0) _ HPB.out Tryz.underlying79 rfl Tryz.sizePt ?_)
      |fail)
     refine CS.mono ?_;intro e w8 h8;have h8b:Below wr.heap.size wr w8:=by obtain⟨_,_,_,_,_,_,_,_,_,_,_,_,_,b,_⟩:=h8;exact b
     have h8e:∃ v,e=.returned v:=by obtain⟨_,_,_,_,_,_,_,_,r,_⟩:=h8;exact⟨_,r⟩
     obtain⟨v8,rfl⟩:=h8e;have hput:=fun w9=>OutS.put (B:=w.heap.size+1) (w6:=w9) (P:=Q) (Q:=P) HPO.out.lt HE.out.gt h8
     obtain⟨s0,s1,s2,s3,rfl,hone,_⟩:=hput w8;have HPT:Hid (∀ w9,PtW w9 G #[s0,s1,s2,s3]→Wr G w8 w9→OutS (w.heap.size+1) w9 G (F4 (Q) P)):=fun w9 hp hw=>by
      obtain⟨q0,q1,q2,q3,e,_,k⟩:=hput w9;cases e;exact k hp hw
     have HON:=hdI <| hone
     have HP8:=hdI <| HPO.out.below h8b HPO.out.lt
     have HE8:=hdI <| HE.out.call h8b
     go_wp2_with (first
      |(refine wpList_storePt rfl (.tmp 7) (.tmp 40) rfl G s0 s1 s2 s3 _ HON.out.1 HON.out.2.1 HON.out.2.2.1 HON.out.2.2.2 rfl rfl rfl HP8.out ?_)
      |fail)
     intro w9 hp9 hw9;have HO9:=hdI <| HPT.out w9 hp9 hw9
     have HE9:=hdI <| HE8.out.wr hw9
     go_wp2;go_roundw
     case rel=>exact⟨i,by omega,by go_num,by rw[HN.out],HE9.out,by rw[HN.out];exact HO9.out⟩
     case measure=>simp[intOf]
   |true=>
    obtain⟨h0,k0,h1,k1,h2,k2,h3,k3,hp,hf0,hf1,hf2,hf3,hne⟩:=hO;have CS:=sum_any (some ⟨h0,0,none⟩) (some ⟨h1,0,none⟩) (some ⟨h2,0,none⟩) (some ⟨h3,0,none⟩) (some ⟨h0,0,none⟩) (some ⟨h1,0,none⟩) (some ⟨h2,0,none⟩) (some ⟨h3,0,none⟩) (some ⟨gd,0,none⟩) k0 k1 k2 k3 k0 k1 k2 k3 cd _ _ _ _ _ _ _ _ mdD wr (fun e he=>by
     simp only[List.mem_cons,List.not_mem_nil,or_false] at he;rcases he with rfl|rfl|rfl|rfl|rfl|rfl|rfl|rfl|rfl
     ·exact hf0
     ·exact hf1
     ·exact hf2
     ·exact hf3
     ·exact hf0
     ·exact hf1
     ·exact hf2
     ·exact hf3
     ·exact(HFD.out.below hE.below))
    have HPO:=hdI <| hp
    have HE:=hdI <| hE
    go_wp2_with (first
     |(refine wpList_load_row rfl 79 (.tmp 7) rfl G rfl 79 _ (0,0) _ HPO.out Tryz.underlying79 rfl Tryz.sizePt ?_)
     |fail)
    refine CS.mono ?_;intro e w5 h5;have h5b:Below wr.heap.size wr w5:=by obtain⟨_,_,_,_,_,_,_,_,_,_,_,_,_,b,_⟩:=h5;exact b
    have h5e:∃ v,e=.returned v:=by obtain⟨_,_,_,_,_,_,_,_,r,_⟩:=h5;exact⟨_,r⟩
    obtain⟨v5,rfl⟩:=h5e;have hput:=fun w9=>OutS.put (B:=w.heap.size+1) (w6:=w9) (P:=Q) (Q:=Q) HPO.out.lt HE.out.gt h5
    obtain⟨s0,s1,s2,s3,rfl,hone,_⟩:=hput w5;have HPT:Hid (∀ w9,PtW w9 G #[s0,s1,s2,s3]→Wr G w5 w9→OutS (w.heap.size+1) w9 G (F4 Q Q)):=fun w9 hp hw=>by
     obtain⟨q0,q1,q2,q3,e,_,k⟩:=hput w9;cases e;exact k hp hw
    have HON:=hdI <| hone
    have HP5:=hdI <| HPO.out.below h5b HPO.out.lt
    have HE5:=hdI <| HE.out.call h5b
    go_wp2_with (first
     |(refine wpList_storePt rfl (.tmp 7) (.tmp 25) rfl G s0 s1 s2 s3 _ HON.out.1 HON.out.2.1 HON.out.2.2.1 HON.out.2.2.2 rfl rfl rfl HP5.out ?_)
     |fail)
    intro w6 hp6 hw6;have hO:=HPT.out w6 hp6 hw6;have hE:=HE5.out.wr hw6;have cK:w6.cell? ⟨kb,ko+i/8,none⟩=some (.int .u8 (ks.getD (i/8) 0)):=by rw[hE.below.cell (p:=⟨kb,ko+i/8,none⟩) HKB.out];exact HKC.out (i/8) (by omega)
    have hx:=HBY.out.get (i/8);have HBIT:=hdI <| byte_bit ks HBY.out i
    have hlt:(i:Int)/8<32:=by omega
    have HE:=hdI <| hE
    have HO:Hid (OutS (w.heap.size+1) w6 G (F4 Q Q)):=hO;generalize ks.getD (i/8) 0=x at *;obtain⟨hx0,hx1⟩:=hx;have hv:(val 256 ks)/2^i%2=0∨(val 256 ks)/2^i%2=1:=by omega
    have hpp:(0:Int)<2^(i%8):=Int.pow_pos (by decide);have hy0:0≤x/2^(i%8):=Int.ediv_nonneg hx0 (by omega);have hy1:x/2^(i%8)≤x:=Int.ediv_le_self _ hx0;rcases hv with hv|hv
    ·have hvb:vbit (val 256 ks) i=false:=by unfold vbit;rw[hv];rfl
     have hb0:x/2^(i%8)%2=0:=by rw[HBIT.out,hv]
     have HN:Hid ((M (256-i))=(F4 Q Q,true)):=by
      show _=_
      rw[en,hMs.out _ _ _ hM,en2,hvb];rfl
     have ht:(x/2^(i%8)).tmod 2=0:=by rw[Int.tmod_eq_emod_of_nonneg hy0,hb0]
     go_wp2;go_roundw
     case rel=>exact⟨i,by omega,by go_num,by rw[HN.out],HE.out,by rw[HN.out];exact HO.out⟩
     case measure=>simp[intOf]
    ·have hvb:vbit (val 256 ks) i=true:=by unfold vbit;rw[hv];rfl
     have hb0:x/2^(i%8)%2=1:=by rw[HBIT.out,hv]
     have HN:Hid ((M (256-i))=(F4 (F4 Q Q) P,true)):=by
      show _=_
      rw[en,hMs.out _ _ _ hM,en2,hvb];rfl
     have ht:(x/2^(i%8)).tmod 2=1:=by rw[Int.tmod_eq_emod_of_nonneg hy0,hb0]
     obtain⟨h0,k0,h1,k1,h2,k2,h3,k3,hp,hf0,hf1,hf2,hf3,hne⟩:=HO.out;have hE:=HE.out;have CS := sum_any (some ⟨h0,0,none⟩) (some ⟨h1,0,none⟩) (some ⟨h2,0,none⟩) (some ⟨h3,0,none⟩) (some ⟨p0,0,none⟩) (some ⟨p1,0,none⟩) (some ⟨p2,0,none⟩) (some ⟨p3,0,none⟩) (some ⟨gd,0,none⟩) k0 k1 k2 k3 c0 c1 c2 c3 cd _ _ _ _ _ _ _ _ mdD w6 (fun e he=>by
                                                                                            simp only[List.mem_cons,List.not_mem_nil,or_false] at he
                                                                                            rcases he with rfl|rfl|rfl|rfl|rfl|rfl|rfl|rfl|rfl
                                                                                            · exact hf0
                                                                                            · exact hf1
                                                                                            · exact hf2
                                                                                            · exact hf3
                                                                                            · exact(HF0.out.below hE.below)
                                                                                            · exact(HF1.out.below hE.below)
                                                                                            · exact(HF2.out.below hE.below)
                                                                                            · exact(HF3.out.below hE.below)
                                                                                            · exact(HFD.out.below hE.below))
     have HPO:=hdI <| hp
     have HPB:=hdI <| hE.pb
     go_wp2_with (first
      |(refine wpList_load_row rfl 79 (.tmp 7) rfl G rfl 79 _ (0,0) _ HPO.out Tryz.underlying79 rfl Tryz.sizePt ?_)
      |(refine wpList_load_row rfl 79 (.tmp 4) rfl w.heap.size rfl 79 _ (0,0) _ HPB.out Tryz.underlying79 rfl Tryz.sizePt ?_)
      |fail)
     refine CS.mono ?_;intro e w8 h8;have h8b:Below w6.heap.size w6 w8:=by obtain⟨_,_,_,_,_,_,_,_,_,_,_,_,_,b,_⟩:=h8;exact b
     have h8e:∃ v,e=.returned v:=by obtain⟨_,_,_,_,_,_,_,_,r,_⟩:=h8;exact⟨_,r⟩
     obtain⟨v8,rfl⟩:=h8e;have hput:=fun w9=>OutS.put (B:=w.heap.size+1) (w6:=w9) (P:=F4 Q Q) (Q:=P) HPO.out.lt HE.out.gt h8
     obtain⟨s0,s1,s2,s3,rfl,hone,_⟩:=hput w8;have HPT:Hid (∀ w9,PtW w9 G #[s0,s1,s2,s3]→Wr G w8 w9→OutS (w.heap.size+1) w9 G (F4 (F4 Q Q) P)):=fun w9 hp hw=>by
      obtain⟨q0,q1,q2,q3,e,_,k⟩:=hput w9;cases e;exact k hp hw
     have HON:=hdI <| hone
     have HP8:=hdI <| HPO.out.below h8b HPO.out.lt
     have HE8:=hdI <| HE.out.call h8b
     go_wp2_with (first
      |(refine wpList_storePt rfl (.tmp 7) (.tmp 40) rfl G s0 s1 s2 s3 _ HON.out.1 HON.out.2.1 HON.out.2.2.1 HON.out.2.2.2 rfl rfl rfl HP8.out ?_)
      |fail)
     intro w9 hp9 hw9;have HO9:=hdI <| HPT.out w9 hp9 hw9
     have HE9:=hdI <| HE8.out.wr hw9
     go_wp2;go_roundw
     case rel=>exact⟨i,by omega,by go_num,by rw[HN.out],HE9.out,by rw[HN.out];exact HO9.out⟩
     case measure=>simp[intOf]
  ·have hj00:j=0:=by omega
   subst hj00;obtain⟨h0,k0,h1,k1,h2,k2,h3,k3,hp,hf0,hf1,hf2,hf3,hne⟩:=hO;have HNE:Hid (h0≠w.heap.size+1∧h1≠w.heap.size+1∧h2≠w.heap.size+1∧h3≠w.heap.size+1):=by obtain⟨_,q1,q2,q3,q4⟩:=hne;exact⟨by omega,by omega,by omega,by omega⟩
   have HPO:=hdI <| hp
   have HRS:=hdI <| hE.rs
   have HFF:Hid (FeA wr (some ⟨h0,0,none⟩) (M 256).1.1∧FeA wr (some ⟨h1,0,none⟩) (M 256).1.2.1∧FeA wr (some ⟨h2,0,none⟩) (M 256).1.2.2.1∧FeA wr (some ⟨h3,0,none⟩) (M 256).1.2.2.2∧Below w.heap.size w wr):=⟨hf0,hf1,hf2,hf3,hE.below⟩
   go_wp2_with (first
    |(refine wpList_load_row rfl 79 (.tmp 7) rfl G rfl 79 _ (0,0) _ HPO.out Tryz.underlying79 rfl Tryz.sizePt ?_)
    |(refine wpList_storePt rfl (.tmp 6) (.tmp 41) rfl (w.heap.size+1) _ _ _ _ _ rfl rfl rfl rfl rfl rfl rfl HRS.out ?_)
    |fail)
   intro w7 hp7 hw7;have HP7:Hid (PtW w7 (w.heap.size+1) #[.slice (some ⟨h0,0,none⟩) 16 k0,.slice (some ⟨h1,0,none⟩) 16 k1,.slice (some ⟨h2,0,none⟩) 16 k2,.slice (some ⟨h3,0,none⟩) 16 k3]):=hp7;have HF7:Hid (TimP w (M 256).1 (.returned (.agg #[.slice (some ⟨h0,0,none⟩) 16 k0,.slice (some ⟨h1,0,none⟩) 16 k1,.slice (some ⟨h2,0,none⟩) 16 k2,.slice (some ⟨h3,0,none⟩) 16 k3])) w7):=by
    obtain⟨q1,q2,q3,q4,q5⟩:=HFF.out;exact⟨h0,k0,h1,k1,h2,k2,h3,k3,rfl,q1.wr hw7 HNE.out.1,q2.wr hw7 HNE.out.2.1,q3.wr hw7 HNE.out.2.2.1,q4.wr hw7 HNE.out.2.2.2,q5.trans (hw7.below (by omega))⟩
   go_wp2;exact bodyPost_ret (v:=.agg #[.slice (some ⟨h0,0,none⟩) 16 k0,.slice (some ⟨h1,0,none⟩) 16 k1,.slice (some ⟨h2,0,none⟩) 16 k2,.slice (some ⟨h3,0,none⟩) 16 k3]) (results_cell_row rfl _ _ (w.heap.size+1) 79 _ (0,0) _ rfl HP7.out Tryz.underlying79 rfl Tryz.sizePt) rfl HF7.out
theorem ltimes_any (kp:Option Addr) (kc:Nat) (ks:List Int) (p0 p1 p2 p3 gd c0 c1 c2 c3 cd:Nat) (P:Q4) (w:World) (hk:ks.length=32) (hb:Byte ks) (ha:At .u8 w kp ks)
  (h0:FeA w (some ⟨p0,0,none⟩) P.1) (h1:FeA w (some ⟨p1,0,none⟩) P.2.1) (h2:FeA w (some ⟨p2,0,none⟩) P.2.2.1) (h3:FeA w (some ⟨p3,0,none⟩) P.2.2.2) (hd:FeA w (some ⟨gd,0,none⟩) mdD) :
  Calls Tryz.prog 36 #[.slice kp 32 kc,.agg #[.slice (some ⟨p0,0,none⟩) 16 c0,.slice (some ⟨p1,0,none⟩) 16 c1,.slice (some ⟨p2,0,none⟩) 16 c2,.slice (some ⟨p3,0,none⟩) 16 c3],.slice (some ⟨gd,0,none⟩) 16 cd] w (TimP w (mS (val 256 ks) P 256).1):=
 ltimes_gen (mS (val 256 ks) P) kp kc ks p0 p1 p2 p3 gd c0 c1 c2 c3 cd P w hk hb ha h0 h1 h2 h3 hd rfl (fun n Q b h=>by simp only[mS,h])
set_option maxRecDepth 100000 in
set_option maxHeartbeats 8000000 in
theorem ltimes2_gen (M:Nat→Q4×Bool) (kp:Option Addr) (kc:Nat) (ks:List Int) (p0 p1 p2 p3 gd c0 c1 c2 c3 cd:Nat) (P:Q4) (w:World) (hk:ks.length=2) (hb:Byte ks) (ha:At .u8 w kp ks)
  (h0:FeA w (some ⟨p0,0,none⟩) P.1) (h1:FeA w (some ⟨p1,0,none⟩) P.2.1) (h2:FeA w (some ⟨p2,0,none⟩) P.2.2.1) (h3:FeA w (some ⟨p3,0,none⟩) P.2.2.2) (hd:FeA w (some ⟨gd,0,none⟩) mdD) (hM0:Hid (M 0=(idQ,false)))
  (hMs:Hid (∀ n Q b,M n=(Q,b)→M (n+1)=bif vbit (val 256 ks) (15-n) then(F4 (bif b then F4 Q Q else Q) P,true) else(bif b then F4 Q Q else Q,b))) :
  Calls Tryz.prog 36 #[.slice kp 2 kc,.agg #[.slice (some ⟨p0,0,none⟩) 16 c0,.slice (some ⟨p1,0,none⟩) 16 c1,.slice (some ⟨p2,0,none⟩) 16 c2,.slice (some ⟨p3,0,none⟩) 16 c3],.slice (some ⟨gd,0,none⟩) 16 cd] w (TimP w (M 16).1):=by
 have bb:Below w.heap.size w ((w.alloc (.cells #[.slice (some ⟨p0,0,none⟩) 16 c0,.slice (some ⟨p1,0,none⟩) 16 c1,.slice (some ⟨p2,0,none⟩) 16 c2,.slice (some ⟨p3,0,none⟩) 16 c3] 79)).alloc (.cells #[.slice none 0 0,.slice none 0 0,.slice none 0 0,.slice none 0 0] 79)):=((Below.refl _ _).alloc (Nat.le_refl _) _).alloc (by simp) _;have HP0:Hid (PtW ((w.alloc (.cells #[.slice (some ⟨p0,0,none⟩) 16 c0,.slice (some ⟨p1,0,none⟩) 16 c1,.slice (some ⟨p2,0,none⟩) 16 c2,.slice (some ⟨p3,0,none⟩) 16 c3] 79)).alloc (.cells #[.slice none 0 0,.slice none 0 0,.slice none 0 0,.slice none 0 0] 79)) w.heap.size #[.slice (some ⟨p0,0,none⟩) 16 c0,.slice (some ⟨p1,0,none⟩) 16 c1,.slice (some ⟨p2,0,none⟩) 16 c2,.slice (some ⟨p3,0,none⟩) 16 c3]):=by
  show _=_
  rw[Below.heap_alloc _ _ w.heap.size (by simp)];exact heap_alloc_new w _
 have HZ0:Hid (PtW ((w.alloc (.cells #[.slice (some ⟨p0,0,none⟩) 16 c0,.slice (some ⟨p1,0,none⟩) 16 c1,.slice (some ⟨p2,0,none⟩) 16 c2,.slice (some ⟨p3,0,none⟩) 16 c3] 79)).alloc (.cells #[.slice none 0 0,.slice none 0 0,.slice none 0 0,.slice none 0 0] 79)) (w.heap.size+1) #[.slice none 0 0,.slice none 0 0,.slice none 0 0,.slice none 0 0]):=by
  show _=_
  have:=heap_alloc_new (w.alloc (.cells #[.slice (some ⟨p0,0,none⟩) 16 c0,.slice (some ⟨p1,0,none⟩) 16 c1,.slice (some ⟨p2,0,none⟩) 16 c2,.slice (some ⟨p3,0,none⟩) 16 c3] 79)) (.cells #[.slice none 0 0,.slice none 0 0,.slice none 0 0,.slice none 0 0] 79);simpa using this
 have HB0:=hdI <| bb
 have HF0:=hdI <| h0
 have HF1:=hdI <| h1
 have HF2:=hdI <| h2
 have HF3:=hdI <| h3
 have HFD:=hdI <| hd
 obtain⟨kb,ko,rfl,hkb,hkc⟩:=ha.get (by omega);have HKB:=hdI <| hkb
 have HKC:Hid (∀ q,q<2→w.cell? ⟨kb,ko+q,none⟩=some (.int .u8 (ks.getD q 0))):=fun q hq=>hkc q (by omega)
 have HBY:=hdI <| hb
 have HKL:=hdI <| hk
 go_enter Tryz.func36,Tryz.ntmps36;go_wp2_with fail;generalize ((w.alloc (.cells #[.slice (some ⟨p0,0,none⟩) 16 c0,.slice (some ⟨p1,0,none⟩) 16 c1,.slice (some ⟨p2,0,none⟩) 16 c2,.slice (some ⟨p3,0,none⟩) 16 c3] 79)).alloc (.cells #[.slice none 0 0,.slice none 0 0,.slice none 0 0,.slice none 0 0] 79))=w0 at *;refine(small_any 0 _ (by decide) (by decide)).mono ?_;rintro e w1 ⟨g1,k1,rfl,hr1,_,hf,hb⟩;have hg1:w.heap.size+1<g1:=by have:=HZ0.out.lt;omega
 have HX:=hdI <| hf
 have b1:=HB0.out.trans (hb.mono HB0.out.size);have HP1:=hdI <| HP0.out.below hb HP0.out.lt
 have HZ1:=hdI <| HZ0.out.below hb HZ0.out.lt
 have HB1:=hdI <| b1
 go_wp2_with fail;refine(small_any 1 _ (by decide) (by decide)).mono ?_;rintro e w2 ⟨g2,k2,rfl,hr2,_,hf,hb⟩;have hg2:w.heap.size+1<g2:=by have:=HZ1.out.lt;omega
 have HX2:=hdI <| HX.out.below hb
 have HY2:=hdI <| hf
 have HP2:=hdI <| HP1.out.below hb HP1.out.lt
 have HZ2:=hdI <| HZ1.out.below hb HZ1.out.lt
 have HB2:=hdI <| HB1.out.trans (hb.mono HB1.out.size)
 go_wp2_with fail;refine(affine_any (some ⟨g1,0,none⟩) (some ⟨g2,0,none⟩) k1 k2 _ _ _ HX2.out HY2.out).mono ?_;rintro e w3 ⟨gz,cz,gt,ct,rfl,f3,f4,hb,hr3,hr4⟩;have hgz:w.heap.size+1<gz:=by have:=HZ2.out.lt;omega
 have hgt:w.heap.size+1<gt:=by have:=HZ2.out.lt;omega
 have HX3:Hid (FeA w3 (some ⟨g1,0,none⟩) (0%fp)∧FeA w3 (some ⟨g2,0,none⟩) (1%fp)∧FeA w3 (some ⟨gz,0,none⟩) (1%fp)∧FeA w3 (some ⟨gt,0,none⟩) (0%fp*(1%fp)%fp)):=⟨HX2.out.below hb,HY2.out.below hb,f3,f4⟩
 have HP3:=hdI <| HP2.out.below hb HP2.out.lt
 have HZ3:=hdI <| HZ2.out.below hb HZ2.out.lt
 have HB3:=hdI <| HB2.out.trans (hb.mono HB2.out.size)
 have HPN:=hdI <| PtW.new w3
 go_wp2_with (first
  |(refine wpList_storePt rfl (.tmp 7) (.tmp 12) rfl w3.heap.size _ _ _ _ _ rfl rfl rfl rfl rfl rfl rfl HPN.out ?_)
  |fail)
 intro w4 hp4 hw4;have b34:=(below_new3 _ _).trans (hw4.below (Nat.le_refl _));have HE:Hid (TmE w #[.slice (some ⟨p0,0,none⟩) 16 c0,.slice (some ⟨p1,0,none⟩) 16 c1,.slice (some ⟨p2,0,none⟩) 16 c2,.slice (some ⟨p3,0,none⟩) 16 c3] w3.heap.size w4):=⟨HB3.out.trans (b34.mono HB3.out.size),HP3.out.below b34 HP3.out.lt,HZ3.out.below b34 HZ3.out.lt,HZ3.out.lt⟩
 have HO:Hid (OutS (w.heap.size+1) w4 w3.heap.size (M 0).1):=by
  show OutS _ _ _ _
  rw[hM0.out];obtain⟨q1,q2,q3,q4⟩:=HX3.out;refine⟨g1,k1,g2,k2,gz,cz,gt,ct,hp4,?_,?_,?_,?_,⟨?_,?_,?_,?_⟩,hg1,hg2,hgz,hgt⟩
  ·exact q1.below b34
  ·exact q2.below b34
  ·exact q3.below b34
  ·exact q4.below b34
  ·have:=q1.lt;omega
  ·have:=q2.lt;omega
  ·have:=q3.lt;omega
  ·have:=q4.lt;omega
 generalize w3.heap.size=G at *;go_wp2_with fail
 go_loopw [8,9] (fun b i wr=>∃ j:Nat,j≤16∧i=.int .i64 ((j:Int)-1)∧b=.bool (M (16-j)).2∧TmE w #[.slice (some ⟨p0,0,none⟩) 16 c0,.slice (some ⟨p1,0,none⟩) 16 c1,.slice (some ⟨p2,0,none⟩) 16 c2,.slice (some ⟨p3,0,none⟩) 16 c3] G wr∧OutS (w.heap.size+1) wr G (M (16-j)).1) (fun _ i _=>(intOf i+1).toNat)
 case atStart=>exact⟨16,Nat.le_refl _,by go_num,by rw[Nat.sub_self,hM0.out],HE.out,by rw[Nat.sub_self];exact HO.out⟩
 case round=>
  obtain⟨j,hj,rfl,rfl,hE,hO⟩:=hrel;by_cases hj0:0<j
  ·obtain⟨i,rfl⟩:∃ i,j=i+1:=⟨j-1,by omega⟩
   have ei:((i+1:Nat):Int)-1=(i:Int):=by omega
   rw[ei];have en:16-i=16-(i+1)+1:=by omega
   have en2:15-(16-(i+1))=i:=by omega
   have hi8:i<16:=by omega
   generalize hM:M (16-(i+1))=mq at *;obtain⟨Q,bg⟩:=mq;simp only at hO ⊢;cases bg with
   |false=>
    have hge:¬ ((i:Int)<0):=by omega
    have cK:wr.cell? ⟨kb,ko+i/8,none⟩=some (.int .u8 (ks.getD (i/8) 0)):=by rw[hE.below.cell (p:=⟨kb,ko+i/8,none⟩) HKB.out];exact HKC.out (i/8) (by omega)
    have hx:=HBY.out.get (i/8);have HBIT:=hdI <| byte_bit ks HBY.out i
    have hlt:(i:Int)/8<2:=by omega
    have HE:=hdI <| hE
    have HO:Hid (OutS (w.heap.size+1) wr G (Q)):=hO;generalize ks.getD (i/8) 0=x at *;obtain⟨hx0,hx1⟩:=hx;have hv:(val 256 ks)/2^i%2=0∨(val 256 ks)/2^i%2=1:=by omega
    have hpp:(0:Int)<2^(i%8):=Int.pow_pos (by decide);have hy0:0≤x/2^(i%8):=Int.ediv_nonneg hx0 (by omega);have hy1:x/2^(i%8)≤x:=Int.ediv_le_self _ hx0;rcases hv with hv|hv
    ·have hvb:vbit (val 256 ks) i=false:=by unfold vbit;rw[hv];rfl
     have hb0:x/2^(i%8)%2=0:=by rw[HBIT.out,hv]
     have HN:Hid ((M (16-i))=(Q,false)):=by
      show _=_
      rw[en,hMs.out _ _ _ hM,en2,hvb];rfl
     have ht:(x/2^(i%8)).tmod 2=0:=by rw[Int.tmod_eq_emod_of_nonneg hy0,hb0]
     go_wp2;go_roundw
     case rel=>exact⟨i,by omega,by go_num,by rw[HN.out],HE.out,by rw[HN.out];exact HO.out⟩
     case measure=>simp[intOf]
    ·have hvb:vbit (val 256 ks) i=true:=by unfold vbit;rw[hv];rfl
     have hb0:x/2^(i%8)%2=1:=by rw[HBIT.out,hv]
     have HN:Hid ((M (16-i))=(F4 (Q) P,true)):=by
      show _=_
      rw[en,hMs.out _ _ _ hM,en2,hvb];rfl
     have ht:(x/2^(i%8)).tmod 2=1:=by rw[Int.tmod_eq_emod_of_nonneg hy0,hb0]
     obtain⟨h0,k0,h1,k1,h2,k2,h3,k3,hp,hf0,hf1,hf2,hf3,hne⟩:=HO.out;have hE:=HE.out;have CS := sum_any (some ⟨h0,0,none⟩) (some ⟨h1,0,none⟩) (some ⟨h2,0,none⟩) (some ⟨h3,0,none⟩) (some ⟨p0,0,none⟩) (some ⟨p1,0,none⟩) (some ⟨p2,0,none⟩) (some ⟨p3,0,none⟩) (some ⟨gd,0,none⟩) k0 k1 k2 k3 c0 c1 c2 c3 cd _ _ _ _ _ _ _ _ mdD wr (fun e he=>by
                                                                                            simp only[List.mem_cons,List.not_mem_nil,or_false] at he
                                                                                            rcases he with rfl|rfl|rfl|rfl|rfl|rfl|rfl|rfl|rfl
                                                                                            · exact hf0
                                                                                            · exact hf1
                                                                                            · exact hf2
                                                                                            · exact hf3
                                                                                            · exact(HF0.out.below hE.below)
                                                                                            · exact(HF1.out.below hE.below)
                                                                                            · exact(HF2.out.below hE.below)
                                                                                            · exact(HF3.out.below hE.below)
                                                                                            · exact(HFD.out.below hE.below))
     have HPO:=hdI <| hp
     have HPB:=hdI <| hE.pb
     go_wp2_with (first
      |(refine wpList_load_row rfl 79 (.tmp 7) rfl G rfl 79 _ (0,0) _ HPO.out Tryz.underlying79 rfl Tryz.sizePt ?_)
      |(refine wpList_load_row rfl 79 (.tmp 4) rfl w.heap.size rfl 79 _ (0,0) _ HPB.out Tryz.underlying79 rfl Tryz.sizePt ?_)
      |fail)
     refine CS.mono ?_;intro e w8 h8;have h8b:Below wr.heap.size wr w8:=by obtain⟨_,_,_,_,_,_,_,_,_,_,_,_,_,b,_⟩:=h8;exact b
     have h8e:∃ v,e=.returned v:=by obtain⟨_,_,_,_,_,_,_,_,r,_⟩:=h8;exact⟨_,r⟩
     obtain⟨v8,rfl⟩:=h8e;have hput:=fun w9=>OutS.put (B:=w.heap.size+1) (w6:=w9) (P:=Q) (Q:=P) HPO.out.lt HE.out.gt h8
     obtain⟨s0,s1,s2,s3,rfl,hone,_⟩:=hput w8;have HPT:Hid (∀ w9,PtW w9 G #[s0,s1,s2,s3]→Wr G w8 w9→OutS (w.heap.size+1) w9 G (F4 (Q) P)):=fun w9 hp hw=>by
      obtain⟨q0,q1,q2,q3,e,_,k⟩:=hput w9;cases e;exact k hp hw
     have HON:=hdI <| hone
     have HP8:=hdI <| HPO.out.below h8b HPO.out.lt
     have HE8:=hdI <| HE.out.call h8b
     go_wp2_with (first
      |(refine wpList_storePt rfl (.tmp 7) (.tmp 40) rfl G s0 s1 s2 s3 _ HON.out.1 HON.out.2.1 HON.out.2.2.1 HON.out.2.2.2 rfl rfl rfl HP8.out ?_)
      |fail)
     intro w9 hp9 hw9;have HO9:=hdI <| HPT.out w9 hp9 hw9
     have HE9:=hdI <| HE8.out.wr hw9
     go_wp2;go_roundw
     case rel=>exact⟨i,by omega,by go_num,by rw[HN.out],HE9.out,by rw[HN.out];exact HO9.out⟩
     case measure=>simp[intOf]
   |true=>
    obtain⟨h0,k0,h1,k1,h2,k2,h3,k3,hp,hf0,hf1,hf2,hf3,hne⟩:=hO;have CS:=sum_any (some ⟨h0,0,none⟩) (some ⟨h1,0,none⟩) (some ⟨h2,0,none⟩) (some ⟨h3,0,none⟩) (some ⟨h0,0,none⟩) (some ⟨h1,0,none⟩) (some ⟨h2,0,none⟩) (some ⟨h3,0,none⟩) (some ⟨gd,0,none⟩) k0 k1 k2 k3 k0 k1 k2 k3 cd _ _ _ _ _ _ _ _ mdD wr (fun e he=>by
     simp only[List.mem_cons,List.not_mem_nil,or_false] at he;rcases he with rfl|rfl|rfl|rfl|rfl|rfl|rfl|rfl|rfl
     ·exact hf0
     ·exact hf1
     ·exact hf2
     ·exact hf3
     ·exact hf0
     ·exact hf1
     ·exact hf2
     ·exact hf3
     ·exact(HFD.out.below hE.below))
    have HPO:=hdI <| hp
    have HE:=hdI <| hE
    go_wp2_with (first
     |(refine wpList_load_row rfl 79 (.tmp 7) rfl G rfl 79 _ (0,0) _ HPO.out Tryz.underlying79 rfl Tryz.sizePt ?_)
     |fail)
    refine CS.mono ?_;intro e w5 h5;have h5b:Below wr.heap.size wr w5:=by obtain⟨_,_,_,_,_,_,_,_,_,_,_,_,_,b,_⟩:=h5;exact b
    have h5e:∃ v,e=.returned v:=by obtain⟨_,_,_,_,_,_,_,_,r,_⟩:=h5;exact⟨_,r⟩
    obtain⟨v5,rfl⟩:=h5e;have hput:=fun w9=>OutS.put (B:=w.heap.size+1) (w6:=w9) (P:=Q) (Q:=Q) HPO.out.lt HE.out.gt h5
    obtain⟨s0,s1,s2,s3,rfl,hone,_⟩:=hput w5;have HPT:Hid (∀ w9,PtW w9 G #[s0,s1,s2,s3]→Wr G w5 w9→OutS (w.heap.size+1) w9 G (F4 Q Q)):=fun w9 hp hw=>by
     obtain⟨q0,q1,q2,q3,e,_,k⟩:=hput w9;cases e;exact k hp hw
    have HON:=hdI <| hone
    have HP5:=hdI <| HPO.out.below h5b HPO.out.lt
    have HE5:=hdI <| HE.out.call h5b
    go_wp2_with (first
     |(refine wpList_storePt rfl (.tmp 7) (.tmp 25) rfl G s0 s1 s2 s3 _ HON.out.1 HON.out.2.1 HON.out.2.2.1 HON.out.2.2.2 rfl rfl rfl HP5.out ?_)
     |fail)
    intro w6 hp6 hw6;have hO:=HPT.out w6 hp6 hw6;have hE:=HE5.out.wr hw6;have cK:w6.cell? ⟨kb,ko+i/8,none⟩=some (.int .u8 (ks.getD (i/8) 0)):=by rw[hE.below.cell (p:=⟨kb,ko+i/8,none⟩) HKB.out];exact HKC.out (i/8) (by omega)
    have hx:=HBY.out.get (i/8);have HBIT:=hdI <| byte_bit ks HBY.out i
    have hlt:(i:Int)/8<2:=by omega
    have HE:=hdI <| hE
    have HO:Hid (OutS (w.heap.size+1) w6 G (F4 Q Q)):=hO;generalize ks.getD (i/8) 0=x at *;obtain⟨hx0,hx1⟩:=hx;have hv:(val 256 ks)/2^i%2=0∨(val 256 ks)/2^i%2=1:=by omega
    have hpp:(0:Int)<2^(i%8):=Int.pow_pos (by decide);have hy0:0≤x/2^(i%8):=Int.ediv_nonneg hx0 (by omega);have hy1:x/2^(i%8)≤x:=Int.ediv_le_self _ hx0;rcases hv with hv|hv
    ·have hvb:vbit (val 256 ks) i=false:=by unfold vbit;rw[hv];rfl
     have hb0:x/2^(i%8)%2=0:=by rw[HBIT.out,hv]
     have HN:Hid ((M (16-i))=(F4 Q Q,true)):=by
      show _=_
      rw[en,hMs.out _ _ _ hM,en2,hvb];rfl
     have ht:(x/2^(i%8)).tmod 2=0:=by rw[Int.tmod_eq_emod_of_nonneg hy0,hb0]
     go_wp2;go_roundw
     case rel=>exact⟨i,by omega,by go_num,by rw[HN.out],HE.out,by rw[HN.out];exact HO.out⟩
     case measure=>simp[intOf]
    ·have hvb:vbit (val 256 ks) i=true:=by unfold vbit;rw[hv];rfl
     have hb0:x/2^(i%8)%2=1:=by rw[HBIT.out,hv]
     have HN:Hid ((M (16-i))=(F4 (F4 Q Q) P,true)):=by
      show _=_
      rw[en,hMs.out _ _ _ hM,en2,hvb];rfl
     have ht:(x/2^(i%8)).tmod 2=1:=by rw[Int.tmod_eq_emod_of_nonneg hy0,hb0]
     obtain⟨h0,k0,h1,k1,h2,k2,h3,k3,hp,hf0,hf1,hf2,hf3,hne⟩:=HO.out;have hE:=HE.out;have CS := sum_any (some ⟨h0,0,none⟩) (some ⟨h1,0,none⟩) (some ⟨h2,0,none⟩) (some ⟨h3,0,none⟩) (some ⟨p0,0,none⟩) (some ⟨p1,0,none⟩) (some ⟨p2,0,none⟩) (some ⟨p3,0,none⟩) (some ⟨gd,0,none⟩) k0 k1 k2 k3 c0 c1 c2 c3 cd _ _ _ _ _ _ _ _ mdD w6 (fun e he=>by
                                                                                            simp only[List.mem_cons,List.not_mem_nil,or_false] at he
                                                                                            rcases he with rfl|rfl|rfl|rfl|rfl|rfl|rfl|rfl|rfl
                                                                                            · exact hf0
                                                                                            · exact hf1
                                                                                            · exact hf2
                                                                                            · exact hf3
                                                                                            · exact(HF0.out.below hE.below)
                                                                                            · exact(HF1.out.below hE.below)
                                                                                            · exact(HF2.out.below hE.below)
                                                                                            · exact(HF3.out.below hE.below)
                                                                                            · exact(HFD.out.below hE.below))
     have HPO:=hdI <| hp
     have HPB:=hdI <| hE.pb
     go_wp2_with (first
      |(refine wpList_load_row rfl 79 (.tmp 7) rfl G rfl 79 _ (0,0) _ HPO.out Tryz.underlying79 rfl Tryz.sizePt ?_)
      |(refine wpList_load_row rfl 79 (.tmp 4) rfl w.heap.size rfl 79 _ (0,0) _ HPB.out Tryz.underlying79 rfl Tryz.sizePt ?_)
      |fail)
     refine CS.mono ?_;intro e w8 h8;have h8b:Below w6.heap.size w6 w8:=by obtain⟨_,_,_,_,_,_,_,_,_,_,_,_,_,b,_⟩:=h8;exact b
     have h8e:∃ v,e=.returned v:=by obtain⟨_,_,_,_,_,_,_,_,r,_⟩:=h8;exact⟨_,r⟩
     obtain⟨v8,rfl⟩:=h8e;have hput:=fun w9=>OutS.put (B:=w.heap.size+1) (w6:=w9) (P:=F4 Q Q) (Q:=P) HPO.out.lt HE.out.gt h8
     obtain⟨s0,s1,s2,s3,rfl,hone,_⟩:=hput w8;have HPT:Hid (∀ w9,PtW w9 G #[s0,s1,s2,s3]→Wr G w8 w9→OutS (w.heap.size+1) w9 G (F4 (F4 Q Q) P)):=fun w9 hp hw=>by
      obtain⟨q0,q1,q2,q3,e,_,k⟩:=hput w9;cases e;exact k hp hw
     have HON:=hdI <| hone
     have HP8:=hdI <| HPO.out.below h8b HPO.out.lt
     have HE8:=hdI <| HE.out.call h8b
     go_wp2_with (first
      |(refine wpList_storePt rfl (.tmp 7) (.tmp 40) rfl G s0 s1 s2 s3 _ HON.out.1 HON.out.2.1 HON.out.2.2.1 HON.out.2.2.2 rfl rfl rfl HP8.out ?_)
      |fail)
     intro w9 hp9 hw9;have HO9:=hdI <| HPT.out w9 hp9 hw9
     have HE9:=hdI <| HE8.out.wr hw9
     go_wp2;go_roundw
     case rel=>exact⟨i,by omega,by go_num,by rw[HN.out],HE9.out,by rw[HN.out];exact HO9.out⟩
     case measure=>simp[intOf]
  ·have hj00:j=0:=by omega
   subst hj00;obtain⟨h0,k0,h1,k1,h2,k2,h3,k3,hp,hf0,hf1,hf2,hf3,hne⟩:=hO;have HNE:Hid (h0≠w.heap.size+1∧h1≠w.heap.size+1∧h2≠w.heap.size+1∧h3≠w.heap.size+1):=by obtain⟨_,q1,q2,q3,q4⟩:=hne;exact⟨by omega,by omega,by omega,by omega⟩
   have HPO:=hdI <| hp
   have HRS:=hdI <| hE.rs
   have HFF:Hid (FeA wr (some ⟨h0,0,none⟩) (M 16).1.1∧FeA wr (some ⟨h1,0,none⟩) (M 16).1.2.1∧FeA wr (some ⟨h2,0,none⟩) (M 16).1.2.2.1∧FeA wr (some ⟨h3,0,none⟩) (M 16).1.2.2.2∧Below w.heap.size w wr):=⟨hf0,hf1,hf2,hf3,hE.below⟩
   go_wp2_with (first
    |(refine wpList_load_row rfl 79 (.tmp 7) rfl G rfl 79 _ (0,0) _ HPO.out Tryz.underlying79 rfl Tryz.sizePt ?_)
    |(refine wpList_storePt rfl (.tmp 6) (.tmp 41) rfl (w.heap.size+1) _ _ _ _ _ rfl rfl rfl rfl rfl rfl rfl HRS.out ?_)
    |fail)
   intro w7 hp7 hw7;have HP7:Hid (PtW w7 (w.heap.size+1) #[.slice (some ⟨h0,0,none⟩) 16 k0,.slice (some ⟨h1,0,none⟩) 16 k1,.slice (some ⟨h2,0,none⟩) 16 k2,.slice (some ⟨h3,0,none⟩) 16 k3]):=hp7;have HF7:Hid (TimP w (M 16).1 (.returned (.agg #[.slice (some ⟨h0,0,none⟩) 16 k0,.slice (some ⟨h1,0,none⟩) 16 k1,.slice (some ⟨h2,0,none⟩) 16 k2,.slice (some ⟨h3,0,none⟩) 16 k3])) w7):=by
    obtain⟨q1,q2,q3,q4,q5⟩:=HFF.out;exact⟨h0,k0,h1,k1,h2,k2,h3,k3,rfl,q1.wr hw7 HNE.out.1,q2.wr hw7 HNE.out.2.1,q3.wr hw7 HNE.out.2.2.1,q4.wr hw7 HNE.out.2.2.2,q5.trans (hw7.below (by omega))⟩
   go_wp2;exact bodyPost_ret (v:=.agg #[.slice (some ⟨h0,0,none⟩) 16 k0,.slice (some ⟨h1,0,none⟩) 16 k1,.slice (some ⟨h2,0,none⟩) 16 k2,.slice (some ⟨h3,0,none⟩) 16 k3]) (results_cell_row rfl _ _ (w.heap.size+1) 79 _ (0,0) _ rfl HP7.out Tryz.underlying79 rfl Tryz.sizePt) rfl HF7.out
def mS2 (V:Int) (P:Q4):Nat→Q4×Bool
 |0=>(idQ,false)
 |n+1=>bif vbit V (15-n) then(F4 (bif (mS2 V P n).2 then F4 (mS2 V P n).1 (mS2 V P n).1 else(mS2 V P n).1) P,true) else(bif (mS2 V P n).2 then F4 (mS2 V P n).1 (mS2 V P n).1 else(mS2 V P n).1,(mS2 V P n).2)
theorem ltimes2_any (kp:Option Addr) (kc:Nat) (ks:List Int) (p0 p1 p2 p3 gd c0 c1 c2 c3 cd:Nat) (P:Q4) (w:World) (hk:ks.length=2) (hb:Byte ks) (ha:At .u8 w kp ks)
  (h0:FeA w (some ⟨p0,0,none⟩) P.1) (h1:FeA w (some ⟨p1,0,none⟩) P.2.1) (h2:FeA w (some ⟨p2,0,none⟩) P.2.2.1) (h3:FeA w (some ⟨p3,0,none⟩) P.2.2.2) (hd:FeA w (some ⟨gd,0,none⟩) mdD) :
  Calls Tryz.prog 36 #[.slice kp 2 kc,.agg #[.slice (some ⟨p0,0,none⟩) 16 c0,.slice (some ⟨p1,0,none⟩) 16 c1,.slice (some ⟨p2,0,none⟩) 16 c2,.slice (some ⟨p3,0,none⟩) 16 c3],.slice (some ⟨gd,0,none⟩) 16 cd] w (TimP w (mS2 (val 256 ks) P 16).1):=
 ltimes2_gen (mS2 (val 256 ks) P) kp kc ks p0 p1 p2 p3 gd c0 c1 c2 c3 cd P w hk hb ha h0 h1 h2 h3 hd rfl (fun n Q b h=>by simp only[mS2,h])
theorem getD_app (xs ys:List Int) (i:Nat):(xs++ys).getD i 0=if i<xs.length then xs.getD i 0 else ys.getD (i-xs.length) 0:=by
 simp only[List.getD_eq_getElem?_getD,List.getElem?_append];split<;>rfl
theorem getD_rep0 (n i:Nat):(List.replicate n (0:Int)).getD i 0=0:=by
 simp only[List.getD_eq_getElem?_getD,List.getElem?_replicate];split<;>rfl
theorem getD_out (xs:List Int) (i:Nat) (h:xs.length≤i):xs.getD i 0=0:=by
 rw[List.getD_eq_getElem?_getD,List.getElem?_eq_none h];rfl
theorem getD_dropI (xs:List Int) (m i:Nat):(xs.drop m).getD i 0=xs.getD (m+i) 0:=by
 simp only[List.getD_eq_getElem?_getD,List.getElem?_drop]
theorem getD_takeI (xs:List Int) (m i:Nat) (h:i<m):(xs.take m).getD i 0=xs.getD i 0:=by
 simp only[List.getD_eq_getElem?_getD,List.getElem?_take,if_pos h]
theorem ext_getD {xs ys:List Int} (n:Nat) (h1:xs.length=n) (h2:ys.length=n) (h:∀ i,i<n→xs.getD i 0=ys.getD i 0):xs=ys:=by
 apply List.ext_getElem (by omega);intro i hi hj;have:=h i (by omega);simpa[List.getD_eq_getElem?_getD,hi,hj] using this
theorem ov8_get (bs:List Int) (o:Nat) (v:Int) (k:Nat) (hk:o+k≤bs.length) (i:Nat) :
  (ov8 bs o v k).getD i 0=if o≤i∧i<o+k then v/2^(56-8*(i-o))%256 else bs.getD i 0:=by
 induction k with
 |zero=>rw[if_neg (by omega)];rfl
 |succ k ih=>
  have ih:=ih (by omega);unfold ov8;by_cases e:i=o+k
  ·rw[e,getD_set_same _ _ _ (by rw[ov8_len];omega),if_pos (by omega),show o+k-o=k by omega]
  ·rw[getD_set_other _ _ _ _ e,ih];by_cases c:o≤i∧i<o+k
   ·rw[if_pos c,if_pos (by omega)]
   ·rw[if_neg c,if_neg (by omega)]
theorem blkOf_get (zs:List Int) (i:Nat) (h:i<128):(blkOf zs).getD i 0=zs.getD i 0:=by
 unfold blkOf;rw[getD_app];split
 ·rw[getD_takeI _ _ _ h]
 ·next c=>rw[getD_rep0,getD_out];rw[List.length_take] at c;omega
theorem mrk_get (zs:List Int) (i:Nat) (h:i<128) (hl:zs.length<128):(mrk zs).getD i 0=if i=zs.length then 128 else zs.getD i 0:=by
 unfold mrk;by_cases e:i=zs.length
 ·rw[e,getD_set_same _ _ _ (by rw[blkOf_len];exact hl),if_pos rfl]
 ·rw[getD_set_other _ _ _ _ e,blkOf_get _ _ h,if_neg e]
theorem lenB_get (bs:List Int) (n:Nat) (hl:bs.length=128) (hn:n≤2097152) (i:Nat) :
  (lenB bs n).getD i 0=if i<112 then bs.getD i 0 else if i<120 then 0 else if i<128 then(by8 (8*(n:Int))).getD (i-120) 0 else 0:=by
 unfold lenB;rw[ov8_get _ _ _ _ (by rw[ov8_len];omega),ov8_get _ _ _ _ (by omega)];have hw:IntKind.u64.wrap ((n:Int)*8)=8*(n:Int):=by rw[IntKind.wrap_u64];omega
 have h61:(n:Int)/2^61=0:=by omega
 rw[hw,h61];by_cases a:i<112
 ·rw[if_neg (by omega),if_neg (by omega),if_pos a]
 ·rw[if_neg a];by_cases b:i<120
  ·rw[if_neg (by omega),if_pos (by omega),if_pos b,Int.zero_ediv];rfl
  ·rw[if_neg b];by_cases c:i<128
   ·rw[if_pos (by omega),if_pos c,by8_get _ _ (by omega)]
   ·rw[if_neg (by omega),if_neg (by omega),if_neg c,getD_out _ _ (by omega)]
theorem padL_len (zs:List Int):(padL zs).length=zs.length+1+padZ zs.length+16:=by
 unfold padL;simp[by8_len];omega
theorem padL_get (zs:List Int) (i:Nat):(padL zs).getD i 0=if i<zs.length then zs.getD i 0 else if i=zs.length then 128 else if i<zs.length+1+padZ zs.length+8 then 0 else(by8 (8*(zs.length:Int))).getD (i-(zs.length+1+padZ zs.length+8)) 0:=by
 unfold padL;rw[getD_app,getD_app,getD_app,getD_app];simp only[List.length_append,List.length_replicate,List.length_cons,List.length_nil,getD_rep0,Nat.zero_add];by_cases a:i<zs.length
 ·rw[if_pos (by omega),if_pos (by omega),if_pos (by omega),if_pos a,if_pos a]
 ·rw[if_neg a,if_neg a];by_cases b:i=zs.length
  ·rw[if_pos (by omega),if_pos (by omega),if_pos (by omega),if_pos b,b,Nat.sub_self];rfl
  ·rw[if_neg b];by_cases c:i<zs.length+1+padZ zs.length+8
   ·rw[if_pos c,if_pos c];split
    ·rw[if_neg (by omega)]
    ·rfl
   ·rw[if_neg c,if_neg c]
def mbl (zs:List Int):Nat→List Int
 |0=>ivL
 |k+1=>mixL (mbl zs k) (((padL zs).drop (128*k)).take 128)
theorem mbl_w8 (zs:List Int) (k:Nat):W8 (mbl zs k):=by
 cases k with
 |zero=>exact ivL_w8
 |succ k=>exact mixL_w8 _ _
def nBl (n:Nat):Nat:=(n+1+padZ n+16)/128
theorem nBl_len (zs:List Int):(padL zs).length=128*nBl zs.length:=by
 have h:=padZ_spec zs.length;rw[padL_len];unfold nBl;omega
theorem pblk_len (zs:List Int) (k:Nat) (h:k<nBl zs.length):(((padL zs).drop (128*k)).take 128).length=128:=by
 rw[List.length_take,List.length_drop,nBl_len];omega
theorem pblk_get (zs:List Int) (k i:Nat) (h:i<128):(((padL zs).drop (128*k)).take 128).getD i 0=(padL zs).getD (128*k+i) 0:=by
 rw[getD_takeI _ _ _ h,getD_dropI]
theorem mbl_lo (zs:List Int) (k:Nat) (h:128*k≤zs.length):mbl zs k=blks zs k:=by
 induction k with
 |zero=>rfl
 |succ k ih=>
  have hs:=padZ_spec zs.length;have hk:k<nBl zs.length:=by unfold nBl;omega
  show mixL (mbl zs k) _=mixL (blks zs k) _
  rw[ih (by omega)]
  congr 1
  refine ext_getD 128 (pblk_len zs k hk) (blkOf_len _) fun i hi=>?_
  rw[pblk_get _ _ _ hi,blkOf_get _ _ hi,getD_dropI,padL_get,if_pos (by omega)]
theorem mbl_fin (zs:List Int) (hn:zs.length≤2097152):mbl zs (nBl zs.length)=finL (blks zs (zs.length/128)) (zs.drop (128*(zs.length/128))) zs.length:=by
 obtain⟨n,hn'⟩:∃ n,n=zs.length:=⟨_,rfl⟩
 obtain⟨q,hq⟩:∃ q,q=n/128:=⟨_,rfl⟩
 rw[←hn',←hq];have hs:=padZ_spec n;have hdl:(zs.drop (128*q)).length=n-128*q:=by rw[List.length_drop,hn']
 have hlo:=mbl_lo zs q (by omega);unfold finL;by_cases c:n-128*q<112
 ·have e:nBl n=q+1:=by unfold nBl;omega
  have eT:n+1+padZ n=128*q+112:=by omega
  rw[if_pos (by omega),e];have e1:((padL zs).drop (128*q)).take 128=lenB (mrk (zs.drop (128*q))) n:=?_
  ·show mixL (mbl zs q) _=_
   rw[hlo,e1]
  refine ext_getD 128 (pblk_len zs q (by rw[←hn',e];omega)) (lenB_len (mrk_len _) _) fun i hi=>?_
  rw[pblk_get _ _ _ hi,lenB_get _ _ (mrk_len _) (by omega),padL_get,←hn',eT];by_cases a:i<112
  ·rw[if_pos a,mrk_get _ _ hi (by omega),hdl,getD_dropI];by_cases b:i<n-128*q
   ·rw[if_pos (by omega),if_neg (by omega)]
   ·rw[if_neg (by omega)];by_cases d:i=n-128*q
    ·rw[if_pos (by omega),if_pos d]
    ·rw[if_neg (by omega),if_pos (by omega),if_neg d,getD_out];omega
  ·rw[if_neg a,if_neg (by omega),if_neg (by omega)];by_cases b:i<120
   ·rw[if_pos b,if_pos (by omega)]
   ·rw[if_neg b,if_neg (by omega),if_pos hi];rw[show 128*q+i-(128*q+112+8)=i-120 by omega]
 ·have e:nBl n=q+2:=by unfold nBl;omega
  have eT:n+1+padZ n=128*q+240:=by omega
  rw[if_neg (by omega),e];have e1:((padL zs).drop (128*q)).take 128=mrk (zs.drop (128*q)):=by
   refine ext_getD 128 (pblk_len zs q (by rw[←hn',e];omega)) (mrk_len _) fun i hi=>?_
   rw[pblk_get _ _ _ hi,padL_get,←hn',eT,mrk_get _ _ hi (by omega),hdl,getD_dropI];by_cases b:i<n-128*q
   ·rw[if_pos (by omega),if_neg (by omega)]
   ·rw[if_neg (by omega)];by_cases d:i=n-128*q
    ·rw[if_pos (by omega),if_pos d]
    ·rw[if_neg (by omega),if_pos (by omega),if_neg d,getD_out];omega
  have e2:((padL zs).drop (128*(q+1))).take 128=lenB (List.replicate 128 0) n:=by
   refine ext_getD 128 (pblk_len zs (q+1) (by rw[←hn',e];omega)) (lenB_len (by simp) _) fun i hi=>?_
   rw[pblk_get _ _ _ hi,lenB_get _ _ (by simp) (by omega),padL_get,←hn',eT,if_neg (by omega),if_neg (by omega),getD_rep0];by_cases b:i<120
   ·rw[if_pos (by omega)];by_cases d:i<112
    ·rw[if_pos d]
    ·rw[if_neg d,if_pos b]
   ·rw[if_neg (by omega),if_neg (by omega),if_neg b,if_pos hi];rw[show 128*(q+1)+i-(128*q+240+8)=i-120 by omega]
  generalize lenB (List.replicate 128 0) (n:Int)=X at *;generalize mrk (zs.drop (128*q))=Y at *;have e3:mbl zs (q+1)=mixL (blks zs q) Y:=by rw[←hlo,←e1];rfl
  rw[←e3,←e2];rfl
theorem mbl_sha (zs:List Int) (hn:zs.length≤2097152):txtW (mbl zs (nBl zs.length))=shaL zs:=by
 rw[mbl_fin zs hn];rfl
theorem padL_byte {zs:List Int} (hz:Byte zs):Byte (padL zs):=by
 intro z h;unfold padL at h;simp only[List.mem_append,List.mem_replicate,List.mem_singleton] at h;rcases h with (((h|rfl)|⟨_,rfl⟩)|⟨_,rfl⟩)|h
 ·exact hz z h
 ·exact⟨by decide,by decide⟩
 ·exact⟨by decide,by decide⟩
 ·exact⟨by decide,by decide⟩
 ·exact by8_byte _ z h
def tkB (zs:List Int):Bool:=decide (zs.length=72) && (decide (zs.getD 0 0=84) && decide (zs.getD 1 0=49))
def tkS (zs:List Int):Int:=zs.getD 2 0+256*zs.getD 3 0
def tkE (zs:List Int):Int:=zs.getD 4 0+256*zs.getD 5 0+65536*zs.getD 6 0+16777216*zs.getD 7 0
def tkV (zs:List Int):Value:=bif tkB zs then .agg #[.bool true,.int .i64 (tkS zs),.int .i64 (tkE zs)] else .agg #[.bool false,.int .i64 0,.int .i64 0]
theorem tkV_no {zs:List Int} (h:tkB zs=false):tkV zs=.agg #[.bool false,.int .i64 0,.int .i64 0]:=by unfold tkV;rw[h];rfl
theorem tkV_yes {zs:List Int} (h:tkB zs=true):tkV zs=.agg #[.bool true,.int .i64 (tkS zs),.int .i64 (tkE zs)]:=by unfold tkV;rw[h];rfl
theorem drop_two (zs:List Int) (k:Nat) (h:k+2≤zs.length):(zs.drop k).take 2=[zs.getD k 0,zs.getD (k+1) 0]:=by
 apply List.ext_getElem
 ·simp;omega
 ·intro i h1 h2;have:i=0∨i=1:=by simp at h2;omega
  rcases this with rfl|rfl
  ·simp[List.getD,show k<zs.length by omega]
  ·simp[List.getD,show k+1<zs.length by omega]
theorem drop_four (zs:List Int) (k:Nat) (h:k+4≤zs.length):(zs.drop k).take 4=[zs.getD k 0,zs.getD (k+1) 0,zs.getD (k+2) 0,zs.getD (k+3) 0]:=by
 apply List.ext_getElem
 ·simp;omega
 ·intro i h1 h2;have:i=0∨i=1∨i=2∨i=3:=by simp at h2;omega
  rcases this with rfl|rfl|rfl|rfl
  ·simp[List.getD,show k<zs.length by omega]
  ·simp[List.getD,show k+1<zs.length by omega]
  ·simp[List.getD,show k+2<zs.length by omega]
  ·simp[List.getD,show k+3<zs.length by omega]
theorem tkS_eq {zs:List Int} (h:zs.length=72):val 256 ((zs.drop 2).take 2)=tkS zs:=by
 rw[drop_two zs 2 (by omega)];unfold tkS;simp only[val,show 2+1=3 from rfl];omega
theorem tkE_eq {zs:List Int} (h:zs.length=72):val 256 ((zs.drop 4).take 4)=tkE zs:=by
 rw[drop_four zs 4 (by omega)];unfold tkE;simp only[val,show 4+1=5 from rfl,show 4+2=6 from rfl,show 4+3=7 from rfl];omega
theorem At.sub {k:IntKind} {w:World} {b off:Nat} {zs:List Int} (hb:b<w.heap.size) (h:∀ i,i<zs.length→w.cell? ⟨b,off+i,none⟩=some (.int k (zs.getD i 0))) (p m:Nat) (hp:p+m≤zs.length) :
  At k w (some ⟨b,off+p,none⟩) ((zs.drop p).take m):=by
 refine .inr ⟨b,off+p,rfl,hb,fun i hi=>?_⟩;have hi':i<m:=by simp at hi;omega
 rw[Nat.add_assoc,h (p+i) (by omega)];simp[List.getD,hi',show p+i<zs.length by omega]
theorem Byte.sub {zs:List Int} (h:Byte zs) (p m:Nat):Byte ((zs.drop p).take m):=fun z hz=>h z (List.mem_of_mem_drop (List.mem_of_mem_take hz))
theorem below_drewQ {B:Nat} {a w:World} (h:Below B a w) (n:Nat):Below B a (w.drewN n):=⟨h.os,h.tape,h.output,h.size,h.block⟩
set_option maxRecDepth 100000 in
set_option maxHeartbeats 1000000 in
theorem ptI_any (a:Option Addr) (n cap:Nat) (zs:List Int) (w:World) (hn:zs.length=n) (hm:n≤1048576) (hcap:n≤cap) (ha:At .u8 w a zs) (hz:Byte zs) :
  Calls Tryz.prog 91 #[.slice a n cap] w fun e w'=>e=.returned (tkV zs)∧Below w.heap.size w w':=by
 have HBN:Hid (Below w.heap.size w (w.alloc (.cells #[.bool false,.int .i64 0,.int .i64 0] 86))):=(Below.refl _ _).alloc (Nat.le_refl _) _;have HSF:Hid ((Tryz.prog.info? 86).map (·.size)=some 3):=by show _=_;kernel_rfl
 by_cases h72:n=72
 ·subst h72;obtain⟨b,off,rfl,hb,hc⟩:=ha.get (by omega);have hb':b≠w.heap.size:=by omega
  have c0:(w.alloc (.cells #[.bool false,.int .i64 0,.int .i64 0] 86)).cell? ⟨b,off,none⟩=some (.int .u8 (zs.getD 0 0)):=by rw[World.cell?_alloc_old _ _ _ hb'];exact hc 0 (by omega)
  have c1:(w.alloc (.cells #[.bool false,.int .i64 0,.int .i64 0] 86)).cell? ⟨b,off+1,none⟩=some (.int .u8 (zs.getD 1 0)):=by rw[World.cell?_alloc_old _ _ _ hb'];exact hc 1 (by omega)
  have HTB:Hid (tkB zs=(decide (zs.getD 0 0=84) && decide (zs.getD 1 0=49))):=by show _=_;unfold tkB;rw[hn];rfl
  by_cases h0:zs.getD 0 0=84
  ·rw[h0] at c0;by_cases h1:zs.getD 1 0=49
   ·have HV:=hdI <| tkV_yes (by rw[HTB.out,h0,h1];rfl)
    rw[h1] at c1;have AT:∀(p m:Nat) (q:Nat),p+m≤72→At .u8 ((w.alloc (.cells #[.bool false,.int .i64 0,.int .i64 0] 86)).drewN q) (some ⟨b,off+p,none⟩) ((zs.drop p).take m):=fun p m q h=>
     At.sub (w:=(w.alloc (.cells #[.bool false,.int .i64 0,.int .i64 0] 86)).drewN q) (show b<((w.alloc (.cells #[.bool false,.int .i64 0,.int .i64 0] 86))).heap.size by simp;omega) (fun i hi=>by show((w.alloc (.cells #[.bool false,.int .i64 0,.int .i64 0] 86))).cell? _=_;rw[World.cell?_alloc_old _ _ _ hb'];exact hc i hi) p m (by omega)
    have C2:Hid (∀ q,Calls Tryz.prog 101 #[.slice (some ⟨b,off+2,none⟩) 2 (cap-2)] ((w.alloc (.cells #[.bool false,.int .i64 0,.int .i64 0] 86)).drewN q) fun e w'=>e=.returned (.int .i64 (tkS zs))∧w'=(w.alloc (.cells #[.bool false,.int .i64 0,.int .i64 0] 86)).drewN q):=fun q=>by
     rw[←tkS_eq hn];exact le_any _ 2 (cap-2) _ _ (by simp;omega) (by decide) (AT 2 2 q (by decide)) (hz.sub 2 2)
    have C4:Hid (∀ q,Calls Tryz.prog 101 #[.slice (some ⟨b,off+4,none⟩) 4 (cap-4)] ((w.alloc (.cells #[.bool false,.int .i64 0,.int .i64 0] 86)).drewN q) fun e w'=>e=.returned (.int .i64 (tkE zs))∧w'=(w.alloc (.cells #[.bool false,.int .i64 0,.int .i64 0] 86)).drewN q):=fun q=>by
     rw[←tkE_eq hn];exact le_any _ 4 (cap-4) _ _ (by simp;omega) (by decide) (AT 4 4 q (by decide)) (hz.sub 4 4)
    have x1:(4:Int)≤(cap:Int):=by omega
    have x2:(8:Int)≤(cap:Int):=by omega
    have x3:¬ cap=2:=by omega
    have x4:¬ cap=4:=by omega
    go_enter Tryz.func91,Tryz.ntmps91;go_wp2_with fail;refine wp_region_any (by kernel_rfl) ?_;refine wpAny_slotsL 7 (fun w w'=>True) (frame:=(fun (a b c d e f g h i j k l m n o p q r s:Value)=>fun (t:Nat→Value)=>({ tmps:=List.toArray [a,b,c,d,e,f,g,h,i,j,k,l,m,n,o,p,q,r,s,t 0,t 1,t 2,t 3,t 4,t 5,t 6],defers:=[] }:Act)) _ _ _ _ _ _ _ _ _ _ _ _ _ _ _ _ _ _ _)
     (Ext:=fun w'=>∃ q,w'=(w.alloc (.cells #[.bool false,.int .i64 0,.int .i64 0] 86)).drewN q) (Good:=fun i _ v=>if i=0 then v=.slice (some ⟨b,off,none⟩) 72 cap else if i=1 then v=.slice (some ⟨b,off+2,none⟩) 2 (cap-2) else if i=2 then v=.int .i64 (tkS zs) else if i=3 then v=.slice (some ⟨b,off,none⟩) 72 cap else if i=4 then v=.slice (some ⟨b,off+4,none⟩) 4 (cap-4) else if i=5 then v=.int .i64 (tkE zs) else if i=6 then v=.agg #[.bool true,.int .i64 (tkS zs),.int .i64 (tkE zs)] else True) (by rfl) (by kernel_rfl) (fun i w w' v _ h=>h) (by kernel_rfl) (by kernel_rfl) ?hop ?hend _ _ ((fun (x0 x1 x2 x3 x4 x5 x6:Value)=>fun (i:Nat)=>if i=0 then x0 else if i=1 then x1 else if i=2 then x2 else if i=3 then x3 else if i=4 then x4 else if i=5 then x5 else if i=6 then x6 else undef) _ _ _ _ _ _ _) _ (by simp) (by simp) ?ext ?start (by simp)
    case start=>intro i hi h;exact absurd h (by rw[Array.getD_eq_getD_getElem?,Array.getElem?_replicate];split<;>simp)
    case ext=>exact⟨1,rfl⟩
    case hop=>
     intro i o t w' hil ho hx hdep K hK;obtain⟨q,rfl⟩:=hx;obtain rfl|rfl|rfl|rfl|rfl|rfl|rfl:i=0∨i=1∨i=2∨i=3∨i=4∨i=5∨i=6:=by omega
     all_goals(simp at ho;subst ho)
     ·clear hdep;have hK':=hK ((w.alloc (.cells #[.bool false,.int .i64 0,.int .i64 0] 86)).drewN q) (.slice (some ⟨b,off,none⟩) 72 cap) (by simp) ⟨q,rfl⟩ trivial;go_simp;simpa[upd] using hK'
     ·have d0:t 0=.slice (some ⟨b,off,none⟩) 72 cap:=by simpa using hdep ⟨0,.data⟩ (by simp) rfl
      have hK':=hK ((w.alloc (.cells #[.bool false,.int .i64 0,.int .i64 0] 86)).drewN q) (.slice (some ⟨b,off+2,none⟩) 2 (cap-2)) (by simp) ⟨q,rfl⟩ trivial;go_simp;simpa[upd,d0] using hK'
     ·have d1:t 1=.slice (some ⟨b,off+2,none⟩) 2 (cap-2):=by simpa using hdep ⟨1,.data⟩ (by simp) rfl
      have hK':=hK ((w.alloc (.cells #[.bool false,.int .i64 0,.int .i64 0] 86)).drewN q) (.int .i64 (tkS zs)) (by simp) ⟨q,rfl⟩ trivial;go_simp;try simp only[d1]
      refine(C2.out q).mono ?_;rintro e w9 ⟨rfl,rfl⟩;go_simp;simpa[upd,d1] using hK'
     ·clear hdep;have hK':=hK ((w.alloc (.cells #[.bool false,.int .i64 0,.int .i64 0] 86)).drewN q) (.slice (some ⟨b,off,none⟩) 72 cap) (by simp) ⟨q,rfl⟩ trivial;go_simp;simpa[upd] using hK'
     ·have d3:t 3=.slice (some ⟨b,off,none⟩) 72 cap:=by simpa using hdep ⟨3,.data⟩ (by simp) rfl
      have hK':=hK ((w.alloc (.cells #[.bool false,.int .i64 0,.int .i64 0] 86)).drewN q) (.slice (some ⟨b,off+4,none⟩) 4 (cap-4)) (by simp) ⟨q,rfl⟩ trivial;go_simp;simpa[upd,d3] using hK'
     ·have d4:t 4=.slice (some ⟨b,off+4,none⟩) 4 (cap-4):=by simpa using hdep ⟨4,.data⟩ (by simp) rfl
      have hK':=hK ((w.alloc (.cells #[.bool false,.int .i64 0,.int .i64 0] 86)).drewN q) (.int .i64 (tkE zs)) (by simp) ⟨q,rfl⟩ trivial;go_simp;try simp only[d4]
      refine(C4.out q).mono ?_;rintro e w9 ⟨rfl,rfl⟩;go_simp;simpa[upd,d4] using hK'
     ·have d2:t 2=.int .i64 (tkS zs):=by simpa using hdep ⟨2,.data⟩ (by simp) rfl
      have d5:t 5=.int .i64 (tkE zs):=by simpa using hdep ⟨5,.data⟩ (by simp) rfl
      have hK':=hK ((w.alloc (.cells #[.bool false,.int .i64 0,.int .i64 0] 86)).drewN q) (.agg #[.bool true,.int .i64 (tkS zs),.int .i64 (tkE zs)]) (by simp) ⟨q,rfl⟩ trivial;go_simp;simpa[upd,d2,d5] using hK'
    case hend=>
     intro o t w' ho hx hg K hK;obtain⟨q,rfl⟩:=hx;simp at ho;subst ho;have d0:t 0=.slice (some ⟨b,off,none⟩) 72 cap:=by simpa using hg 0 (by decide)
     have d1:t 1=.slice (some ⟨b,off+2,none⟩) 2 (cap-2):=by simpa using hg 1 (by decide)
     have d2:t 2=.int .i64 (tkS zs):=by simpa using hg 2 (by decide)
     have d3:t 3=.slice (some ⟨b,off,none⟩) 72 cap:=by simpa using hg 3 (by decide)
     have d4:t 4=.slice (some ⟨b,off+4,none⟩) 4 (cap-4):=by simpa using hg 4 (by decide)
     have d5:t 5=.int .i64 (tkE zs):=by simpa using hg 5 (by decide)
     have d6:t 6=.agg #[.bool true,.int .i64 (tkS zs),.int .i64 (tkE zs)]:=by simpa using hg 6 (by decide)
     refine wp_store_row 86 (.tmp 2) (.tmp 25) rfl w.heap.size #[.bool true,.int .i64 (tkS zs),.int .i64 (tkE zs)] rfl d6 86 _ (show((w.alloc (.cells #[.bool false,.int .i64 0,.int .i64 0] 86))).heap[w.heap.size]?=_ from heap_alloc_new w _) HSF.out rfl (by simp[Value.oneCell']) ?_;apply hK;have HR5:Hid (((((w.alloc (.cells #[.bool false,.int .i64 0,.int .i64 0] 86))).drewN q).setRow w.heap.size #[.bool true,.int .i64 (tkS zs),.int .i64 (tkE zs)]).heap[w.heap.size]?=some (.cells #[.bool true,.int .i64 (tkS zs),.int .i64 (tkE zs)] 86 (0,0))):=
      setRow_heap _ _ _ _ _ _ (show((w.alloc (.cells #[.bool false,.int .i64 0,.int .i64 0] 86))).heap[w.heap.size]?=_ from heap_alloc_new w _)
     have HB5:Hid (Below w.heap.size w ((((w.alloc (.cells #[.bool false,.int .i64 0,.int .i64 0] 86))).drewN q).setRow w.heap.size #[.bool true,.int .i64 (tkS zs),.int .i64 (tkE zs)])):=
      (below_drewQ HBN.out q).trans ((Wr.setRow _ _ _).below (Nat.le_refl _))
     generalize (((w.alloc (.cells #[.bool false,.int .i64 0,.int .i64 0] 86))).drewN q).setRow w.heap.size #[.bool true,.int .i64 (tkS zs),.int .i64 (tkE zs)]=w5 at *;go_wp2_with fail;refine bodyPost_ret (v:=.agg #[.bool true,.int .i64 (tkS zs),.int .i64 (tkE zs)]) (results_cell_row rfl _ _ w.heap.size 86 _ (0,0) _ rfl HR5.out Tryz.underlying86 rfl HSF.out) rfl ⟨by rw[HV.out],HB5.out⟩
   ·have HV:=hdI <| tkV_no (by rw[HTB.out,h0];simpa using h1)
    have h1':(zs.getD 1 0 == 49)=false:=by simpa using h1
    generalize zs.getD 1 0=z1 at *;go_enter Tryz.func91,Tryz.ntmps91;go_wp2;refine bodyPost_ret (v:=.agg #[.bool false,.int .i64 0,.int .i64 0]) (results_cell_row rfl _ _ w.heap.size 86 _ (0,0) _ rfl (heap_alloc_new w _) Tryz.underlying86 rfl HSF.out) rfl ⟨by rw[HV.out],HBN.out⟩
  ·have HV:=hdI <| tkV_no (by rw[HTB.out,decide_eq_false h0];rfl)
   have h0':(zs.getD 0 0 != 84)=true:=by simpa using h0
   generalize zs.getD 0 0=z0 at *;go_enter Tryz.func91,Tryz.ntmps91;go_wp2;refine bodyPost_ret (v:=.agg #[.bool false,.int .i64 0,.int .i64 0]) (results_cell_row rfl _ _ w.heap.size 86 _ (0,0) _ rfl (heap_alloc_new w _) Tryz.underlying86 rfl HSF.out) rfl ⟨by rw[HV.out],HBN.out⟩
 ·have HV:Hid (tkV zs=.agg #[.bool false,.int .i64 0,.int .i64 0]):=tkV_no (by unfold tkB;rw[decide_eq_false (by omega)];rfl);have h72':¬ ((n:Int)=72):=by omega
  have h73:((n:Int) != 72)=true:=by simpa using h72'
  go_enter Tryz.func91,Tryz.ntmps91;go_wp2;refine bodyPost_ret (v:=.agg #[.bool false,.int .i64 0,.int .i64 0]) ?res rfl ?post
  case res=>exact(results_cell_row rfl _ _ w.heap.size 86 _ (0,0) _ rfl (heap_alloc_new w _) Tryz.underlying86 rfl HSF.out)
  case post=>exact⟨by rw[HV.out],HBN.out⟩
theorem tkE_u32 {zs:List Int} (hz:Byte zs):0≤tkE zs∧tkE zs<4294967296:=by
 have h4:=hz.get 4;have h5:=hz.get 5;have h6:=hz.get 6;have h7:=hz.get 7;unfold tkE;omega
set_option maxHeartbeats 400000 in
theorem getE_any (b off cap:Nat) (zs:List Int) (w:World) (hc:∀ i,i<zs.length→w.cell? ⟨b,off+i,none⟩=some (.int .u8 (zs.getD i 0))) (hz:Byte zs) (hl:zs.length=72) :
  Calls Tryz.prog 68 #[.slice (some ⟨b,off,none⟩) 72 cap,.int .i64 4] w fun e w'=>e=.returned (.int .u32 (tkE zs))∧∃ q,w'=w.drewN q:=by
 have c0:=hc 4 (by omega);have c1:=hc 5 (by omega);have c2:=hc 6 (by omega);have c3:=hc 7 (by omega);have b0:=hz.get 4;have b1:=hz.get 5;have b2:=hz.get 6;have b3:=hz.get 7;have HN:Hid (tkE zs=zs.getD 4 0+256*zs.getD 5 0+65536*zs.getD 6 0+16777216*zs.getD 7 0):=rfl;generalize zs.getD 4 0=x0 at *;generalize zs.getD 5 0=x1 at *;generalize zs.getD 6 0=x2 at *;generalize zs.getD 7 0=x3 at *;clear hc;obtain⟨b01,b02⟩:=b0;obtain⟨b11,b12⟩:=b1;obtain⟨b21,b22⟩:=b2;obtain⟨b31,b32⟩:=b3;go_enter Tryz.func68,Tryz.ntmps68;go_wp2
 go_quiet (fail)
 go_wp2
 go_ret
 exact⟨ret_int (by rw[HN.out]),nq,rfl⟩
set_option maxRecDepth 100000 in
set_option maxHeartbeats 1000000 in
theorem ptS_any (a:Option Addr) (n cap:Nat) (zs:List Int) (w:World) (hn:zs.length=n) (hm:n≤1048576) (hcap:n≤cap) (ha:At .u8 w a zs) (hz:Byte zs) :
  Calls Tryz.prog 42 #[.slice a n cap] w fun e w'=>e=.returned (tkV zs)∧Below w.heap.size w w':=by
 have HBN:Hid (Below w.heap.size w (w.alloc (.cells #[.bool false,.int .i64 0,.int .i64 0] 86))):=(Below.refl _ _).alloc (Nat.le_refl _) _;have HSF:Hid ((Tryz.prog.info? 86).map (·.size)=some 3):=by show _=_;kernel_rfl
 by_cases h72:n=72
 ·subst h72;obtain⟨b,off,rfl,hb,hc⟩:=ha.get (by omega);have hb':b≠w.heap.size:=by omega
  have c0:(w.alloc (.cells #[.bool false,.int .i64 0,.int .i64 0] 86)).cell? ⟨b,off,none⟩=some (.int .u8 (zs.getD 0 0)):=by rw[World.cell?_alloc_old _ _ _ hb'];exact hc 0 (by omega)
  have c1:(w.alloc (.cells #[.bool false,.int .i64 0,.int .i64 0] 86)).cell? ⟨b,off+1,none⟩=some (.int .u8 (zs.getD 1 0)):=by rw[World.cell?_alloc_old _ _ _ hb'];exact hc 1 (by omega)
  have HTB:Hid (tkB zs=(decide (zs.getD 0 0=84) && decide (zs.getD 1 0=49))):=by show _=_;unfold tkB;rw[hn];rfl
  by_cases h0:zs.getD 0 0=84
  ·rw[h0] at c0;by_cases h1:zs.getD 1 0=49
   ·have HV:=hdI <| tkV_yes (by rw[HTB.out,h0,h1];rfl)
    rw[h1] at c1;have b2:=hz.get 2;have b3:=hz.get 3;have c2:((w.alloc (.cells #[.bool false,.int .i64 0,.int .i64 0] 86))).cell? ⟨b,off+2,none⟩=some (.int .u8 (zs.getD 2 0)):=by rw[World.cell?_alloc_old _ _ _ hb'];exact hc 2 (by omega)
    have c3:((w.alloc (.cells #[.bool false,.int .i64 0,.int .i64 0] 86))).cell? ⟨b,off+3,none⟩=some (.int .u8 (zs.getD 3 0)):=by rw[World.cell?_alloc_old _ _ _ hb'];exact hc 3 (by omega)
    have C4:Hid (∀ q,Calls Tryz.prog 68 #[.slice (some ⟨b,off,none⟩) 72 cap,.int .i64 4] ((w.alloc (.cells #[.bool false,.int .i64 0,.int .i64 0] 86)).drewN q) fun e w'=>e=.returned (.int .u32 (tkE zs))∧∃ p,w'=(w.alloc (.cells #[.bool false,.int .i64 0,.int .i64 0] 86)).drewN p):=fun q=>
     (getE_any b off cap zs ((w.alloc (.cells #[.bool false,.int .i64 0,.int .i64 0] 86)).drewN q) (fun i hi=>by show((w.alloc (.cells #[.bool false,.int .i64 0,.int .i64 0] 86))).cell? _=_;rw[World.cell?_alloc_old _ _ _ hb'];exact hc i hi) hz hn).mono (fun e w' ⟨h,p,h'⟩=>⟨h,q+p,by rw[h'];simp[World.drewN,Nat.add_assoc]⟩)
    have hE:=tkE_u32 hz;have HS9:Hid (zs.getD 2 0+256*zs.getD 3 0=tkS zs):=rfl;obtain⟨hE0,hE1⟩:=hE;obtain⟨b20,b21⟩:=b2;obtain⟨b30,b31⟩:=b3;generalize zs.getD 2 0=z2 at *;generalize zs.getD 3 0=z3 at *;have W1:IntKind.i64.wrap z2=z2:=by rw[IntKind.wrap_i64];omega
    have W2:IntKind.i64.wrap z3=z3:=by rw[IntKind.wrap_i64];omega
    have W3:IntKind.i64.wrap (256*z3)=256*z3:=by rw[IntKind.wrap_i64];omega
    have W4:IntKind.i64.wrap (z2+256*z3)=z2+256*z3:=by rw[IntKind.wrap_i64];omega
    have W5:IntKind.i64.wrap (tkE zs)=tkE zs:=by rw[IntKind.wrap_i64];omega
    go_enter Tryz.func42,Tryz.ntmps42;go_wp2_with fail;refine wp_region_any (by kernel_rfl) ?_;refine wpAny_slotsL 14 (fun w w'=>True) (frame:=(fun (a b c d e f g h i j k l m n o p q r s:Value)=>fun (t:Nat→Value)=>({ tmps:=List.toArray [a,b,c,d,e,f,g,h,i,j,k,l,m,n,o,p,q,r,s,t 0,t 1,t 2,t 3,t 4,t 5,t 6,t 7,t 8,t 9,t 10,t 11,t 12,t 13],defers:=[] }:Act)) _ _ _ _ _ _ _ _ _ _ _ _ _ _ _ _ _ _ _)
     (Ext:=fun w'=>∃ q,w'=(w.alloc (.cells #[.bool false,.int .i64 0,.int .i64 0] 86)).drewN q) (Good:=fun i _ v=>if i=0 then v=.slice (some ⟨b,off,none⟩) 72 cap else if i=1 then v=.pointer (some ⟨b,off+2,none⟩) else if i=2 then v=.int .u8 z2 else if i=3 then v=.int .i64 z2 else if i=4 then v=.slice (some ⟨b,off,none⟩) 72 cap else if i=5 then v=.pointer (some ⟨b,off+3,none⟩) else if i=6 then v=.int .u8 z3 else if i=7 then v=.int .i64 z3 else if i=8 then v=.int .i64 (256*z3) else if i=9 then v=.int .i64 (z2+256*z3) else if i=10 then v=.slice (some ⟨b,off,none⟩) 72 cap else if i=11 then v=.int .u32 (tkE zs) else if i=12 then v=.int .i64 (tkE zs) else if i=13 then v=.agg #[.bool true,.int .i64 (z2+256*z3),.int .i64 (tkE zs)] else True) (by rfl) (by kernel_rfl) (fun i w w' v _ h=>h) (by kernel_rfl) (by kernel_rfl) ?hop ?hend _ _ ((fun (x0 x1 x2 x3 x4 x5 x6 x7 x8 x9 x10 x11 x12 x13:Value)=>fun (i:Nat)=>if i=0 then x0 else if i=1 then x1 else if i=2 then x2 else if i=3 then x3 else if i=4 then x4 else if i=5 then x5 else if i=6 then x6 else if i=7 then x7 else if i=8 then x8 else if i=9 then x9 else if i=10 then x10 else if i=11 then x11 else if i=12 then x12 else if i=13 then x13 else undef) _ _ _ _ _ _ _ _ _ _ _ _ _ _) _ (by simp) (by simp) ?ext ?start (by simp)
    case start=>intro i hi h;exact absurd h (by rw[Array.getD_eq_getD_getElem?,Array.getElem?_replicate];split<;>simp)
    case ext=>exact⟨1,rfl⟩
    case hop=>
     intro i o t w' hil ho hx hdep K hK;obtain⟨q,rfl⟩:=hx;obtain rfl|rfl|rfl|rfl|rfl|rfl|rfl|rfl|rfl|rfl|rfl|rfl|rfl|rfl:i=0∨i=1∨i=2∨i=3∨i=4∨i=5∨i=6∨i=7∨i=8∨i=9∨i=10∨i=11∨i=12∨i=13:=by omega
     all_goals(simp at ho;subst ho)
     ·clear hdep;have hK':=hK ((w.alloc (.cells #[.bool false,.int .i64 0,.int .i64 0] 86)).drewN q) (.slice (some ⟨b,off,none⟩) 72 cap) (by simp) ⟨q,rfl⟩ trivial;go_simp;simpa[upd,W1,W2,W3,W4,W5] using hK'
     ·have d0:t 0=.slice (some ⟨b,off,none⟩) 72 cap:=by simpa using hdep ⟨0,.data⟩ (by simp) rfl
      have hK':=hK ((w.alloc (.cells #[.bool false,.int .i64 0,.int .i64 0] 86)).drewN q) (.pointer (some ⟨b,off+2,none⟩)) (by simp) ⟨q,rfl⟩ trivial;go_simp;simpa[upd,d0,W1,W2,W3,W4,W5] using hK'
     ·have d1:t 1=.pointer (some ⟨b,off+2,none⟩):=by simpa using hdep ⟨1,.data⟩ (by simp) rfl
      have hK':=hK ((w.alloc (.cells #[.bool false,.int .i64 0,.int .i64 0] 86)).drewN q) (.int .u8 z2) (by simp) ⟨q,rfl⟩ trivial;go_simp;simpa[upd,d1,W1,W2,W3,W4,W5] using hK'
     ·have d2:t 2=.int .u8 z2:=by simpa using hdep ⟨2,.data⟩ (by simp) rfl
      have hK':=hK ((w.alloc (.cells #[.bool false,.int .i64 0,.int .i64 0] 86)).drewN q) (.int .i64 z2) (by simp) ⟨q,rfl⟩ trivial;go_simp;simpa[upd,d2,W1,W2,W3,W4,W5] using hK'
     ·clear hdep;have hK':=hK ((w.alloc (.cells #[.bool false,.int .i64 0,.int .i64 0] 86)).drewN q) (.slice (some ⟨b,off,none⟩) 72 cap) (by simp) ⟨q,rfl⟩ trivial;go_simp;simpa[upd,W1,W2,W3,W4,W5] using hK'
     ·have d4:t 4=.slice (some ⟨b,off,none⟩) 72 cap:=by simpa using hdep ⟨4,.data⟩ (by simp) rfl
      have hK':=hK ((w.alloc (.cells #[.bool false,.int .i64 0,.int .i64 0] 86)).drewN q) (.pointer (some ⟨b,off+3,none⟩)) (by simp) ⟨q,rfl⟩ trivial;go_simp;simpa[upd,d4,W1,W2,W3,W4,W5] using hK'
     ·have d5:t 5=.pointer (some ⟨b,off+3,none⟩):=by simpa using hdep ⟨5,.data⟩ (by simp) rfl
      have hK':=hK ((w.alloc (.cells #[.bool false,.int .i64 0,.int .i64 0] 86)).drewN q) (.int .u8 z3) (by simp) ⟨q,rfl⟩ trivial;go_simp;simpa[upd,d5,W1,W2,W3,W4,W5] using hK'
     ·have d6:t 6=.int .u8 z3:=by simpa using hdep ⟨6,.data⟩ (by simp) rfl
      have hK':=hK ((w.alloc (.cells #[.bool false,.int .i64 0,.int .i64 0] 86)).drewN q) (.int .i64 z3) (by simp) ⟨q,rfl⟩ trivial;go_simp;simpa[upd,d6,W1,W2,W3,W4,W5] using hK'
     ·have d7:t 7=.int .i64 z3:=by simpa using hdep ⟨7,.data⟩ (by simp) rfl
      have hK':=hK ((w.alloc (.cells #[.bool false,.int .i64 0,.int .i64 0] 86)).drewN q) (.int .i64 (256*z3)) (by simp) ⟨q,rfl⟩ trivial;go_simp;simpa[upd,d7,W1,W2,W3,W4,W5] using hK'
     ·have d3:t 3=.int .i64 z2:=by simpa using hdep ⟨3,.data⟩ (by simp) rfl
      have d8:t 8=.int .i64 (256*z3):=by simpa using hdep ⟨8,.data⟩ (by simp) rfl
      have hK':=hK ((w.alloc (.cells #[.bool false,.int .i64 0,.int .i64 0] 86)).drewN q) (.int .i64 (z2+256*z3)) (by simp) ⟨q,rfl⟩ trivial;go_simp;simpa[upd,d3,d8,W1,W2,W3,W4,W5] using hK'
     ·clear hdep;have hK':=hK ((w.alloc (.cells #[.bool false,.int .i64 0,.int .i64 0] 86)).drewN q) (.slice (some ⟨b,off,none⟩) 72 cap) (by simp) ⟨q,rfl⟩ trivial;go_simp;simpa[upd,W1,W2,W3,W4,W5] using hK'
     ·have d10:t 10=.slice (some ⟨b,off,none⟩) 72 cap:=by simpa using hdep ⟨10,.data⟩ (by simp) rfl
      have hK':=fun p=>hK ((w.alloc (.cells #[.bool false,.int .i64 0,.int .i64 0] 86)).drewN p) (.int .u32 (tkE zs)) (by simp) ⟨p,rfl⟩ trivial
      go_simp;try simp only[d10]
      refine(C4.out q).mono ?_;rintro e w9 ⟨rfl,p,rfl⟩;have hK2:=hK' p;go_simp;simpa[upd,d10] using hK2
     ·have d11:t 11=.int .u32 (tkE zs):=by simpa using hdep ⟨11,.data⟩ (by simp) rfl
      have hK':=hK ((w.alloc (.cells #[.bool false,.int .i64 0,.int .i64 0] 86)).drewN q) (.int .i64 (tkE zs)) (by simp) ⟨q,rfl⟩ trivial;go_simp;simpa[upd,d11,W1,W2,W3,W4,W5] using hK'
     ·have d9:t 9=.int .i64 (z2+256*z3):=by simpa using hdep ⟨9,.data⟩ (by simp) rfl
      have d12:t 12=.int .i64 (tkE zs):=by simpa using hdep ⟨12,.data⟩ (by simp) rfl
      have hK':=hK ((w.alloc (.cells #[.bool false,.int .i64 0,.int .i64 0] 86)).drewN q) (.agg #[.bool true,.int .i64 (z2+256*z3),.int .i64 (tkE zs)]) (by simp) ⟨q,rfl⟩ trivial;go_simp;simpa[upd,d9,d12,W1,W2,W3,W4,W5] using hK'
    case hend=>
     intro o t w' ho hx hg K hK;obtain⟨q,rfl⟩:=hx;simp at ho;subst ho;have d0:t 0=.slice (some ⟨b,off,none⟩) 72 cap:=by simpa using hg 0 (by decide)
     have d1:t 1=.pointer (some ⟨b,off+2,none⟩):=by simpa using hg 1 (by decide)
     have d2:t 2=.int .u8 z2:=by simpa using hg 2 (by decide)
     have d3:t 3=.int .i64 z2:=by simpa using hg 3 (by decide)
     have d4:t 4=.slice (some ⟨b,off,none⟩) 72 cap:=by simpa using hg 4 (by decide)
     have d5:t 5=.pointer (some ⟨b,off+3,none⟩):=by simpa using hg 5 (by decide)
     have d6:t 6=.int .u8 z3:=by simpa using hg 6 (by decide)
     have d7:t 7=.int .i64 z3:=by simpa using hg 7 (by decide)
     have d8:t 8=.int .i64 (256*z3):=by simpa using hg 8 (by decide)
     have d9:t 9=.int .i64 (z2+256*z3):=by simpa using hg 9 (by decide)
     have d10:t 10=.slice (some ⟨b,off,none⟩) 72 cap:=by simpa using hg 10 (by decide)
     have d11:t 11=.int .u32 (tkE zs):=by simpa using hg 11 (by decide)
     have d12:t 12=.int .i64 (tkE zs):=by simpa using hg 12 (by decide)
     have d13:t 13=.agg #[.bool true,.int .i64 (z2+256*z3),.int .i64 (tkE zs)]:=by simpa using hg 13 (by decide)
     refine wp_store_row 86 (.tmp 2) (.tmp 32) rfl w.heap.size #[.bool true,.int .i64 (z2+256*z3),.int .i64 (tkE zs)] rfl d13 86 _ (show((w.alloc (.cells #[.bool false,.int .i64 0,.int .i64 0] 86))).heap[w.heap.size]?=_ from heap_alloc_new w _) HSF.out rfl (by simp[Value.oneCell']) ?_;apply hK;have HR5:Hid (((((w.alloc (.cells #[.bool false,.int .i64 0,.int .i64 0] 86))).drewN q).setRow w.heap.size #[.bool true,.int .i64 (z2+256*z3),.int .i64 (tkE zs)]).heap[w.heap.size]?=some (.cells #[.bool true,.int .i64 (z2+256*z3),.int .i64 (tkE zs)] 86 (0,0))):=
      setRow_heap _ _ _ _ _ _ (show((w.alloc (.cells #[.bool false,.int .i64 0,.int .i64 0] 86))).heap[w.heap.size]?=_ from heap_alloc_new w _)
     have HB5:Hid (Below w.heap.size w ((((w.alloc (.cells #[.bool false,.int .i64 0,.int .i64 0] 86))).drewN q).setRow w.heap.size #[.bool true,.int .i64 (z2+256*z3),.int .i64 (tkE zs)])):=
      (below_drewQ HBN.out q).trans ((Wr.setRow _ _ _).below (Nat.le_refl _))
     generalize (((w.alloc (.cells #[.bool false,.int .i64 0,.int .i64 0] 86))).drewN q).setRow w.heap.size #[.bool true,.int .i64 (z2+256*z3),.int .i64 (tkE zs)]=w5 at *;go_wp2_with fail;refine bodyPost_ret (v:=.agg #[.bool true,.int .i64 (z2+256*z3),.int .i64 (tkE zs)]) (results_cell_row rfl _ _ w.heap.size 86 _ (0,0) _ rfl HR5.out Tryz.underlying86 rfl HSF.out) rfl ⟨by rw[HV.out,←HS9.out],HB5.out⟩
   ·have HV:=hdI <| tkV_no (by rw[HTB.out,h0];simpa using h1)
    have h1':(zs.getD 1 0 == 49)=false:=by simpa using h1
    generalize zs.getD 1 0=z1 at *;go_enter Tryz.func42,Tryz.ntmps42;go_wp2;refine bodyPost_ret (v:=.agg #[.bool false,.int .i64 0,.int .i64 0]) (results_cell_row rfl _ _ w.heap.size 86 _ (0,0) _ rfl (heap_alloc_new w _) Tryz.underlying86 rfl HSF.out) rfl ⟨by rw[HV.out],HBN.out⟩
  ·have HV:=hdI <| tkV_no (by rw[HTB.out,decide_eq_false h0];rfl)
   have h0':(zs.getD 0 0 != 84)=true:=by simpa using h0
   generalize zs.getD 0 0=z0 at *;go_enter Tryz.func42,Tryz.ntmps42;go_wp2;refine bodyPost_ret (v:=.agg #[.bool false,.int .i64 0,.int .i64 0]) (results_cell_row rfl _ _ w.heap.size 86 _ (0,0) _ rfl (heap_alloc_new w _) Tryz.underlying86 rfl HSF.out) rfl ⟨by rw[HV.out],HBN.out⟩
 ·have HV:Hid (tkV zs=.agg #[.bool false,.int .i64 0,.int .i64 0]):=tkV_no (by unfold tkB;rw[decide_eq_false (by omega)];rfl);have h72':¬ ((n:Int)=72):=by omega
  have h73:((n:Int) != 72)=true:=by simpa using h72'
  go_enter Tryz.func42,Tryz.ntmps42;go_wp2;refine bodyPost_ret (v:=.agg #[.bool false,.int .i64 0,.int .i64 0]) ?res rfl ?post
  case res=>exact(results_cell_row rfl _ _ w.heap.size 86 _ (0,0) _ rfl (heap_alloc_new w _) Tryz.underlying86 rfl HSF.out)
  case post=>exact⟨by rw[HV.out],HBN.out⟩
set_option maxRecDepth 100000 in
set_option maxHeartbeats 1000000 in
theorem clnI_any (a:Option Addr) (n cap:Nat) (xs:List Int) (w:World) (hn:xs.length=n) (hm:n≤1048576) (ha:At .i64 w a xs) :
  Calls Tryz.prog 46 #[.slice a n cap] w fun e w'=>∃ v,e=.returned v∧IO w.heap.size w' v xs∧Below w.heap.size w w':=by
 have E:=run_nilS 23 2 Tryz.underlying23 w a n cap;cases a with
 |none=>
  have hx:xs=[]:=by rcases ha with h|⟨b,o,e,_⟩;exact h;cases e
  have HP:Hid (IO w.heap.size w (.slice none 0 0) xs):=by
   subst hx
   skip
   exact⟨rfl,.inl ⟨rfl,rfl⟩⟩
  clear hn ha hm hx;go_enter Tryz.func46,Tryz.ntmps46;go_wp2
  go_ret
  exact⟨_,rfl,HP.out,Below.refl _ _⟩
 |some ad=>
  have bb:Below w.heap.size w (w.alloc (.cells #[] 2)):=(Below.refl _ _).alloc (Nat.le_refl _) _;have HA:Hid (At .i64 (w.alloc (.cells #[] 2)) (some ad) xs∧EmS w.heap.size 2 (w.alloc (.cells #[] 2)) (.slice (some ⟨w.heap.size,0,none⟩) 0 0)):=⟨ha.below bb,EmS.new _ w (Nat.le_refl _)⟩
  have HB:=hid_ofV bb;have HN:=hid_ofV (And.intro hn hm);clear hn ha hm bb;go_enter Tryz.func46,Tryz.ntmps46;go_wp2_with (first
   |(refine wpList_plain rfl fun K hK=>wp_appG 23 2 (.int .i64 0) 1 8 Tryz.infoI64 Tryz.underlying23 rfl (by decide) (by decide) _ (.tmp 5) (.tmp 6) rfl w.heap.size _ rfl HA.out.2 (some ad) n cap xs rfl (by rw[HN.out.1,Nat.mul_one]) HA.out.1 HN.out.2 (by simp) fun v' w3 ho hb=>hK _ _ ?_)
   |fail)
  have HF:Hid (IO w.heap.size w3 v' xs∧Below w.heap.size w w3):=⟨by first|exact ho|(unfold IO;rw[HN.out.1];exact ho),HB.out.trans (hb.mono HB.out.size)⟩
  clear ho hb HA HB HN;go_wp2
  go_ret
  exact⟨_,rfl,HF.out.1,HF.out.2⟩
theorem own_fresh {w0 w:World} {tE:TypeId} {k n:Nat} {v:Value} {xs:List Value} (h:w.ownsRow w0.heap.size tE k v n xs):FreshH w0 w v:=by
 intro j hj;rcases h.2 with⟨rfl,_⟩|⟨g,c,cur,rfl,hb,hh,_⟩
 ·rcases hj with⟨a,e,_⟩|⟨cs,e,_⟩<;>cases e
 ·rcases hj with⟨a,e,rfl⟩|⟨cs,e,_⟩
  ·cases e;exact⟨hb,(Array.getElem?_eq_some_iff.1 hh).1⟩
  ·cases e
theorem rowLo {w:World} {lo lo':Nat} {tE:TypeId} {k n:Nat} {v:Value} {xs:List Value} (h:w.ownsRow lo tE k v n xs) (hl:lo'≤lo):w.ownsRow lo' tE k v n xs:=by
 refine⟨h.1,?_⟩;rcases h.2 with h|⟨g,c,cur,e,hb,r⟩
 ·exact .inl h
 ·exact .inr ⟨g,c,cur,e,Nat.le_trans hl hb,r⟩
theorem IO.lo {lo lo':Nat} {w:World} {v:Value} {xs:List Int} (h:IO lo w v xs) (hl:lo'≤lo):IO lo' w v xs:=rowLo h hl
theorem TapO.lo {lo lo' n:Nat} {w:World} {v:Value} {xs:List Int} (h:TapO lo w v xs n) (hl:lo'≤lo):TapO lo' w v xs n:=rowLo h hl
theorem TapO.frm {B:Nat} {w:World} {v:Value} {T:List Int} {m:Nat} (h:TapO B w v T m):∃ a c,v=.slice a m c:=by
 rcases h.2 with⟨rfl,h0⟩|⟨g,c,cur,rfl,_⟩
 ·have:=h.1;rw[h0] at this;simp at this;exact⟨none,0,by rw[show m=0 by omega]⟩
 ·exact⟨_,_,rfl⟩
theorem ap_slice {a a':Option Addr} {n c n' c':Nat} (h:ApVH (.slice a n c) (.slice a' n' c')):Aprt a a':=fun x y e e' h'=>h x.block (.inl ⟨x,e,rfl⟩) (.inl ⟨y,e',h'.symm⟩)
theorem S3.lo {lo lo':Nat} {w:World} {aD aU aT:Option Addr} {nD nU nT:Nat} {D U T:List Int} (h:S3 lo w aD aU aT nD nU nT D U T) (hl:lo'≤lo):S3 lo' w aD aU aT nD nU nT D U T:=
 ⟨h.d,h.u,h.t,h.nd,h.nu,h.nt,h.ld.mono hl (Nat.le_refl _),h.lu.mono hl (Nat.le_refl _),h.lt.mono hl (Nat.le_refl _),h.du,h.dt,h.ut⟩
theorem s3_of {lo:Nat} {w:World} {aD aU aT:Option Addr} {nD cD nU cU nT cT:Nat} {D U T:List Int} (h1:IO lo w (.slice aD nD cD) D) (h2:IO lo w (.slice aU nU cU) U) (h3:TapO lo w (.slice aT nT cT) T nT) (a1:Aprt aD aU) (a2:Aprt aD aT) (a3:Aprt aU aT):S3 lo w aD aU aT nD nU nT D U T:=by
 obtain⟨d1,d2,d3⟩:=h1.sat;obtain⟨u1,u2,u3⟩:=h2.sat;obtain⟨t1,t2,t3⟩:=h3.tapV.sat;exact⟨d1,u1,t1,d2,u2,t2,d3,u3,t3,a1,a2,a3⟩
def STY (lo:Nat) (w:World) (v:Value) (D U:List Int) (k:Int) (T:List Int) (nT:Nat):Prop:=∃ bD mD dD bU mU dU bT dT,v=.agg #[.slice bD mD dD,.slice bU mU dU,.int .i64 k,.slice bT nT dT]∧S3 lo w bD bU bT mD mU nT D U T
theorem STY.below {lo:Nat} {w w':World} {v:Value} {D U:List Int} {k:Int} {T:List Int} {nT:Nat} (h:STY lo w v D U k T nT) (b:Below w.heap.size w w'):STY lo w' v D U k T nT:=by
 obtain⟨bD,mD,dD,bU,mU,dU,bT,dT,e,h⟩:=h;exact⟨bD,mD,dD,bU,mU,dU,bT,dT,e,h.below b⟩
set_option maxRecDepth 100000 in
set_option maxHeartbeats 4000000 in
theorem cpSt_any (aD aU aT:Option Addr) (nD cD nU cU nT cT:Nat) (D U:List Int) (k:Int) (T:List Int) (w:World) (hD:D.length=nD) (hU:U.length=nU) (hT:T.length=nT*2) (mD:nD≤1048576) (mU:nU≤1048576) (mT:nT≤1048576) (haD:At .i64 w aD D) (haU:At .i64 w aU U) (haT:At .i64 w aT T) :
  Calls Tryz.prog 24 #[.agg #[.slice aD nD cD,.slice aU nU cU,.int .i64 k,.slice aT nT cT]] w fun e w'=>∃ v,e=.returned v∧STY w.heap.size w' v D U k T nT∧Below w.heap.size w w':=by
 have HCD:=hid_ofV (fun ww (b:Below w.heap.size w ww)=>clnI_any aD nD cD D ww hD mD (haD.below b));have HCU:=hid_ofV (fun ww (b:Below w.heap.size w ww)=>clnI_any aU nU cU U ww hU mU (haU.below b));have HCT:=hid_ofV (fun ww (b:Below w.heap.size w ww)=>clnT0_any aT nT cT T ww hT mT (haT.below b));have HSZ:Hid ((Tryz.prog.info? 26).map (·.size)=some 4):=by show _=_;kernel_rfl
 have HE1:Hid (BE w 26 #[.slice aD nD cD,.slice aU nU cU,.int .i64 k,.slice aT nT cT] #[.slice none 0 0,.slice none 0 0,.int .i64 0,.slice none 0 0] ((w.alloc (.cells #[.slice aD nD cD,.slice aU nU cU,.int .i64 k,.slice aT nT cT] 26)).alloc (.cells #[.slice none 0 0,.slice none 0 0,.int .i64 0,.slice none 0 0] 26))):=BE.start _ _ _ _;have HL1:=hdI <| (Array.getElem?_eq_some_iff.1 HE1.out.b0).1
 clear hD hU hT mD mU mT haD haU haT;go_enter Tryz.func24,Tryz.ntmps24;go_wp2_with fail;generalize ((w.alloc (.cells #[.slice aD nD cD,.slice aU nU cU,.int .i64 k,.slice aT nT cT] 26)).alloc (.cells #[.slice none 0 0,.slice none 0 0,.int .i64 0,.slice none 0 0] 26))=w1 at *;refine wp_region_any (by kernel_rfl) ?_;refine wpAny_slotsF 12 (fun _ a b=>Below a.heap.size a b) (frame:=(fun (a b c:Value)=>fun (t:Nat→Value)=>({ tmps:=List.toArray [a,b,c,t 0,t 1,t 2,t 3,t 4,t 5,t 6,t 7,t 8,t 9,t 10,t 11],defers:=[] }:Act)) _ _ _)
  (Ext:=fun L u w'=>ApH w1 [2,5,10] L u w') (Good:=fun i L w' v=>if i=0 then v=.pointer (some ⟨w.heap.size,0,none⟩) else if i=1 then v=.slice aD nD cD else if i=2 then IO w1.heap.size w' v D else if i=3 then v=.pointer (some ⟨w.heap.size,1,none⟩) else if i=4 then v=.slice aU nU cU else if i=5 then IO w1.heap.size w' v U else if i=6 then v=.pointer (some ⟨w.heap.size,2,none⟩) else if i=7 then v=.int .i64 k else if i=8 then v=.pointer (some ⟨w.heap.size,3,none⟩) else if i=9 then v=.slice aT nT cT else if i=10 then TapO w1.heap.size w' v T nT else if i=11 then STY w1.heap.size w' v D U k T nT else True) (Fin:=fun _ ww=>∃ bD mD dD bU mU dU bT dT,ww.heap[w.heap.size+1]?=some (.cells #[.slice bD mD dD,.slice bU mU dU,.int .i64 k,.slice bT nT dT] 26 (0,0))∧S3 w.heap.size ww bD bU bT mD mU nT D U T∧Below w.heap.size w ww) rfl (by kernel_rfl) ?hstab (by kernel_rfl) ?hop ?hend ?hdone _ _ ((fun (x0 x1 x2 x3 x4 x5 x6 x7 x8 x9 x10 x11:Value)=>fun (i:Nat)=>if i=0 then x0 else if i=1 then x1 else if i=2 then x2 else if i=3 then x3 else if i=4 then x4 else if i=5 then x5 else if i=6 then x6 else if i=7 then x7 else if i=8 then x8 else if i=9 then x9 else if i=10 then x10 else if i=11 then x11 else undef) _ _ _ _ _ _ _ _ _ _ _ _) _ (by simp) ?none ?ext (by simp)
 case none=>intro i;rw[Array.getD_eq_getD_getElem?,Array.getElem?_replicate];split<;>rfl
 case ext=>exact ApH.start w1 [2,5,10] _ _ (fun i=>by rw[Array.getD_eq_getD_getElem?,Array.getElem?_replicate];split<;>rfl) ⟨rfl,rfl,rfl,Nat.le_refl _,fun _ _=>rfl⟩
 case hstab=>
  intro j L w9 w' i v _ hM _ _ h;by_cases h2:j=2
  ·subst h2;simp at h ⊢;exact h.below hM
  by_cases h5:j=5
  ·subst h5;simp at h ⊢;exact h.below hM
  by_cases h10:j=10
  ·subst h10;simp at h ⊢;exact h.below hM
  by_cases h11:j=11
  ·subst h11;simp at h ⊢;exact h.below hM
  simp only[if_neg h2,if_neg h5,if_neg h10,if_neg h11] at h ⊢;exact h
 case hop=>
  intro i o L t w' hi ho hLi hx hdep K hK;have cX:∀ q9:Nat,w'.cell? ⟨w.heap.size,q9,none⟩=(#[.slice aD nD cD,.slice aU nU cU,.int .i64 k,.slice aT nT cT]:Array Value)[q9]?:=fun q9=>by rw[World.cell?_of_block (a:=⟨w.heap.size,q9,none⟩) (w:=w1) (hx.below.block _ HL1.out),cell_of_row w1 w.heap.size q9 _ _ _ HE1.out.b0]
  obtain rfl|rfl|rfl|rfl|rfl|rfl|rfl|rfl|rfl|rfl|rfl|rfl:i=0∨i=1∨i=2∨i=3∨i=4∨i=5∨i=6∨i=7∨i=8∨i=9∨i=10∨i=11:=by omega
  all_goals(simp at ho;subst ho)
  all_goals try(have hK':=hK w' _ rfl (hx.step _ _ (Below.refl _ _) (fun h=>absurd h (by decide))) (Below.refl _ _);clear hK;simp[Region.binds] at hdep;rw[if_pos (by rfl)];go_simp;simpa[upd,hdep] using hK')
  ·have d1:t 1=.slice aD nD cD:=by simpa using(hdep ⟨1,.data⟩ (by simp) rfl).2
   clear hdep;have bw:=HE1.out.below.trans (hx.below.mono HE1.out.below.size);have hsz:=hx.below.size;have A:=HCD.out w' bw;have hK':∀ ww v,IO w1.heap.size ww v D→FreshH w' ww v→Below w'.heap.size w' ww→K _ ww:=fun ww v hv hf hb=>hK ww v (by simpa using hv) (hx.step 2 v hb (fun _=>hf)) hb
   clear hK;rw[if_pos (by rfl)];go_simp;try simp only[d1]
   refine A.mono ?_;rintro e w9 ⟨v9,rfl,h9,hb9⟩;have hK2:=hK' w9 v9 (h9.lo hsz) (own_fresh h9) hb9;clear hK' A h9 hb9;go_simp;simpa[upd,d1] using hK2
  ·have d4:t 4=.slice aU nU cU:=by simpa using(hdep ⟨4,.data⟩ (by simp) rfl).2
   clear hdep;have bw:=HE1.out.below.trans (hx.below.mono HE1.out.below.size);have hsz:=hx.below.size;have A:=HCU.out w' bw;have hK':∀ ww v,IO w1.heap.size ww v U→FreshH w' ww v→Below w'.heap.size w' ww→K _ ww:=fun ww v hv hf hb=>hK ww v (by simpa using hv) (hx.step 5 v hb (fun _=>hf)) hb
   clear hK;rw[if_pos (by rfl)];go_simp;try simp only[d4]
   refine A.mono ?_;rintro e w9 ⟨v9,rfl,h9,hb9⟩;have hK2:=hK' w9 v9 (h9.lo hsz) (own_fresh h9) hb9;clear hK' A h9 hb9;go_simp;simpa[upd,d4] using hK2
  ·have d9:t 9=.slice aT nT cT:=by simpa using(hdep ⟨9,.data⟩ (by simp) rfl).2
   clear hdep;have bw:=HE1.out.below.trans (hx.below.mono HE1.out.below.size);have hsz:=hx.below.size;have A:=HCT.out w' bw;have hK':∀ ww v,TapO w1.heap.size ww v T nT→FreshH w' ww v→Below w'.heap.size w' ww→K _ ww:=fun ww v hv hf hb=>hK ww v (by simpa using hv) (hx.step 10 v hb (fun _=>hf)) hb
   clear hK;rw[if_pos (by rfl)];go_simp;try simp only[d9]
   refine A.mono ?_;rintro e w9 ⟨v9,rfl,h9,hb9⟩;have hK2:=hK' w9 v9 (h9.lo hsz) (own_fresh h9) hb9;clear hK' A h9 hb9;go_simp;simpa[upd,d9] using hK2
  ·have l2:=(hdep ⟨2,.data⟩ (by simp) rfl).1;have f2:IO w1.heap.size w' (t 2) D:=by simpa using(hdep ⟨2,.data⟩ (by simp) rfl).2
   have l5:=(hdep ⟨5,.data⟩ (by simp) rfl).1;have f5:IO w1.heap.size w' (t 5) U:=by simpa using(hdep ⟨5,.data⟩ (by simp) rfl).2
   have d7:t 7=.int .i64 k:=by simpa using(hdep ⟨7,.data⟩ (by simp) rfl).2
   have l10:=(hdep ⟨10,.data⟩ (by simp) rfl).1;have f10:TapO w1.heap.size w' (t 10) T nT:=by simpa using(hdep ⟨10,.data⟩ (by simp) rfl).2
   clear hdep;have a1:=hx.ap 2 (by decide) 5 (by decide) (by decide) l2 l5;have a2:=hx.ap 2 (by decide) 10 (by decide) (by decide) l2 l10;have a3:=hx.ap 5 (by decide) 10 (by decide) (by decide) l5 l10;obtain⟨bD,mD,dD,eD⟩:=f2.form;obtain⟨bU,mU,dU,eU⟩:=f5.form;obtain⟨bT,dT,eT⟩:=f10.frm;rw[eD] at f2 a1 a2;rw[eU] at f5 a1 a3;rw[eT] at f10 a2 a3;have hsv:STY w1.heap.size w' (.agg #[.slice bD mD dD,.slice bU mU dU,.int .i64 k,.slice bT nT dT]) D U k T nT:=⟨bD,mD,dD,bU,mU,dU,bT,dT,rfl,s3_of f2 f5 f10 (ap_slice a1) (ap_slice a2) (ap_slice a3)⟩
   have hK':=hK w' _ (by simpa using hsv) (hx.step 11 _ (Below.refl _ _) (fun h=>absurd h (by decide))) (Below.refl _ _);clear hK f2 f5 f10 hsv a1 a2 a3;rw[if_pos (by rfl)];go_simp;simpa[upd,d7,eD,eU,eT] using hK'
 case hend=>
  intro o L t w' ho hx hg K hK;simp at ho;subst ho;have f11:STY w1.heap.size w' (t 11) D U k T nT:=by simpa using(hg 11 (by decide)).2
  clear hg;obtain⟨bD,mD,dD,bU,mU,dU,bT,dT,e11,s11⟩:=f11;have hrs:=(hx.below.block _ (Array.getElem?_eq_some_iff.1 HE1.out.b1).1).trans HE1.out.b1;have hK':∀ ww,Wr (w.heap.size+1) w' ww→ww.heap[w.heap.size+1]?=some (.cells #[.slice bD mD dD,.slice bU mU dU,.int .i64 k,.slice bT nT dT] 26 (0,0))→K _ ww:=fun ww hw hr=>hK ww undef ⟨bD,mD,dD,bU,mU,dU,bT,dT,hr,(s11.keep (Nat.le_of_eq hw.size.symm) (fun k hk _=>hw.block k (by have:=(Array.getElem?_eq_some_iff.1 HE1.out.b1).1;omega))).lo (by have:=HE1.out.below.size;omega),(HE1.out.below.trans (hx.below.mono HE1.out.below.size)).trans (hw.below (by omega))⟩
  clear hK s11;rw[if_pos (by rfl)];refine wp_store_row 26 (.tmp 2) (.tmp 14) rfl (w.heap.size+1) #[.slice bD mD dD,.slice bU mU dU,.int .i64 k,.slice bT nT dT] rfl e11 26 _ hrs HSZ.out rfl (by simp[Value.oneCell']) ?_;have hK2:=hK' _ (Wr.setRow _ _ _) (setRow_heap _ _ _ _ _ _ hrs);clear hK';simpa[upd,Act.put] using hK2
 case hdone=>
  intro t w9 hf;obtain⟨bD,mD,dD,bU,mU,dU,bT,dT,hr,hI,hb9⟩:=hf;have HR9:Hid (w9.heap[w.heap.size+1]?=some (.cells #[.slice bD mD dD,.slice bU mU dU,.int .i64 k,.slice bT nT dT] 26 (0,0))):=hr;have HF:Hid (STY w.heap.size w9 (.agg #[.slice bD mD dD,.slice bU mU dU,.int .i64 k,.slice bT nT dT]) D U k T nT∧Below w.heap.size w w9):=⟨⟨bD,mD,dD,bU,mU,dU,bT,dT,rfl,hI⟩,hb9⟩
  clear hr hI hb9;go_wp2_with fail;exact bodyPost_ret (v:=.agg #[.slice bD mD dD,.slice bU mU dU,.int .i64 k,.slice bT nT dT]) (results_cell_row rfl _ _ (w.heap.size+1) 26 _ (0,0) _ rfl HR9.out Tryz.underlying26 rfl HSZ.out) rfl ⟨_,rfl,HF.out.1,HF.out.2⟩
end Go.Proofs.YtncomnkdlpoelaaGreatDoor
