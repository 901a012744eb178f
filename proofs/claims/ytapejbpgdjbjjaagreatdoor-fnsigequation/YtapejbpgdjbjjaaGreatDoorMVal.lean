import Derived.Test.YtapejbpgdjbjjaaGreatDoorRows
import Derived.Test.YtapejbpgdjbjjaaGreatDoorMBase
import Derived.Deep.AppendLies
import Derived.Deep.MidRow
import Derived.Laws.BitsAllLaws
namespace Go.Proofs.YtapejbpgdjbjjaaGreatDoor
set_option linter.unusedVariables false
def val (B:Int):List Int→Int
 |[]=>0
 |z::zs=>z+B*val B zs
def Dig (B:Int) (zs:List Int):Prop:=∀ z∈zs,0≤z∧z<B
theorem val_append (B:Int) (xs ys:List Int):val B (xs++ys)=val B xs+B^xs.length*val B ys:=by
 induction xs with
 |nil=>simp[val]
 |cons x xs ih=>simp only[List.cons_append,val,List.length_cons,ih,Int.pow_succ];grind
theorem val_snoc (B:Int) (xs:List Int) (x:Int):val B (xs++[x])=val B xs+x*B^xs.length:=by
 rw[val_append];simp only[val];grind
theorem Dig.snoc {B:Int} {xs:List Int} {x:Int} (h:Dig B xs) (h0:0≤x) (h1:x<B):Dig B (xs++[x]):=by
 intro z hz;simp at hz;rcases hz with h'|rfl
 ·exact h z h'
 ·exact⟨h0,h1⟩
theorem Dig.nil (B:Int):Dig B []:=fun _ h=>by simp at h
theorem Dig.tail {B:Int} {x:Int} {xs:List Int} (h:Dig B (x::xs)):Dig B xs:=fun z hz=>h z (by simp[hz])
theorem Dig.head {B:Int} {x:Int} {xs:List Int} (h:Dig B (x::xs)):0≤x∧x<B:=h x (by simp)
theorem val_nonneg {B:Int} (hB:0<B) {xs:List Int} (h:Dig B xs):0≤val B xs:=by
 induction xs with
 |nil=>simp[val]
 |cons x xs ih=>
  have:=h.head;have i:=ih h.tail;have:=Int.mul_nonneg (Int.le_of_lt hB) i;simp only[val];omega
theorem val_lt {B:Int} (hB:0<B) {xs:List Int} (h:Dig B xs):val B xs<B^xs.length:=by
 induction xs with
 |nil=>simp[val]
 |cons x xs ih=>
  obtain⟨h0,h1⟩:=h.head;have i:=ih h.tail;have h2:B*(val B xs+1)≤B*B^xs.length:=Int.mul_le_mul_of_nonneg_left (by omega) (by omega);simp only[val,List.length_cons,Int.pow_succ]
  grind
theorem val_inj {B:Int} (hB:0<B) {xs ys:List Int} (hx:Dig B xs) (hy:Dig B ys) (hl:xs.length=ys.length) (h:val B xs=val B ys):xs=ys:=by
 induction xs generalizing ys with
 |nil=>cases ys with
  |nil=>rfl
  |cons y ys=>simp at hl
 |cons x xs ih=>cases ys with
  |nil=>simp at hl
  |cons y ys=>
   obtain⟨h0,h1⟩:=hx.head;obtain⟨h2,h3⟩:=hy.head;simp only[val] at h;have e:x=y:=by
    have a1:(x+B*val B xs)%B=x:=by rw[Int.add_mul_emod_self_left];exact Int.emod_eq_of_lt h0 h1
    have a2:(y+B*val B ys)%B=y:=by rw[Int.add_mul_emod_self_left];exact Int.emod_eq_of_lt h2 h3
    rw[←a1,h,a2]
   subst e;have e2:val B xs=val B ys:=by
    have:B*val B xs=B*val B ys:=by omega
    exact Int.eq_of_mul_eq_mul_left (by omega) this
   rw[ih hx.tail hy.tail (by simpa using hl) e2]
theorem val_take (B:Int) (xs:List Int) (k:Nat) (h:k<xs.length):val B (xs.take (k+1))=val B (xs.take k)+xs.getD k 0*B^k:=by
 have:xs.take (k+1)=xs.take k++[xs.getD k 0]:=by
  rw[List.take_succ_eq_append_getElem h,List.getD_eq_getElem?_getD,List.getElem?_eq_getElem h];rfl
 rw[this,val_snoc,List.length_take,Nat.min_eq_left (by omega)]
theorem val_carry (B P x s t c r:Int) (h:s+c*P=t) (hr:r=x*P):(s+(x+c)%B*P)+(x+c)/B*(P*B)=t+r:=by
 have e:(x+c)%B+B*((x+c)/B)=x+c:=Int.emod_add_mul_ediv _ _
 have e2:((x+c)%B+B*((x+c)/B))*P=(x+c)*P:=by rw[e]
 grind
theorem val_digit {B:Int} (hB:0<B) {ns:List Int} (h:Dig B ns) (q:Nat):val B ns/B^q%B=ns.getD q 0:=by
 induction ns generalizing q with
 |nil=>simp[val]
 |cons n ns ih=>
  obtain⟨h0,h1⟩:=h.head;cases q with
  |zero=>
   simp only[val,Int.pow_zero,Int.ediv_one,List.getD_cons_zero];rw[Int.add_mul_emod_self_left];exact Int.emod_eq_of_lt h0 h1
  |succ q=>
   have e:(n+B*val B ns)/B=val B ns:=by
    rw[Int.add_mul_ediv_left _ _ (by omega),Int.ediv_eq_zero_of_lt h0 h1];omega
   rw[List.getD_cons_succ,←ih h.tail q];simp only[val];rw[Int.pow_succ,Int.mul_comm (B^q) B,←Int.ediv_ediv_of_nonneg (by omega),e]
theorem val_set (B:Int) (ns:List Int) (q:Nat) (x:Int) (hq:q<ns.length):val B (ns.set q x)=val B ns+(x-ns.getD q 0)*B^q:=by
 induction ns generalizing q with
 |nil=>simp at hq
 |cons n ns ih=>
  cases q with
  |zero=>simp only[List.set_cons_zero,val,List.getD_cons_zero,Int.pow_zero];omega
  |succ q=>
   simp only[List.set_cons_succ,val,List.getD_cons_succ];rw[ih q (by simpa using hq),Int.pow_succ];grind
end Go.Proofs.YtapejbpgdjbjjaaGreatDoor
namespace Go.Proofs.YtapejbpgdjbjjaaGreatDoor
open Go.ChangeShapes Go.WideShapes Go.ChangeAt Go.RowKit
set_option linter.unusedVariables false
theorem Tryz.infoU8':(Tryz.prog.info? 5).map (fun i=>(i.zero,i.size,i.bytes))=some (some (.int .u8 0),1,1):=by kernel_rfl
def Part (w:World) (v:Value) (zs:List Int):Prop:=
 ∃ b o c,v=.slice (some ⟨b,o,none⟩) zs.length c∧b<w.heap.size∧∀ i,i<zs.length→w.cell? ⟨b,o+i,none⟩=some (.int .u8 (zs.getD i 0))
def Own (w:World) (B:Nat) (v:Value) (zs:List Int):Prop:=
 w.ownsRow B 5 1 v zs.length (zs.map (Value.int .u8))∧∃ g c,v=.slice (some ⟨g,0,none⟩) zs.length c
theorem Own.base {w:World} {B:Nat} {v:Value} {zs:List Int} (h:Own w B v zs):∃ g c,v=.slice (some ⟨g,0,none⟩) zs.length c∧B≤g∧g<w.heap.size∧zs.length≤c:=by
 obtain⟨h,g,c,rfl⟩:=h
 rcases h.2 with⟨h',_⟩|⟨g',c',cur,h',hb,hh,hc,_⟩
 ·cases h'
 ·cases h';exact⟨g,c,rfl,hb,(Array.getElem?_eq_some_iff.1 hh).1,hc⟩
theorem Own.part {w:World} {B:Nat} {v:Value} {zs:List Int} (h:Own w B v zs):Part w v zs:=by
 obtain⟨g,c,rfl,hb,hg,hc⟩:=h.base
 refine⟨g,0,c,rfl,hg,fun i hi=>?_⟩
 rw[Nat.zero_add,h.1.cellAt i (by omega)];simp[hi]
theorem Part.below {w w':World} {v:Value} {zs:List Int} (h:Part w v zs) (hb:Below w.heap.size w w'):Part w' v zs:=by
 obtain⟨b,o,c,rfl,hl,hc⟩:=h
 exact⟨b,o,c,rfl,by have:=hb.size;omega,fun i hi=>by rw[hb.cell (p:=⟨b,o+i,none⟩) hl];exact hc i hi⟩
theorem Own.empty (w:World) (B:Nat) (hB:B≤w.heap.size):Own (w.alloc (.cells #[] 5)) B (.slice (some ⟨w.heap.size,0,none⟩) 0 0) []:=
 ⟨World.ownsRow_lit w #[] 0 hB (by simp) (by simp),_,_,rfl⟩
theorem Own.alloc {w:World} {B:Nat} {v:Value} {zs:List Int} (h:Own w B v zs) (o:Obj):Own (w.alloc o) B v zs:=⟨h.1.alloc _,h.2⟩
theorem wpList_app (w:World) {ops:Array Oper} {rest:List Oper} {o:Oper} {a:Act} {Q:Exit→Act→World→Prop}
  (hg:o.guard=none) (s x:Operand) (hop:o.op=Op.call { callee:=Callee.builtin Builtin.append,args:=#[s,x],argTypes:=#[22,22] })
  (B:Nat) (v:Value) (xs:List Int) (hs:a.eval s=v) (hown:Own w B v xs) (ad:Addr) (m c:Nat) (news:List Int) (hx:a.eval x=.slice (some ad) m c) (hl:news.length=m)
  (hnews:∀ j,j<m→w.cell? (ad.add j)=some (.int .u8 (news.getD j 0))) (hb:xs.length+m≤1099511627776) (hB:B≤w.heap.size)
  (hK:∀ v' w',Own w' B v' (xs++news)→Below B w w'→w.grownBy w' v.ownBlock→wpList Tryz.prog ops Q rest (a.put o.dst v') w') :
  wpList Tryz.prog ops Q (o::rest) a w:=by
 obtain⟨i0,hi,hz0,hz1,hz2⟩:=info_parts Tryz.infoU8'
 have hbase:=hown.base
 refine wpList_append_own w hg s x 22 hop B 5 i0 (.int .u8 0) 1 1 Tryz.underlying22 hi hz0 hz1 hz2 rfl (by decide) v xs.length _ hs hown.1 ad m c (news.map (Value.int .u8)) hx (by simp[hl]) ?_ (ints_oneCell _ _) (by unfold maxLen;omega) (by omega) hB ?_
 ·intro j u hu;have hj:j<news.length:=by have:=(List.getElem?_eq_some_iff.1 hu).1;simpa using this
  rw[hnews j (by omega)];simp[hj] at hu;simp[hj,hu]
 ·intro v' w' h1 h2 h3;obtain⟨g,c0,hv,hBg,_,_⟩:=hbase;have hbel:Below B w w':=(Below.refl _ _).grown h2 hB (fun k hk=>by rw[hv] at hk;simp[Value.ownBlock] at hk;omega);refine hK v' w' ⟨?_,?_⟩ hbel h2
  ·rw[List.map_append,List.length_append,hl];exact h1
  ·rcases h1.2 with⟨h',_⟩|⟨g',c',cur,h',_⟩
   ·exact absurd (h3.1 h').1 (by rw[hv];simp)
   ·exact⟨g',c',by rw[h',List.length_append,hl]⟩
end Go.Proofs.YtapejbpgdjbjjaaGreatDoor
namespace Go.Proofs.YtapejbpgdjbjjaaGreatDoor
open Go.ChangeShapes Go.WideShapes Go.ChangeAt Go.RowKit
set_option linter.unusedVariables false
def lB:List Int:=[0xed,0xd3,0xf5,0x5c,0x1a,0x63,0x12,0x58,0xd6,0x9c,0xf7,0xa2,0xde,0xf9,0xde,0x14,0,0,0,0,0,0,0,0,0,0,0,0,0,0,0,0x10]
def bigL:Int:=7237005577332262213973186563042994240857116359379907606001950938285454250989
theorem lB_val:val 256 lB=bigL:=by decide
theorem lB_byte:Byte lB:=by unfold Byte lB;decide
theorem Own.lit (w:World) (B:Nat) (zs:List Int) (hB:B≤w.heap.size) (hl:zs.length≤1024):Own (w.alloc (.cells (zs.map (Value.int .u8)).toArray 5)) B (.slice (some ⟨w.heap.size,0,none⟩) zs.length zs.length) zs:=
 ⟨by
  have:=World.ownsRow_lit w (e:=5) (size:=1) (base:=B) (zs.map (Value.int .u8)).toArray zs.length hB (by unfold maxLen;omega) (by simp);exact this,_,_,rfl⟩
set_option maxHeartbeats 400000 in
theorem l4L_any (w:World) :
  Calls Tryz.prog 20 #[] w fun e w'=>∃ v,e=.returned v∧Own w' w.heap.size v lB∧Below w.heap.size w w':=by
 have HO:=Own.lit w w.heap.size lB (Nat.le_refl _) (by decide)
 go_enter Tryz.func20,Tryz.ntmps20
 go_wp2
 go_ret
 exact⟨_,rfl,HO,(Below.refl _ _).alloc (Nat.le_refl _) _⟩
def LessPost (w:World) (xs ys:List Int) (e:Ending) (w':World):Prop:=
 ∃ v zs,e=.returned (.tuple #[v,.bool (decide (val 256 ys≤val 256 xs))])∧Own w' w.heap.size v zs∧Byte zs∧zs.length=xs.length∧(val 256 ys≤val 256 xs→val 256 zs=val 256 xs-val 256 ys)∧Below w.heap.size w w'
theorem less_step (p q z P x y b x' b':Int) (h:p-q=z-b*P) (hx:x'-b'*256=x-y-b):(p+x*P)-(q+y*P)=(z+x'*P)-b'*(P*256):=by
 have:(x'-b'*256)*P=(x-y-b)*P:=by rw[hx]
 grind
theorem less_end (p q z P b:Int) (h:p-q=z-b*P) (hz:0≤z) (hz':z<P) (hb:b=0∨b=1):(b == 0)=decide (q≤p)∧(q≤p→z=p-q):=by
 rcases hb with rfl|rfl
 ·have:q≤p:=by omega
  simp[this];omega
 ·have:¬ q≤p:=by omega
  simp[this]
set_option maxHeartbeats 400000 in
theorem less_any (a a':Option Addr) (n cap cap':Nat) (xs ys:List Int) (w:World) (hn:xs.length=n) (hn':ys.length=n) (hm:n≤1048576) (ha:At .u8 w a xs) (ha':At .u8 w a' ys) (hx:Byte xs) (hy:Byte ys) :
  Calls Tryz.prog 42 #[.slice a n cap,.slice a' n cap'] w (LessPost w xs ys):=by
 go_enter Tryz.func42,Tryz.ntmps42
 go_wp2
 go_loopw [6,7,8] (fun v c i wr=>∃(k:Nat) (zs:List Int) (b:Int),k≤n∧i=.int .i64 k∧c=.int .i64 b∧(b=0∨b=1)∧zs.length=k∧Byte zs∧val 256 (xs.take k)-val 256 (ys.take k)=val 256 zs-b*256^k∧Own wr w.heap.size v zs∧Below w.heap.size w wr) (fun _ _ i _=>n-(intOf i).toNat)
 case atStart=>exact⟨0,[],0,Nat.zero_le _,rfl,rfl,.inl rfl,rfl,by simp[Byte],by simp[val],Own.empty _ _ (Nat.le_refl _),(Below.refl _ _).alloc (Nat.le_refl _) _⟩
 case round=>
  obtain⟨k,zs,b,hk,rfl,rfl,hb,hzl,hzb,hv,hown,hbel⟩:=hrel;by_cases hlt:k<n
  ·have hsz:=hbel.size;have vx:=val_take 256 xs k (by omega);have vy:=val_take 256 ys k (by omega);obtain⟨b0,off,rfl,hb0,hc⟩:=(ha.below hbel).get (by omega);obtain⟨b1,off',rfl,hb1,hc'⟩:=(ha'.below hbel).get (by omega);have c0:=hc k (by omega);have c1:=hc' k (by omega);have hx0:=hx.get k;have hy0:=hy.get k;obtain⟨x',b',hb',hx0',hx1',hx2⟩:∃ x' b':Int,(b'=0∨b'=1)∧0≤x'∧x'<256∧x'-b'*256=xs.getD k 0-ys.getD k 0-b:=by
    by_cases h:xs.getD k 0-ys.getD k 0-b<0
    ·exact⟨xs.getD k 0-ys.getD k 0-b+256,1,.inr rfl,by omega,by omega,by omega⟩
    ·exact⟨xs.getD k 0-ys.getD k 0-b,0,.inl rfl,by omega,by omega,by omega⟩
   have hstep:=less_step _ _ _ _ _ _ _ _ _ hv hx2;rw[←vx,←vy,show(256:Int)^k*256=256^(k+1) from(Int.pow_succ _ _).symm,←hzl,←val_snoc,hzl] at hstep;have HS:Hid _:=hstep;have HBy:Hid (Byte (zs++[x'])):=Dig.snoc (B:=256) hzb hx0' hx1';have HZL:Hid (zs.length=k):=hzl;clear hstep hv vx vy hc hc' ha ha' hx hy hzb hzl;generalize xs.getD k 0=x at *;generalize ys.getD k 0=y at *;obtain⟨hx0,hx1⟩:=hx0;obtain⟨hy0,hy1⟩:=hy0;have hlt':(k:Int)<(n:Int):=by omega
   go_wp2
   go_quiet (fail)
   have O2:Own (wr.drewN nq) w.heap.size u6 zs:=hown;have B2:Below w.heap.size w (wr.drewN nq):=⟨hbel.os,hbel.tape,hbel.output,hbel.size,hbel.block⟩
   have Z2:w.heap.size≤(wr.drewN nq).heap.size:=hsz;clear hown hbel hsz c0 c1 hb0 hb1;generalize wr.drewN nq=w2 at *;have ht0:-257<x-y-b:=by omega
   have ht1:x-y-b<256:=by omega
   generalize x-y-b=t at *;by_cases hneg:t<0
   ·obtain rfl:b'=1:=by omega
    obtain rfl:x'=t+256:=by omega
    clear hx2 hb hb';go_wp2_with (at_builtin;refine wpList_app _ rfl _ _ rfl w.heap.size _ _ rfl (O2.alloc _) ⟨w2.heap.size,0,none⟩ 1 1 [t+256] rfl rfl ?c1 ?c2 ?c3 ?_);all_goals first|(intro j hj;obtain rfl:j=0:=by omega
                                                                                                                                                                                         simp[Addr.add];done)|skip
    case c2=>rw[HZL.out];omega
    case c3=>first|omega|(rw[World.size_alloc];omega)
    intro v' w3 hown' hbel' _;have HO:Hid (Own w3 w.heap.size v' (zs++[t+256])):=hown';have HB:Hid (Below w.heap.size w w3):=(B2.alloc (by omega) _).trans hbel';clear O2 hown' B2 hbel';go_wp2;go_roundw
    case rel=>exact⟨k+1,zs++[t+256],1,by omega,by go_num,rfl,.inr rfl,by rw[List.length_append,HZL.out];rfl,HBy.out,HS.out,HO.out,HB.out⟩
    case measure=>simp[intOf];omega
   ·obtain rfl:b'=0:=by omega
    obtain rfl:x'=t:=by omega
    have hneg':decide (x'<0)=false:=by simpa using hneg
    clear hx2 hb hb' hneg';go_wp2_with (at_builtin;(refine wpList_app _ rfl _ _ rfl w.heap.size _ _ rfl (O2.alloc _) ⟨w2.heap.size,0,none⟩ 1 1 [x'] rfl rfl ?d1 ?d2 ?d3 ?_));all_goals first|(intro j hj;obtain rfl:j=0:=by omega
                                                                                                                                                                                              simp[Addr.add];done)|skip
    case d2=>rw[HZL.out];omega
    case d3=>first|omega|(rw[World.size_alloc];omega)
    intro v' w3 hown' hbel' _;have HO:Hid (Own w3 w.heap.size v' (zs++[x'])):=hown';have HB:Hid (Below w.heap.size w w3):=(B2.alloc (by omega) _).trans hbel';clear O2 hown' B2 hbel';go_wp2;go_roundw
    case rel=>exact⟨k+1,zs++[x'],0,by omega,by go_num,rfl,.inl rfl,by rw[List.length_append,HZL.out];rfl,HBy.out,HS.out,HO.out,HB.out⟩
    case measure=>simp[intOf];omega
  ·rw[List.take_of_length_le (by omega),List.take_of_length_le (by omega)] at hv;have z0:0≤val 256 zs:=val_nonneg (by decide) hzb;have z1:val 256 zs<256^k:=by rw[←hzl];exact val_lt (by decide) hzb
   obtain⟨e1,e2⟩:=less_end _ _ _ _ _ hv z0 z1 hb;have H1:Hid ((b == 0)=decide (val 256 ys≤val 256 xs)):=e1;have H2:Hid (val 256 ys≤val 256 xs→val 256 zs=val 256 xs-val 256 ys):=e2;have H3:Hid (Own wr w.heap.size u6 zs):=hown;have HZL:Hid (zs.length=xs.length):=by rw[hzl];show k=xs.length;omega
   clear e1 e2 z0 z1 hv hown hzl;go_wp2;refine bodyPost_ret (v:=.tuple #[u6,.bool (b == 0)]) (by simp[results,Tryz.results42,go_sem]) rfl ⟨u6,zs,by rw[H1.out],H3.out,hzb,HZL.out,H2.out,hbel⟩
end Go.Proofs.YtapejbpgdjbjjaaGreatDoor
namespace Go.Proofs.YtapejbpgdjbjjaaGreatDoor
open Go.ChangeShapes Go.WideShapes Go.ChangeAt Go.RowKit
set_option linter.unusedVariables false
theorem WrG.bel {g:Nat} {w wr w':World} (h:WrG g w wr) (hb:Below w.heap.size wr w'):WrG g w w':=
 ⟨hb.os.trans h.os,hb.tape.trans h.tape,hb.output.trans h.output,Nat.le_trans h.size hb.size,fun k hk hg=>(hb.block k hk).trans (h.block k hk hg)⟩
theorem CurB.keepE {w w':World} {g:Nat} {x:Option Addr} {n cap:Nat} (h:CurB w g x n cap) (hb:w'.heap[g]?=w.heap[g]?):CurB w' g x n cap:=by
 obtain⟨i0,h0,p1,p2,p3,p4,p5⟩:=h
 exact⟨i0,h0,p1,p2,p3,p4,by rw[hb];exact p5⟩
theorem Own.keepE {w w':World} {B:Nat} {v:Value} {zs:List Int} (h:Own w B v zs) (hk:∀ k,B≤k→k<w.heap.size→w'.heap[k]?=w.heap[k]?):Own w' B v zs:=by
 refine⟨⟨h.1.1,?_⟩,h.2⟩
 rcases h.1.2 with h'|⟨g',c',cur,h',hBg,hh,r⟩
 ·exact .inl h'
 ·exact .inr ⟨g',c',cur,h',hBg,by rw[hk g' hBg (Array.getElem?_eq_some_iff.1 hh).1];exact hh,r⟩
theorem Own.monoE {w:World} {B B':Nat} {v:Value} {zs:List Int} (h:Own w B v zs) (hB:B'≤B):Own w B' v zs:=by
 refine⟨⟨h.1.1,?_⟩,h.2⟩
 rcases h.1.2 with h'|⟨g',c',cur,h',hBg,hh,r⟩
 ·exact .inl h'
 ·exact .inr ⟨g',c',cur,h',Nat.le_trans hB hBg,hh,r⟩
theorem byte_app1 {zs:List Int} (hz:Byte zs) {x:Int} (hx:0≤x∧x<256):Byte (zs++[x]):=fun v hv=>by
 rcases List.mem_append.1 hv with h|h
 ·exact hz v h
 ·rw[List.mem_singleton] at h;rw[h];exact hx
theorem hid_ofE {p:Prop} (h:p):Hid p:=h
def SomePost (w:World) (g:Nat) (x:Option Addr) (n cap m:Nat) (e:Ending) (w':World):Prop:=
 ∃ v zs,e=.returned v∧Own w' w.heap.size v zs∧Byte zs∧zs.length=m∧CurB w' g x n cap∧WrG g w w'
set_option maxHeartbeats 1000000 in
theorem some_any (g:Nat) (x:Option Addr) (n cap m:Nat) (w:World) (hc:CurB w g x n cap) (ht:CurT w g x n) (hg:g<w.heap.size) (hm:m≤1000) :
  Calls Tryz.prog 17 #[.pointer (some ⟨g,0,none⟩),.int .i64 m] w (SomePost w g x n cap m):=by
 go_enter Tryz.func17,Tryz.ntmps17
 go_wp2
 go_loopw [5,6] (fun v i wr=>∃(k:Nat) (zs:List Int),k≤m∧i=.int .i64 k∧zs.length=k∧Byte zs∧Own wr w.heap.size v zs∧CurB wr g x n cap∧WrG g w wr) (fun _ i _=>m-(intOf i).toNat)
 case atStart=>
  have hb0:=(Below.refl w.heap.size w).alloc (Nat.le_refl _) (.cells #[] 5);exact⟨0,[],Nat.zero_le _,rfl,rfl,(fun v hv=>by cases hv),Own.empty _ _ (Nat.le_refl _),hc.keepE (hb0.block g hg),WrG.of_below hb0⟩
 case round=>
  obtain⟨k,zs,hk,rfl,hl,hz,hown,hcu,hwr⟩:=hrel;have ht1:=ht.wr (fun j hj=>hwr.block j (by omega) (by omega));by_cases hlt:k<m
  ·have hsz:=hwr.size;go_wp2_with fail;refine(byte_any g x n cap _ hcu ht1).mono ?_;rintro e w1 ⟨y,rfl,hy0,hy1,hc1,hw1⟩;have hown1:=hown.keepE (w':=w1) (fun k hk _=>hw1.block k (by omega));have hwr1:=hwr.trans hw1.wrG;have hsz1:=hwr1.size;have ey:IntKind.u8.wrap y=y:=by rw[IntKind.wrap_u8];omega
   clear hown hcu hwr hw1 ht1 ht hc;go_wp2_with (at_builtin;refine wpList_app _ rfl _ _ rfl w.heap.size _ _ rfl (hown1.alloc _) ⟨w1.heap.size,0,none⟩ 1 1 [y] rfl rfl ?c1 ?c2 ?c3 ?_);all_goals first|(intro j hj;obtain rfl:j=0:=by omega
                                                                                                                                                                                                       simp[Addr.add];done)|skip
   case c2=>simp;omega
   case c3=>first|omega|(rw[World.size_alloc];omega)
   intro v' w2 hown2 hb2 _;have hb3:Below w.heap.size w1 w2:=((Below.refl _ _).alloc hsz1 _).trans hb2;have HO:=hid_ofE (And.intro hown2 (And.intro (hc1.keepE (hb3.block g hg)) (hwr1.bel hb3)));clear hown1 hown2 hc1 hwr1 hb2 hb3;go_wp2;go_roundw
   case rel=>exact⟨k+1,zs++[y],by omega,by go_num,by simp;omega,byte_app1 hz (by omega),HO.out.1,HO.out.2.1,HO.out.2.2⟩
   case measure=>simp[intOf];omega
  ·have hkn:k=m:=by omega
   subst hkn;go_wp2
   go_ret
   exact⟨_,zs,rfl,hown,hz,hl,hcu,hwr⟩
theorem Own.setE {w:World} {B g c n:Nat} {zs:List Int} (hn:zs.length=n) (h:Own w B (.slice (some ⟨g,0,none⟩) n c) zs) (i:Nat) (x:Int) (hi:i<n) :
  w.cell? ⟨g,i,none⟩=some (.int .u8 (zs.getD i 0))∧w.frozen? ⟨g,i,none⟩=false∧Own (w.setCell ⟨g,i,none⟩ (.int .u8 x)) B (.slice (some ⟨g,0,none⟩) n c) (zs.set i x):=by
 subst hn
 refine⟨?_,h.1.frozenAt i,?_,?_⟩
 ·rw[h.1.cellAt i (by omega)];simp[hi]
 ·have:=(h.1.stored i (.int .u8 x)).1;rw[←List.map_set] at this;rw[List.length_set];exact this
 ·rw[List.length_set];exact⟨_,_,rfl⟩
theorem byte_setE {zs:List Int} (hz:Byte zs) (i:Nat) {y:Int} (hy:0≤y∧y<256):Byte (zs.set i y):=fun v hv=>by
 rcases List.mem_or_eq_of_mem_set hv with h|h
 ·exact hz v h
 ·rw[h];exact hy
theorem below_setE {w:World} {B q i:Nat} {v:Value} (h:B≤q):Below B w (w.setCell ⟨q,i,none⟩ v):=
 ⟨rfl,rfl,rfl,by simp only[World.setCell,Array.size_modify];exact Nat.le_refl _,fun k hk=>heap_setCell_other _ _ _ _ (by show k≠q;omega)⟩
theorem getD_byteE {zs:List Int} (hz:Byte zs) (i:Nat):0≤zs.getD i 0∧zs.getD i 0<256:=by
 by_cases h:i<zs.length
 ·rw[show zs.getD i 0=zs[i] from by simp[h]];exact hz _ (List.getElem_mem h)
 ·rw[show zs.getD i 0=0 from by simp[h]];decide
set_option maxHeartbeats 1000000 in
theorem scOf_any (x:Int) (w:World) (hx0:0≤x) (hx1:x≤1000) :
  Calls Tryz.prog 50 #[.int .i64 x] w (fun e w'=>∃ v zs,e=.returned v∧Own w' w.heap.size v zs∧Byte zs∧zs.length=32∧val 256 zs=x∧Below w.heap.size w w'):=by
 go_enter Tryz.func50,Tryz.ntmps50
 go_wp2
 go_loopw [3] (fun v wr=>∃ k:Nat,k≤30∧Own wr w.heap.size v ([x%256,x/256%256]++List.replicate k 0)∧Below w.heap.size w wr) (fun v _=>match v with|.slice _ n _=>32-n|_=>0)
 case atStart=>exact⟨0,by omega,Own.lit w _ [x%256,x/256%256] (Nat.le_refl _) (by simp),(Below.refl _ _).alloc (Nat.le_refl _) _⟩
 case round=>
  obtain⟨k,hk,hown,hbel⟩:=hrel;obtain⟨gq,c,rfl,hq1,hq2,hq3⟩:=hown.base;have hlen:([x%256,x/256%256]++List.replicate k 0).length=k+2:=by simp
  rw[hlen] at hown ⊢;have hsz:=hbel.size;by_cases hlt:k<30
  ·have hlt':((k+2:Nat):Int)<32:=by omega
   go_wp2_with (at_builtin;refine wpList_app _ rfl _ _ rfl w.heap.size _ _ rfl (hown.alloc _) ⟨wr.heap.size,0,none⟩ 1 1 [0] rfl rfl ?c1 ?c2 ?c3 ?_);all_goals first|(intro j hj;obtain rfl:j=0:=by omega
                                                                                                                                                                     simp[Addr.add];done)|skip
   case c2=>simp;omega
   case c3=>first|omega|(rw[World.size_alloc];omega)
   intro v' w1 hown' hbel' _;have HO:Hid (Own w1 w.heap.size v' ([x%256,x/256%256]++List.replicate (k+1) 0)):=by rw[List.replicate_succ',←List.append_assoc];exact hown'
   have HB:Hid (Below w.heap.size w w1):=(hbel.alloc (by omega) _).trans hbel';clear hown hown' hbel hbel';go_wp2;go_roundw
   case rel=>exact⟨k+1,by omega,HO.out,HB.out⟩
   case measure=>
    obtain⟨gq',c',rfl,_⟩:=HO.out.base;simp;omega
  ·have hkn:k=30:=by omega
   subst hkn;go_wp2
   go_ret
   refine⟨_,_,rfl,hown,?_,rfl,?_,hbel⟩
   ·intro v hv;rcases List.mem_append.1 hv with h|h
    ·simp at h;omega
    ·rw[List.mem_replicate] at h;omega
   ·rw[show(30:Nat)=30 from rfl];simp[val,List.replicate];omega
theorem Own.cutE {w:World} {B q c n m:Nat} {zs:List Int} (hn:zs.length=n) (h:Own w B (.slice (some ⟨q,0,none⟩) n c) zs) (hm:m≤n):Own w B (.slice (some ⟨q,0,none⟩) m c) (zs.take m):=by
 have hl:(zs.take m).length=m:=by simp;omega
 refine⟨⟨by simp,?_⟩,by rw[hl];exact⟨_,_,rfl⟩⟩
 rcases h.1.2 with⟨h',_⟩|⟨g',c',cur,h',hBg,hh,h1,h2,h3,h4⟩
 ·cases h'
 ·cases h';refine .inr ⟨q,c,cur,by rw[hl],hBg,hh,by omega,h2,h3,?_⟩;rw[hl,List.map_take,←h4,List.take_take,Nat.min_eq_left (by omega),Nat.mul_one]
end Go.Proofs.YtapejbpgdjbjjaaGreatDoor
namespace Go.Proofs.YtapejbpgdjbjjaaGreatDoor
open Go.ChangeShapes Go.WideShapes Go.ChangeAt Go.RowKit
set_option linter.unusedVariables false
def RowW (w:World) (g:Nat) (e:TypeId) (ns:List Int):Prop:=w.heap[g]?=some (.cells (ns.map (Value.int .u64)).toArray e (0,0))
theorem RowW.lt {w:World} {g:Nat} {e:TypeId} {zs:List Int} (h:RowW w g e zs):g<w.heap.size:=(Array.getElem?_eq_some_iff.1 h).1
theorem RowW.cell {w:World} {g:Nat} {e:TypeId} {zs:List Int} (h:RowW w g e zs) (i:Nat) (hi:i<zs.length):w.cell? ⟨g,i,none⟩=some (.int .u64 (zs.getD i 0)):=by
 rw[cell_of_row w g i _ e _ h];simp[hi]
theorem RowW.frozen {w:World} {g:Nat} {e:TypeId} {zs:List Int} (h:RowW w g e zs) (i:Nat):w.frozen? ⟨g,i,none⟩=false:=frozen_of_row w g i _ e h
theorem RowW.set {w:World} {g:Nat} {e:TypeId} {zs:List Int} (h:RowW w g e zs) (i:Nat) (x:Int):RowW (w.setCell ⟨g,i,none⟩ (.int .u64 x)) g e (zs.set i x):=by
 unfold RowW;rw[heap_setCell_same w g i _ e _ h];simp[List.map_set]
theorem RowW.drewN {w:World} {g:Nat} {e:TypeId} {zs:List Int} (h:RowW w g e zs) (n:Nat):RowW (w.drewN n) g e zs:=h
theorem Wr.rowW {g g':Nat} {w w':World} {e:TypeId} {zs:List Int} (h:Wr g w w') (hr:RowW w g' e zs) (hg:g'≠g):RowW w' g' e zs:=by
 unfold RowW;rw[h.block g' hg];exact hr
theorem RowW.below {w w':World} {g:Nat} {e:TypeId} {zs:List Int} {B:Nat} (h:RowW w g e zs) (hb:Below B w w') (hg:g<B):RowW w' g e zs:=by
 unfold RowW;rw[hb.block g hg];exact h
def W64:Int:=18446744073709551616
def Wrd (ns:List Int):Prop:=∀ z∈ns,0≤z∧z<18446744073709551616
theorem Wrd.get {zs:List Int} (h:Wrd zs) (i:Nat):0≤zs.getD i 0∧zs.getD i 0<18446744073709551616:=by
 by_cases hi:i<zs.length
 ·rw[List.getD_eq_getElem?_getD,List.getElem?_eq_getElem hi];exact h _ (List.getElem_mem hi)
 ·rw[List.getD_eq_getElem?_getD,List.getElem?_eq_none (by omega)];exact⟨by decide,by decide⟩
theorem Wrd.set {zs:List Int} (h:Wrd zs) (i:Nat) (x:Int) (h0:0≤x) (h1:x<18446744073709551616):Wrd (zs.set i x):=by
 intro z hz
 rcases List.mem_or_eq_of_mem_set hz with h'|rfl
 ·exact h z h'
 ·exact⟨h0,h1⟩
theorem u64_or_add (a b:Int) (k:Nat) (ha:0≤a) (ha':a<18446744073709551616) (hb:0≤b) (hb':b<2^k) (hb'':b<18446744073709551616) (q:Int) (hd:a=q*2^k):bits .or .u64 a b=a+b:=by
 obtain⟨a,rfl⟩:=Int.eq_ofNat_of_zero_le ha
 obtain⟨b,rfl⟩:=Int.eq_ofNat_of_zero_le hb
 rw[u64_or_nat a b (by omega) (by omega)]
 have hq:0≤q:=by
  have hp:(0:Int)<2^k:=Int.pow_pos (by decide);rcases Int.lt_or_le q 0 with h|h
  ·have:=Int.mul_neg_of_neg_of_pos h hp;omega
  ·exact h
 obtain⟨q,rfl⟩:=Int.eq_ofNat_of_zero_le hq
 have hd':a=q*2^k:=by exact_mod_cast hd
 have hb3:b<2^k:=by exact_mod_cast hb'
 have:=Nat.shiftLeft_add_eq_or_of_lt hb3 q
 rw[Nat.shiftLeft_eq,←hd'] at this
 rw[←this];simp
theorem u64_and_mask (a:Int) (k:Nat) (ha:0≤a) (ha':a<18446744073709551616) (m:Int) (hm:m=2^k-1) (hk:k≤64):bits .and .u64 a m=a%2^k:=by
 obtain⟨a,rfl⟩:=Int.eq_ofNat_of_zero_le ha
 have hp:0<2^k:=Nat.pow_pos (by decide)
 have hle:2^k≤2^64:=Nat.pow_le_pow_right (by decide) hk
 have e:m=((2^k-1:Nat):Int):=by rw[hm];rw[Int.ofNat_sub (by omega)];simp
 rw[e,u64_and_nat a _ (by omega) (by omega),Nat.and_two_pow_sub_one_eq_mod]
 simp
theorem take_set_succ (ms:List Int) (k:Nat) (x:Int) (h:k<ms.length):(ms.set k x).take (k+1)=ms.take k++[x]:=by
 rw[List.take_set,List.take_succ_eq_append_getElem h,List.set_append_right _ _ (by simp;omega)]
 simp[Nat.min_eq_left (Nat.le_of_lt h)]
theorem drop_set_succ (ms:List Int) (k:Nat) (x:Int):(ms.set k x).drop (k+1)=ms.drop (k+1):=by
 rw[List.drop_set];simp
theorem getD_of_drop {ms ns:List Int} {k:Nat} (h:ms.drop k=ns.drop k):ms.getD k 0=ns.getD k 0:=by
 have e:(ms.drop k)[0]?=(ns.drop k)[0]?:=by rw[h]
 simp only[List.getElem?_drop,Nat.add_zero] at e
 rw[List.getD_eq_getElem?_getD,List.getD_eq_getElem?_getD,e]
theorem drop_succ_of {ms ns:List Int} {k:Nat} (h:ms.drop k=ns.drop k):ms.drop (k+1)=ns.drop (k+1):=by
 rw[←List.drop_drop,h,List.drop_drop]
theorem val_set_succ (B:Int) (ms:List Int) (k:Nat) (x:Int) (h:k<ms.length):val B ((ms.set k x).take (k+1))=val B (ms.take k)+x*B^k:=by
 rw[take_set_succ ms k x h,val_snoc,List.length_take,Nat.min_eq_left (Nat.le_of_lt h)]
theorem sub_step (B p q z P x y b x' b':Int) (h:p-q=z-b*P) (hx:x'-b'*B=x-y-b):(p+x*P)-(q+y*P)=(z+x'*P)-b'*(P*B):=by
 have:(x'-b'*B)*P=(x-y-b)*P:=by rw[hx]
 grind
structure WrH (g:Nat) (w w':World):Prop where
 os:w'.os=w.os
 tape:w'.tape=w.tape
 output:w'.output=w.output
 size:w.heap.size≤w'.heap.size
 block:∀ k,k<w.heap.size→k≠g→w'.heap[k]?=w.heap[k]?
theorem WrH.refl (g:Nat) (w:World):WrH g w w:=⟨rfl,rfl,rfl,Nat.le_refl _,fun _ _ _=>rfl⟩
theorem WrH.trans {g:Nat} {a b c:World} (h:WrH g a b) (k:WrH g b c):WrH g a c:=
 ⟨k.os.trans h.os,k.tape.trans h.tape,k.output.trans h.output,Nat.le_trans h.size k.size,fun i hi hg=>(k.block i (Nat.lt_of_lt_of_le hi h.size) hg).trans (h.block i hi hg)⟩
theorem Wr.wrH {g:Nat} {w w':World} (h:Wr g w w'):WrH g w w':=⟨h.os,h.tape,h.output,by rw[h.size];exact Nat.le_refl _,fun k _ hg=>h.block k hg⟩
theorem WrH.of_below {g:Nat} {w w':World} (h:Below w.heap.size w w'):WrH g w w':=⟨h.os,h.tape,h.output,h.size,fun k hk _=>h.block k hk⟩
theorem WrH.below {g:Nat} {w w':World} (h:WrH g w w') (B:Nat) (hB:B≤g) (hB':B≤w.heap.size):Below B w w':=⟨h.os,h.tape,h.output,h.size,fun k hk=>h.block k (by omega) (by omega)⟩
theorem WrH.rowW {g g':Nat} {w w':World} {e:TypeId} {zs:List Int} (h:WrH g w w') (hr:RowW w g' e zs) (hg:g'≠g):RowW w' g' e zs:=by
 unfold RowW;rw[h.block g' hr.lt hg];exact hr
theorem RowW.setRow {w:World} {g:Nat} {e:TypeId} {zs:List Int} (h:RowW w g e zs) (ns:List Int):RowW (w.setRow g (ns.map (Value.int .u64)).toArray) g e ns:=by
 unfold RowW;rw[setRow_heap _ _ _ _ _ _ h]
theorem RowW.setRow_other {w:World} {g g':Nat} {e:TypeId} {zs:List Int} (h:RowW w g e zs) (cs:Array Value) (hg:g≠g'):RowW (w.setRow g' cs) g e zs:=by
 unfold RowW;rw[Go.setRow_other w g' g cs hg];exact h
def bor (x y b:Int):Int:=if x<y+b then 1 else 0
theorem bor_bd (x y b:Int):0≤bor x y b∧bor x y b≤1:=by unfold bor;split<;>omega
theorem bor_eq (x y b:Int) (hx:0≤x) (hx':x<18446744073709551616) (hy:0≤y) (hy':y<18446744073709551616) (hb:0≤b) (hb':b≤1):(x-y-b)%18446744073709551616-bor x y b*18446744073709551616=x-y-b:=by
 unfold bor;split<;>omega
theorem below_new2 (w:World) (o:Obj):Below w.heap.size w (w.alloc o):=(Below.refl _ _).alloc (Nat.le_refl _) _
end Go.Proofs.YtapejbpgdjbjjaaGreatDoor
