import Derived.Test.YtncomnkdlpoelaaGreatDoorMCatF
import Derived.Test.YtncomnkdlpoelaaGreatDoorMBase
import Derived.Deep.WholeRow
import Derived.Deep.MidRow
import Derived.Test.YtncomnkdlpoelaaGreatDoorMIDd
import Derived.Test.YtncomnkdlpoelaaGreatDoorMSSum
import Derived.Test.YtncomnkdlpoelaaGreatDoorMReg
import Derived.Laws.Externs
namespace Go.Proofs.YtncomnkdlpoelaaGreatDoor
open Go.ChangeShapes Go.WideShapes Go.ChangeAt Go.RowKit
set_option linter.unusedVariables false
set_option maxHeartbeats 400000 in
theorem cat_any (p m cap:Nat) (vs:List Value) (zss:List (List Int)) (w:World) (hm:zss.length=m) (hp:p<w.heap.size) (hc:∀ i,i<m→w.cell? ⟨p,i,none⟩=some (vs.getD i undef))
  (hz:∀ i,i<m→Part w (vs.getD i undef) (zss.getD i [])) (ht:zss.flatten.length≤2097152) (hm':m≤1048576) :
  Calls Tryz.prog 63 #[.slice (some ⟨p,0,none⟩) m cap] w fun e w'=>∃ v,e=.returned v∧Own w' w.heap.size v zss.flatten∧Below w.heap.size w w':=by
 go_enter Tryz.func63,Tryz.ntmps63;go_wp2
 go_loopw [3,4] (fun v i wr=>∃ k:Nat,k≤m∧i=.int .i64 k∧Own wr w.heap.size v (zss.take k).flatten∧Below w.heap.size w wr) (fun _ i _=>m-(intOf i).toNat)
 case atStart=>exact⟨0,Nat.zero_le _,rfl,Own.empty _ _ (Nat.le_refl _),(Below.refl _ _).alloc (Nat.le_refl _) _⟩
 case round=>
  obtain⟨k,hk,rfl,hown,hbel⟩:=hrel;by_cases hlt:k<m
  ·have hsz:=hbel.size;obtain⟨b,o,c,hv,hb,hcell⟩:=hz k hlt;have hck:wr.cell? ⟨p,k,none⟩=some (.slice (some ⟨b,o,none⟩) (zss.getD k []).length c):=by rw[hbel.cell (p:=⟨p,k,none⟩) hp,hc k hlt,hv]
   have hnews:∀ j,j<(zss.getD k []).length→wr.cell? ((⟨b,o,none⟩:Addr).add j)=some (.int .u8 ((zss.getD k []).getD j 0)):=by
    intro j hj;rw[Addr.add_lit,hbel.cell (p:=⟨b,o+j,none⟩) hb];exact hcell j hj
   have hfl:=flat_snoc zss k (by omega);have hle:=flat_le zss (k+1);have hle2:(zss.take k).flatten.length+(zss.getD k []).length≤2097152:=by rw[hfl,List.length_append] at hle;omega
   have HF:Hid _:=hfl;clear hfl hle hv hcell hc hz;generalize zss.getD k []=z at *;generalize (zss.take k).flatten=y at *;generalize hzl:z.length=zl at *;have HL:Hid _:=hzl;clear hzl;have HN:Hid _:=hnews;clear hnews;go_wp2_with (at_builtin;refine wpList_app _ rfl _ _ rfl w.heap.size _ _ rfl hown ⟨b,o,none⟩ _ _ z rfl HL.out HN.out ?c2 ?c3 ?_)
   case c2=>omega
   case c3=>omega
   intro v' w1 hown' hbel' _;have HO:Hid (Own w1 w.heap.size v' (zss.take (k+1)).flatten):=by rw[HF.out];exact hown'
   have HB:=hdI <| hbel.trans hbel'
   clear hown hown' hbel hbel';go_wp2;go_roundw
   case rel=>exact⟨k+1,by omega,by go_num,HO.out,HB.out⟩
   case measure=>simp[intOf];omega
  ·have hkn:zss.take k=zss:=List.take_of_length_le (by omega);rw[hkn] at hown;have HO:Hid _:=hown;clear hown hkn;go_wp2
   go_ret
   exact⟨_,rfl,HO.out,hbel⟩
theorem i64_and255 (y:Int):0≤bits .and .i64 y 255∧bits .and .i64 y 255≤255:=by
 unfold bits;simp only;have h:((BitVec.ofInt IntKind.i64.bits y &&& BitVec.ofInt IntKind.i64.bits 255).toNat)≤255:=by
  rw[BitVec.toNat_and];have:(BitVec.ofInt IntKind.i64.bits 255).toNat=255:=by decide
  rw[this];exact Nat.and_le_right
 generalize (BitVec.ofInt IntKind.i64.bits y &&& BitVec.ofInt IntKind.i64.bits 255).toNat=m at *;rw[IntKind.wrap_i64];omega
def CurB (w:World) (g:Nat) (a:Option Addr) (n cap:Nat):Prop:=
 ∃ i h:Int,0≤i∧i≤n∧-9223372036854775808≤h∧h≤9223372036854775807∧w.heap[g]?=some (.cells #[.slice a n cap,.int .i64 i,.int .i64 h] 75 (0,0))
def CurT (w:World) (g:Nat) (a:Option Addr) (n:Nat):Prop:=n≤1048576∧∃ zs:List Int,zs.length=n∧Byte zs∧(zs=[]∨∃ b off,a=some ⟨b,off,none⟩∧b<g∧∀ i,i<zs.length→w.cell? ⟨b,off+i,none⟩=some (.int .u8 (zs.getD i 0)))
theorem CurT.wr {w w':World} {g:Nat} {a:Option Addr} {n:Nat} (h:CurT w g a n) (hw:∀ k,k<g→w'.heap[k]?=w.heap[k]?):CurT w' g a n:=by
 obtain⟨h0,zs,h1,h2,h3⟩:=h;refine⟨h0,zs,h1,h2,?_⟩;rcases h3 with h3|⟨b,off,e,hb,hc⟩
 ·exact .inl h3
 ·exact .inr ⟨b,off,e,hb,fun i hi=>by rw[World.cell?_of_block (a:=⟨b,off+i,none⟩) (w:=w) (hw b hb)];exact hc i hi⟩
structure WrG (g:Nat) (w w':World):Prop where
 os:w'.os=w.os
 tape:w'.tape=w.tape
 output:w'.output=w.output
 size:w.heap.size≤w'.heap.size
 block:∀ k,k<w.heap.size→k≠g→w'.heap[k]?=w.heap[k]?
theorem WrG.trans {g:Nat} {a b c:World} (h:WrG g a b) (k:WrG g b c):WrG g a c:=
 ⟨k.os.trans h.os,k.tape.trans h.tape,k.output.trans h.output,Nat.le_trans h.size k.size,fun i hi hg=>(k.block i (Nat.lt_of_lt_of_le hi h.size) hg).trans (h.block i hi hg)⟩
theorem Wr.wrG {g:Nat} {w w':World} (h:Wr g w w'):WrG g w w':=⟨h.os,h.tape,h.output,by rw[h.size];exact Nat.le_refl _,fun k _ hg=>h.block k hg⟩
theorem WrG.of_below {g:Nat} {w w':World} (h:Below w.heap.size w w'):WrG g w w':=⟨h.os,h.tape,h.output,h.size,fun k hk _=>h.block k hk⟩
def BytePost (w:World) (g:Nat) (a:Option Addr) (n cap:Nat) (m:Int) (e:Ending) (w':World):Prop:=
 ∃ x:Int,e=.returned (.int .i64 x)∧0≤x∧x≤m∧CurB w' g a n cap∧Wr g w w'
theorem setRow3 {w:World} {g:Nat} {x y z v:Value} {t:TypeId} (h:w.heap[g]?=some (.cells #[x,y,z] t (0,0))) :
  (w.setCell ⟨g,2,none⟩ v).heap[g]?=some (.cells #[x,y,v] t (0,0))∧(w.setCell ⟨g,1,none⟩ v).heap[g]?=some (.cells #[x,v,z] t (0,0)):=
 ⟨heap_setCell_same w g 2 _ t v h,heap_setCell_same w g 1 _ t v h⟩
theorem wrap64_bd (x:Int):-9223372036854775808≤wrap64 x∧wrap64 x≤9223372036854775807:=by
 unfold wrap64;omega
set_option maxHeartbeats 1000000 in
theorem byte_any (g:Nat) (a:Option Addr) (n cap:Nat) (w:World) (hc:CurB w g a n cap) (ht:CurT w g a n) :
  Calls Tryz.prog 34 #[.pointer (some ⟨g,0,none⟩)] w (BytePost w g a n cap 255):=by
 obtain⟨i,h,hi0,hi1,hh0,hh1,hb⟩:=hc;obtain⟨hn,zs,hl,hz,htx⟩:=ht;have c0:w.cell? ⟨g,0,none⟩=some (.slice a n cap):=cell_of_row _ _ _ _ _ _ hb;have c1:w.cell? ⟨g,1,none⟩=some (.int .i64 i):=cell_of_row _ _ _ _ _ _ hb;have c2:w.cell? ⟨g,2,none⟩=some (.int .i64 h):=cell_of_row _ _ _ _ _ _ hb;have f1:=frozen_of_row w g 1 _ _ hb;have f2:=frozen_of_row w g 2 _ _ hb;obtain⟨hs0,hs1⟩:=wrap64_bd (wrap64 (h*6364136223846793005)+1442695040888963407);obtain⟨r2,_⟩:=setRow3 (v:=.int .i64 (wrap64 (wrap64 (h*6364136223846793005)+1442695040888963407))) hb;have hw1:Wr g w (w.setCell ⟨g,2,none⟩ (.int .i64 (wrap64 (wrap64 (h*6364136223846793005)+1442695040888963407)))):=(Wr.refl _ _).setCell 2 _;have HH:Hid (∃ h2,-9223372036854775808≤h2∧h2≤9223372036854775807∧wrap64 (wrap64 (h*6364136223846793005)+1442695040888963407)=h2):=⟨_,hs0,hs1,rfl⟩
 have HR2:Hid _:=r2;have HW1:Hid _:=hw1;clear hb hs0 hs1 r2 hw1;obtain⟨i,rfl⟩:=Int.eq_ofNat_of_zero_le hi0;go_enter Tryz.func34,Tryz.ntmps34;go_wp2;clear c0 c1 c2 f1 f2;have r2:=HR2.out;have hw1:=HW1.out;obtain⟨h2,hs0,hs1,he⟩:=HH.out;clear HR2 HW1 HH;rw[he] at r2 hw1 ⊢;generalize w.setCell ⟨g,2,none⟩ (.int .i64 h2)=w1 at *;have c0:w1.cell? ⟨g,0,none⟩=some (.slice a n cap):=cell_of_row _ _ _ _ _ _ r2;have c1:w1.cell? ⟨g,1,none⟩=some (.int .i64 i):=cell_of_row _ _ _ _ _ _ r2;have c2:w1.cell? ⟨g,2,none⟩=some (.int .i64 h2):=cell_of_row _ _ _ _ _ _ r2;have f1:=frozen_of_row w1 g 1 _ _ r2;have HR2:Hid _:=r2;have HW1:Hid _:=hw1;clear r2 hw1 he
 go_quiet (fail)
 obtain⟨x0,hx00,hx01,hxe⟩:∃ x0,0≤x0∧x0≤255∧bits .and .i64 (bits .xor .i64 (h2/8589934592) (h2/35184372088832)) 255=x0:=⟨_,(i64_and255 _).1,(i64_and255 _).2,rfl⟩
 rw[hxe];clear hxe;have R2:(w1.drewN nq).heap[g]?=some (.cells #[.slice a n cap,.int .i64 i,.int .i64 h2] 75 (0,0)):=HR2.out;have W2:Wr g w (w1.drewN nq):=HW1.out.drewN nq;clear HR2 HW1 c0 c1 c2 f1;generalize w1.drewN nq=w2 at *;have c0:w2.cell? ⟨g,0,none⟩=some (.slice a n cap):=cell_of_row _ _ _ _ _ _ R2;have c1:w2.cell? ⟨g,1,none⟩=some (.int .i64 i):=cell_of_row _ _ _ _ _ _ R2;have f1:=frozen_of_row w2 g 1 _ _ R2;have HR2:Hid _:=R2;have HW2:Hid _:=W2;clear R2 W2;by_cases hlt:(i:Int)<(n:Int)
 ·rcases htx with h0|⟨b,off,rfl,hbg,hcell⟩
  ·rw[h0] at hl;simp at hl;omega
  ·have hck:w2.cell? ⟨b,off+i,none⟩=some (.int .u8 (zs.getD i 0)):=by
    rw[World.cell?_of_block (a:=⟨b,off+i,none⟩) (w:=w) (HW2.out.block b (by omega))];exact hcell i (by omega)
   have hx:=hz.get i;generalize zs.getD i 0=x at *;obtain⟨hx0,hx1⟩:=hx;obtain⟨_,r1⟩:=setRow3 (v:=.int .i64 ((i:Int)+1)) HR2.out;have HR1:Hid _:=r1;have HW3:Hid (Wr g w (w2.setCell ⟨g,1,none⟩ (.int .i64 ((i:Int)+1)))):=HW2.out.setCell 1 _;clear hcell r1;go_wp2
   go_quiet (fail)
   go_wp2
   go_quiet (fail)
   obtain⟨x1,hx10,hx11,hxe⟩:∃ x1,0≤x1∧x1≤255∧bits .and .i64 (x0+x) 255=x1:=⟨_,(i64_and255 _).1,(i64_and255 _).2,rfl⟩
   rw[hxe];clear hxe;go_wp2
   go_ret
   refine⟨x1,rfl,hx10,hx11,⟨(i:Int)+1,h2,by omega,by omega,hs0,hs1,HR1.out⟩,?_⟩;exact⟨HW3.out.os,HW3.out.tape,HW3.out.output,HW3.out.size,HW3.out.block⟩
 ·have hlt':decide ((i:Int)<(n:Int))=false:=by simpa using hlt
  go_wp2
  go_quiet (fail)
  go_wp2
  go_ret
  exact⟨x0,rfl,hx00,hx01,⟨i,h2,by omega,by omega,hs0,hs1,HR2.out⟩,HW2.out.drewN _⟩
set_option maxHeartbeats 400000 in
theorem below_any (g:Nat) (a:Option Addr) (n cap:Nat) (m:Int) (w:World) (hc:CurB w g a n cap) (ht:CurT w g a n) (hm:1≤m) (hm':m≤16777216) :
  Calls Tryz.prog 15 #[.pointer (some ⟨g,0,none⟩),.int .i64 m] w (BytePost w g a n cap (m-1)):=by
 by_cases h256:m≤256
 ·have hm0:¬ m=0:=by omega
  go_enter Tryz.func15,Tryz.ntmps15;go_wp2_with fail;refine(byte_any g a n cap _ hc ht).mono ?_;rintro e w1 ⟨x,rfl,hx0,hx1,hc1,hw1⟩;have HC:Hid _:=hc1;have HW:Hid _:=hw1;clear hc ht hc1 hw1;go_wp2
  go_ret
  have e1:=Int.emod_nonneg x hm0;have e2:=Int.emod_lt_of_pos x (show 0<m by omega);exact⟨x%m,rfl,e1,by omega,HC.out,HW.out⟩
 ·have hm0:¬ m=0:=by omega
  go_enter Tryz.func15,Tryz.ntmps15;go_wp2_with fail;refine(byte_any g a n cap _ hc ht).mono ?_;rintro e w1 ⟨x,rfl,hx0,hx1,hc1,hw1⟩;have ht1:=ht.wr (fun k hk=>hw1.block k (by omega));clear hc ht;go_wp2_with fail;refine(byte_any g a n cap _ hc1 ht1).mono ?_;rintro e w2 ⟨y,rfl,hy0,hy1,hc2,hw2⟩;have ht2:=ht1.wr (fun k hk=>hw2.block k (by omega));have hw12:=hw1.trans hw2;clear hc1 ht1 hw1 hw2;go_wp2_with fail;refine(byte_any g a n cap _ hc2 ht2).mono ?_;rintro e w3 ⟨z,rfl,hz0,hz1,hc3,hw3⟩;have HC:Hid _:=hc3;have HW:Hid _:=hw12.trans hw3;clear hc2 ht2 hw12 hw3 hc3;have e1:=Int.emod_nonneg (x*65536+y*256+z) hm0;have e2:=Int.emod_lt_of_pos (x*65536+y*256+z) (show 0<m by omega);have E1:Hid _:=e1;have E2:Hid _:=e2;clear e1 e2;go_wp2
  go_ret
  exact⟨(x*65536+y*256+z)%m,rfl,E1.out,by have:=E2.out;omega,HC.out,HW.out⟩
def OncePost (w:World) (g:Nat) (a:Option Addr) (n cap:Nat) (e:Ending) (w':World):Prop:=∃ x:Bool,e=.returned (.bool x)∧CurB w' g a n cap∧Wr g w w'
set_option maxHeartbeats 400000 in
theorem once_any (g:Nat) (a:Option Addr) (n cap:Nat) (m:Int) (w:World) (hc:CurB w g a n cap) (ht:CurT w g a n) (hm:1≤m) (hm':m≤16777216) :
  Calls Tryz.prog 19 #[.pointer (some ⟨g,0,none⟩),.int .i64 m] w (OncePost w g a n cap):=by
 go_enter Tryz.func19,Tryz.ntmps19;go_wp2_with fail;refine(below_any g a n cap m _ hc ht hm hm').mono ?_;rintro e w1 ⟨x,rfl,hx0,hx1,hc1,hw1⟩;have HC:Hid _:=hc1;have HW:Hid _:=hw1;clear hc ht hc1 hw1;go_wp2
 go_ret
 exact⟨x == 0,rfl,HC.out,HW.out⟩
theorem bits_i64_bd (o:BinOp) (x y:Int):-9223372036854775808≤bits o .i64 x y∧bits o .i64 x y≤9223372036854775807:=by
 have h:∀ n:Int,-9223372036854775808≤IntKind.i64.wrap n∧IntKind.i64.wrap n≤9223372036854775807:=fun n=>by rw[IntKind.wrap_i64];omega
 unfold bits;cases o<;>exact h _
def NewPost (w:World) (a:Option Addr) (n cap:Nat) (e:Ending) (w':World):Prop:=e=.returned (.pointer (some ⟨w.heap.size,0,none⟩))∧CurB w' w.heap.size a n cap∧Below w.heap.size w w'∧w'.heap.size=w.heap.size+1
set_option maxHeartbeats 400000 in
theorem new_any (a:Option Addr) (n cap:Nat) (zs:List Int) (w:World) (hl:zs.length=n) (hn:n≤1048576) (hz:Byte zs) (ha:At .u8 w a zs) :
  Calls Tryz.prog 13 #[.slice a n cap] w (NewPost w a n cap):=by
 go_enter Tryz.func13,Tryz.ntmps13;go_wp2
 go_loop [3,4] (fun h i=>∃(k:Nat) (q:Int),k≤n∧i=.int .i64 k∧h=.int .i64 q∧-9223372036854775808≤q∧q≤9223372036854775807) (fun _ i=>n-(intOf i).toNat)
 case atStart=>exact⟨0,_,Nat.zero_le _,rfl,rfl,by omega,by omega⟩
 case round=>
  obtain⟨k,q,hk,rfl,rfl,hq0,hq1⟩:=hrel;by_cases hlt:k<n
  ·obtain⟨b,off,rfl,hb,hc⟩:=ha.get (by omega);have hck:=hc k (by omega);have hx:=hz.get k;generalize zs.getD k 0=x at *;obtain⟨hx0,hx1⟩:=hx;clear hc;go_wp2
   go_round
   case rel=>exact⟨k+1,_,by omega,by go_num,rfl,(bits_i64_bd _ _ _).1,(bits_i64_bd _ _ _).2⟩
   case measure=>simp[intOf];omega
  ·go_wp2
   go_ret
   exact⟨rfl,⟨0,q,by omega,by omega,hq0,hq1,heap_alloc_new w _⟩,(Below.refl _ _).alloc (Nat.le_refl _) _,by simp⟩
structure RunD (w wr:World) (R:List (Nat×List Int)) (E:List (Nat×Nat×List Int)):Prop where
 below:Below w.heap.size w wr
 rows:∀ r∈R,w.heap.size≤r.1∧RowW wr r.1 141 r.2∧EOk r.2
 order:R.Pairwise fun a b=>a.1≠b.1
 els:∀ e∈E,e.1<w.heap.size∧EAt wr e.1 e.2.1 e.2.2
section
variable {w wr w':World} {R:List (Nat×List Int)} {E:List (Nat×Nat×List Int)}
theorem RunD.start (w:World) (E:List (Nat×Nat×List Int)) (h:∀ e∈E,EAt w e.1 e.2.1 e.2.2):RunD w w [] E:=
 ⟨Below.refl _ _,by simp,List.Pairwise.nil,fun e he=>⟨(h e he).1,h e he⟩⟩
theorem RunD.call (h:RunD w wr R E) (b:Below wr.heap.size wr w'):RunD w w' R E:=
 ⟨h.below.trans (b.mono h.below.size),fun r hr=>⟨(h.rows r hr).1,(h.rows r hr).2.1.below b (h.rows r hr).2.1.lt,(h.rows r hr).2.2⟩,h.order,fun e he=>⟨(h.els e he).1,(h.els e he).2.below b⟩⟩
theorem RunD.one (h:RunD w wr R E) (b:Below wr.heap.size wr w') {g:Nat} {es:List Int} (hg:wr.heap.size≤g) (hr:RowW w' g 141 es) (hk:EOk es) :
  RunD w w' ((g,es)::R) E:=by
 have c:=h.call b;refine⟨c.below,?_,?_,c.els⟩
 ·intro r hm;rcases List.mem_cons.1 hm with rfl|hm
  ·exact⟨Nat.le_trans h.below.size hg,hr,hk⟩
  ·exact c.rows r hm
 ·exact List.Pairwise.cons (fun r hm e=>by have:=(h.rows r hm).2.1.lt;simp only at e;omega) h.order
theorem RunD.two (h:RunD w wr R E) (b:Below wr.heap.size wr w') {g g':Nat} {es es':List Int} (hg:wr.heap.size≤g) (hr:RowW w' g 141 es) (hk:EOk es)
  (hg':wr.heap.size≤g') (hr':RowW w' g' 141 es') (hk':EOk es') (hne:g≠g'):RunD w w' ((g',es')::(g,es)::R) E:=by
 have c:=h.one b hg hr hk;refine⟨c.below,?_,?_,c.els⟩
 ·intro r hm;rcases List.mem_cons.1 hm with rfl|hm
  ·exact⟨Nat.le_trans h.below.size hg',hr',hk'⟩
  ·exact c.rows r hm
 ·refine List.Pairwise.cons (fun r hm e=>?_) c.order;rcases List.mem_cons.1 hm with rfl|hm
  ·exact hne e.symm
  ·have:=(h.rows r hm).2.1.lt;simp only at e;omega
theorem RunD.room (h:RunD w wr R E) :
  RunD w (wr.alloc (.cells #[.int .u64 0,.int .u64 0,.int .u64 0,.int .u64 0,.int .u64 0] 141)) ((wr.heap.size,[0,0,0,0,0])::R) E:=
 h.one (below_new2 _ _) (Nat.le_refl _) (row0 wr) zero_ok
theorem RunD.room2 (h:RunD w wr R E) :
  RunD w ((wr.alloc (.cells #[.int .u64 0,.int .u64 0,.int .u64 0,.int .u64 0,.int .u64 0] 141)).alloc (.cells #[.int .u64 0,.int .u64 0,.int .u64 0,.int .u64 0,.int .u64 0] 141)) ((wr.heap.size+1,[0,0,0,0,0])::(wr.heap.size,[0,0,0,0,0])::R) E:=by
 have:=h.room.room
 rwa [show(wr.alloc (.cells #[.int .u64 0,.int .u64 0,.int .u64 0,.int .u64 0,.int .u64 0] 141)).heap.size=wr.heap.size+1 by simp] at this
theorem RunD.el (h:RunD w wr R E) (i:Nat) (g o:Nat) (es:List Int) (hi:E[i]?=some (g,o,es)):EAt wr g o es:=
 (h.els _ (List.mem_of_getElem? hi)).2
theorem RunD.row (h:RunD w wr R E) (i:Nat) (g:Nat) (es:List Int) (hi:R[i]?=some (g,es)):RowW wr g 141 es:=
 (h.rows _ (List.mem_of_getElem? hi)).2.1
theorem RunD.ok (h:RunD w wr R E) (i:Nat) (g:Nat) (es:List Int) (hi:R[i]?=some (g,es)):EOk es:=
 (h.rows _ (List.mem_of_getElem? hi)).2.2
theorem RunD.re (h:RunD w wr R E) (i:Nat) (g:Nat) (es:List Int) (hi:R[i]?=some (g,es)):EAt wr g 0 es:=
 EAt.of_row (h.row i g es hi) (h.ok i g es hi)
theorem RunD.put (h:RunD w wr R E) (i:Nat) (g:Nat) (zs es:List Int) (hi:R[i]?=some (g,zs)) (hw:Wr g wr w') (hr:RowW w' g 141 es) (hk:EOk es) :
  RunD w w' (R.set i (g,es)) E:=by
 have hg:=(h.rows _ (List.mem_of_getElem? hi)).1;have hil:=(List.getElem?_eq_some_iff.1 hi).1;have hie:=(List.getElem?_eq_some_iff.1 hi).2;have ho:=List.pairwise_iff_getElem.1 h.order;refine⟨h.below.trans (hw.below hg),?_,?_,fun e he=>⟨(h.els e he).1,(h.els e he).2.wr hw (by have:=(h.els e he).1;omega)⟩⟩
 ·intro r hm;obtain⟨j,hj,rfl⟩:=List.getElem_of_mem hm;rw[List.length_set] at hj;rw[List.getElem_set];split
  ·exact⟨hg,hr,hk⟩
  ·rename_i hne
   have q:=h.rows _ (List.getElem_mem hj);refine⟨q.1,hw.rowW q.2.1 ?_,q.2.2⟩;rcases Nat.lt_or_gt_of_ne hne with hlt|hgt
   ·have:=ho i j hil hj hlt;rw[hie] at this;exact fun e=>this e.symm
   ·have:=ho j i hj hil hgt;rw[hie] at this;exact this
 ·rw[List.pairwise_iff_getElem];intro a b ha hb hab;rw[List.length_set] at ha hb;have:=ho a b ha hb hab;rw[List.getElem_set,List.getElem_set];split<;>split<;>simp_all
end
theorem wpList_storeD {w wr:World} {R:List (Nat×List Int)} {E:List (Nat×Nat×List Int)} (S:RunD w wr R E)
  {ops:Array Oper} {rest:List Oper} {o:Oper} {a:Act} {Q:Exit→Act→World→Prop} (hgd:o.guard=none) (x y:Operand) (ho:o.op=.store 141 x y)
  (i g:Nat) (zs es:List Int) (hi:R[i]?=some (g,zs)) (hx:a.eval x=.pointer (some ⟨g,0,none⟩)) (hy:a.eval y=.agg (es.map (Value.int .u64)).toArray) (hk:EOk es)
  {wa:World} (hwa:wa=wr)
  (hK:∀ w',RunD w w' (R.set i (g,es)) E→wpList Tryz.prog ops Q rest (a.put o.dst undef) w') :
  wpList Tryz.prog ops Q (o::rest) a wa:=by
 subst hwa;exact wpList_storeE hgd x y ho g es zs hx hy hk.1 (S.ok i g zs hi).1 (S.row i g zs hi) fun w' hr hw=>hK w' (S.put i g zs es hi hw hr hk)
def EV (x:Int) (v:Value):Prop:=∃ es,EOk es∧ev es=x∧v=.agg (es.map (Value.int .u64)).toArray
theorem EV.elim_ {x:Int} {v:Value} {C:Prop} (h:EV x v) (k:∀ es,EOk es→ev es=x→v=.agg (es.map (Value.int .u64)).toArray→C):C:=by
 obtain⟨es,a,b,c⟩:=h;exact k es a b c
theorem upd_neD {u:Nat→Value} {i j:Nat} {v:Value} (h:i≠j):upd u i v j=u j:=by unfold upd;rw[if_neg (Ne.symm h)]
theorem updK_ne' {L:Nat→Bool} {i j:Nat} (h:j≠i):updK L i j=L j:=by unfold updK;simp[h]
theorem updK_same' {L:Nat→Bool} {i:Nat}:updK L i i=true:=by unfold updK;simp
def NwV (W:World) (A S:Nat) (X:Int) (L:Nat→Bool) (u:Nat→Value) (w':World):Prop:=
 (L S=true→L A=true)∧(L A=true→∃ g es,u A=.pointer (some ⟨g,0,none⟩)∧W.heap.size≤g∧RowW w' g 141 es∧EOk es∧(L S=true→ev es=X))
structure ExA (W:World) (A1 A2 S1 S2:Nat) (X1 X2:Int) (L:Nat→Bool) (u:Nat→Value) (w':World):Prop where
 below:Below W.heap.size W w'
 v1:NwV W A1 S1 X1 L u w'
 v2:NwV W A2 S2 X2 L u w'
 ne:L A1=true→L A2=true→∀ g g',u A1=.pointer (some ⟨g,0,none⟩)→u A2=.pointer (some ⟨g',0,none⟩)→g≠g'
section
variable {W w' ww:World} {A1 A2 S1 S2 A S:Nat} {X1 X2 X:Int} {L:Nat→Bool} {u:Nat→Value}
theorem NwV.low (h:NwV W A S X L u w') (i:Nat) (hA:A≠i) (hS:S≠i) (v:Value) (hb:∀ g,(Obj.cells #[] 0=Obj.cells #[] 0)→L A=true→∀ es,u A=.pointer (some ⟨g,0,none⟩)→RowW w' g 141 es→RowW ww g 141 es):NwV W A S X (updK L i) (upd u i v) ww:=by
 refine⟨by rw[updK_ne' hA,updK_ne' hS];exact h.1,?_⟩;rw[updK_ne' hA,updK_ne' hS];intro hL;obtain⟨g,es,h1,h2,h3,h4,h5⟩:=h.2 hL;exact⟨g,es,by rw[upd_neD (Ne.symm hA)];exact h1,h2,hb g rfl hL es h1 h3,h4,h5⟩
theorem ExA.low (h:ExA W A1 A2 S1 S2 X1 X2 L u w') (i:Nat) (h1:A1≠i) (h2:A2≠i) (h3:S1≠i) (h4:S2≠i) (v:Value) (b:Below w'.heap.size w' ww):ExA W A1 A2 S1 S2 X1 X2 (updK L i) (upd u i v) ww:=
 ⟨h.below.trans (b.mono h.below.size),h.v1.low i h1 h3 v (fun g _ _ es _ r=>r.below b r.lt),h.v2.low i h2 h4 v (fun g _ _ es _ r=>r.below b r.lt),by
  rw[updK_ne' h1,updK_ne' h2,upd_neD (Ne.symm h1),upd_neD (Ne.symm h2)];exact h.ne⟩
theorem ExA.start (W:World) (L:Nat→Bool) (u:Nat→Value) (h1:L A1=false) (h2:L A2=false) (h3:L S1=false) (h4:L S2=false) (b:Below W.heap.size W w'):ExA W A1 A2 S1 S2 X1 X2 L u w':=
 ⟨b,⟨fun h=>(by rw[h3] at h;cases h),fun h=>(by rw[h1] at h;cases h)⟩,⟨fun h=>(by rw[h4] at h;cases h),fun h=>(by rw[h2] at h;cases h)⟩,fun h=>(by rw[h1] at h;cases h)⟩
theorem ExA.swap (h:ExA W A1 A2 S1 S2 X1 X2 L u w'):ExA W A2 A1 S2 S1 X2 X1 L u w':=⟨h.below,h.v2,h.v1,fun a b g g' e e' q=>h.ne b a g' g e' e q.symm⟩
theorem ExA.alloc1 (h:ExA W A1 A2 S1 S2 X1 X2 L u w') (hL:L A1=false) (h2:A2≠A1) (h3:S1≠A1) (h4:S2≠A1) :
  ExA W A1 A2 S1 S2 X1 X2 (updK L A1) (upd u A1 (.pointer (some ⟨w'.heap.size,0,none⟩))) (w'.alloc (.cells #[.int .u64 0,.int .u64 0,.int .u64 0,.int .u64 0,.int .u64 0] 141)):=by
 have b:=below_new2 w' (.cells #[.int .u64 0,.int .u64 0,.int .u64 0,.int .u64 0,.int .u64 0] 141);have hS:L S1=false:=by
  cases q:L S1 with
  |false=>rfl
  |true=>have:=h.v1.1 q;rw[hL] at this;cases this
 refine⟨h.below.trans (b.mono h.below.size),⟨fun _=>updK_same',fun _=>⟨w'.heap.size,[0,0,0,0,0],by unfold upd;simp,h.below.size,row0 w',zero_ok,by rw[updK_ne' h3,hS];intro q;cases q⟩⟩,h.v2.low A1 h2 h4 _ (fun g _ _ es _ r=>r.below b r.lt),?_⟩;rw[updK_ne' h2,upd_neD (Ne.symm h2)];intro _ q g g' e e' hg;obtain⟨g2,es,k1,k2,k3,_⟩:=h.v2.2 q;have e1:g=w'.heap.size:=by unfold upd at e;simp at e;exact e.symm
 rw[k1] at e';have e2:g2=g':=by simpa using e'
 have:=k3.lt;omega
theorem ExA.alloc2 (h:ExA W A1 A2 S1 S2 X1 X2 L u w') (hL:L A2=false) (h2:A1≠A2) (h3:S2≠A2) (h4:S1≠A2) :
  ExA W A1 A2 S1 S2 X1 X2 (updK L A2) (upd u A2 (.pointer (some ⟨w'.heap.size,0,none⟩))) (w'.alloc (.cells #[.int .u64 0,.int .u64 0,.int .u64 0,.int .u64 0,.int .u64 0] 141)):=
 (h.swap.alloc1 hL h2 h3 h4).swap
theorem ExA.store1 (h:ExA W A1 A2 S1 S2 X1 X2 L u w') {g:Nat} {es:List Int} (hL:L A1=true) (hg:u A1=.pointer (some ⟨g,0,none⟩)) (h1:A1≠S1) (h2:A2≠S1) (h4:S2≠S1) (hk:EOk es) (hv:ev es=X1) (hw:Wr g w' ww) (hr:RowW ww g 141 es) (v:Value) :
  ExA W A1 A2 S1 S2 X1 X2 (updK L S1) (upd u S1 v) ww:=by
 obtain⟨g0,es0,k1,k2,k3,k4,k5⟩:=h.v1.2 hL;have e0:g0=g:=by rw[k1] at hg;simpa using hg
 subst e0;refine⟨h.below.trans (hw.below k2),⟨fun _=>by rw[updK_ne' h1];exact hL,fun _=>⟨g0,es,by rw[upd_neD (Ne.symm h1)];exact hg,k2,hr,hk,fun _=>hv⟩⟩,h.v2.low S1 h2 h4 v (fun g' _ q es' e' r=>hw.rowW r (fun e=>h.ne hL q g0 g' k1 e' e.symm)),?_⟩;rw[updK_ne' h1,updK_ne' h2,upd_neD (Ne.symm h1),upd_neD (Ne.symm h2)];exact h.ne
theorem ExA.store2 (h:ExA W A1 A2 S1 S2 X1 X2 L u w') {g:Nat} {es:List Int} (hL:L A2=true) (hg:u A2=.pointer (some ⟨g,0,none⟩)) (h1:A2≠S2) (h2:A1≠S2) (h4:S1≠S2) (hk:EOk es) (hv:ev es=X2) (hw:Wr g w' ww) (hr:RowW ww g 141 es) (v:Value) :
  ExA W A1 A2 S1 S2 X1 X2 (updK L S2) (upd u S2 v) ww:=(h.swap.store1 hL hg h1 h2 h4 hk hv hw hr v).swap
theorem ExA.fin1 (h:ExA W A1 A2 S1 S2 X1 X2 L u w') (hS:L S1=true):∃ g es,u A1=.pointer (some ⟨g,0,none⟩)∧W.heap.size≤g∧RowW w' g 141 es∧EOk es∧ev es=X1:=by
 obtain⟨g,es,k1,k2,k3,k4,k5⟩:=h.v1.2 (h.v1.1 hS);exact⟨g,es,k1,k2,k3,k4,k5 hS⟩
theorem ExA.get1 (h:ExA W A1 A2 S1 S2 X1 X2 L u w') (hA:L A1=true):∃ g es,u A1=.pointer (some ⟨g,0,none⟩)∧RowW w' g 141 es∧EOk es:=by
 obtain⟨g,es,k1,k2,k3,k4,k5⟩:=h.v1.2 hA;exact⟨g,es,k1,k3,k4⟩
end
theorem wp_storeX {w:World} {o:Oper} {a:Act} {K:Act→World→Prop} {Q:Exit→Act→World→Prop} (x y:Operand) (ho:o.op=.store 141 x y)
  (g:Nat) (zs es:List Int) (hx:a.eval x=.pointer (some ⟨g,0,none⟩)) (hy:a.eval y=.agg (es.map (Value.int .u64)).toArray) (hk:EOk es) (hz:EOk zs) (hr:RowW w g 141 zs)
  (hK:∀ w',RowW w' g 141 es→Wr g w w'→K (a.put o.dst undef) w'):o.wp Tryz.prog a w K Q:=
 wp_store_row 141 x y ho g ((es.map (Value.int .u64)).toArray) hx hy 141 _ hr (sizeEl hk.1) (by simp[hk.1,hz.1]) (all_oneCell_toArray (ints_oneCell _ _)) (hK _ (setRow_heap _ _ _ _ _ _ hr) (Wr.setRow _ _ _))
def AddP (w:World) (g:Nat) (X1 Y1 Z1 T1 X2 Y2 Z2 T2:Int) (e:Ending) (w':World):Prop:=
 ∃ x y z t,Pt w' g x y z t∧WrH g w w'∧e=.returned (.tuple #[])∧
  ev x=(smB X1 Y1 X2 Y2-smA X1 Y1 X2 Y2)%fp*((smG Z1 Z2-smC mdD T1 T2)%fp)%fp∧
  ev y=(smG Z1 Z2+smC mdD T1 T2)%fp*((smB X1 Y1 X2 Y2+smA X1 Y1 X2 Y2)%fp)%fp∧
  ev z=(smG Z1 Z2-smC mdD T1 T2)%fp*((smG Z1 Z2+smC mdD T1 T2)%fp)%fp∧
  ev t=(smB X1 Y1 X2 Y2-smA X1 Y1 X2 Y2)%fp*((smB X1 Y1 X2 Y2+smA X1 Y1 X2 Y2)%fp)%fp
theorem em1 (a b:Int):a%fp*b%fp=a*b%fp:=by rw[Int.mul_emod,Int.emod_emod,←Int.mul_emod]
theorem eq_C (D T1 T2:Int):T1*T2%fp*((D+D)%fp)%fp=smC D T1 T2:=by
 unfold smC;rw[em1,em1]
 congr 1;grind
theorem eq_G (Z1 Z2:Int):(Z1*Z2%fp+Z1*Z2%fp)%fp=smG Z1 Z2:=by
 unfold smG;rw[em1,←Int.add_emod]
 congr 1;grind
theorem len5 {xs:List Int} (h:xs.length=5):∃ a b c d e,xs=[a,b,c,d,e]:=by
 match xs,h with
 |[a,b,c,d,e],_=>exact⟨a,b,c,d,e,rfl⟩
theorem Tryz.sizePoint:(Tryz.prog.info? 143).map (·.size)=some 20:=by kernel_rfl
theorem wpList_storeP {w:World} {ops:Array Oper} {rest:List Oper} {o:Oper} {a:Act} {Q:Exit→Act→World→Prop} (hgd:o.guard=none) (px py:Operand) (ho:o.op=.store 143 px py)
  (g:Nat) (x y z t old:List Int) (hx:a.eval px=.pointer (some ⟨g,0,none⟩)) (hy:a.eval py=.agg ((pl x y z t).map (Value.int .u64)).toArray) (kx:EOk x) (ky:EOk y) (kz:EOk z) (kt:EOk t) (hl:old.length=20) (hr:RowW w g 143 old)
  (hK:∀ w',Pt w' g x y z t→Wr g w w'→wpList Tryz.prog ops Q rest (a.put o.dst undef) w') :
  wpList Tryz.prog ops Q (o::rest) a w:=by
 have hn:(pl x y z t).length=20:=by unfold pl;simp[kx.1,ky.1,kz.1,kt.1]
 exact wpList_store_row hgd 143 px py ho g ((pl x y z t).map (Value.int .u64)).toArray hx hy 143 _ hr (by rw[Tryz.sizePoint];simp[hn]) (by simp[hn,hl]) (all_oneCell_toArray (ints_oneCell _ _)) (hK _ ⟨setRow_heap _ _ _ _ _ _ hr,kx,ky,kz,kt⟩ (Wr.setRow _ _ _))
set_option maxRecDepth 100000 in
set_option maxHeartbeats 16000000 in
theorem add_any (g h:Nat) (x1 y1 z1 t1 x2 y2 z2 t2:List Int) (w:World) (hp:Pt w g x1 y1 z1 t1) (hq:Pt w h x2 y2 z2 t2) :
  Calls Tryz.prog 110 #[.pointer (some ⟨g,0,none⟩),.pointer (some ⟨h,0,none⟩)] w (AddP w g (ev x1) (ev y1) (ev z1) (ev t1) (ev x2) (ev y2) (ev z2) (ev t2)):=by
 have HS0:Hid (RunD w w [] [(g,0,x1),(g,5,y1),(g,10,z1),(g,15,t1),(h,0,x2),(h,5,y2),(h,10,z2),(h,15,t2)]):=RunD.start w _ (fun e he=>by
  simp only[List.mem_cons,List.not_mem_nil,or_false] at he;rcases he with rfl|rfl|rfl|rfl|rfl|rfl|rfl|rfl
  ·exact hp.ex
  ·exact hp.ey
  ·exact hp.ez
  ·exact hp.et
  ·exact hq.ex
  ·exact hq.ey
  ·exact hq.ez
  ·exact hq.et)
 have HPT:=hdI <| hp
 go_enter Tryz.func110,Tryz.ntmps110;go_wp2_with fail;refine(curveD2_any _).mono ?_;rintro e w1 ⟨dd,hk,hv,rfl,b⟩;have HKdd:Hid (EOk dd∧ev dd=ev curveD2L):=⟨hk,hv⟩
 have HS1:=hdI <| HS0.out.call b
 have HA2:=hdI <| HS1.out.room
 go_wp2_with (first
  |(refine wpList_storeD HA2.out rfl (.tmp 4) (.tmp 17) rfl 0 (w1.heap.size) [0,0,0,0,0] dd rfl rfl rfl HKdd.out.1 rfl ?_)
  |fail)
 intro w3 S;have HS3:=hdI <| S
 generalize w1.heap.size=G3a at *;go_wp2_with fail;refine wp_region_any (by kernel_rfl) ?_;refine wpAny_slots9 (fun _ _ _=>True) (frame:=(fun (a b c d e f g h i j k l m n o p q r s u v w x y z A B C D E F G H I J K L M N O P Q R S T U V W X Y Z a0 a1 a2 a3 a4 a5 a6 a7:Value)=>fun (t:Nat→Value)=>({ tmps:=List.toArray [a,b,c,d,e,t 14,t 15,f,g,h,i,j,k,l,m,n,o,p,t 0,t 1,t 2,t 3,t 4,t 5,t 6,t 7,t 8,t 9,t 10,t 11,t 12,t 13,q,r,s,u,v,w,x,y,z,A,B,C,D,E,F,G,H,I,J,K,L,M,N,O,P,Q,R,S,T,U,V,W,X,Y,Z,a0,a1,a2,a3,a4,a5,a6,a7],defers:=[] }:Act)) _ _ _ _ _ _ _ _ _ _ _ _ _ _ _ _ _ _ _ _ _ _ _ _ _ _ _ _ _ _ _ _ _ _ _ _ _ _ _ _ _ _ _ _ _ _ _ _ _ _ _ _ _ _ _ _ _ _ _)
  (Ext:=ExA w3 14 15 16 17 ((ev y1-ev x1)%fp) ((ev y2-ev x2)%fp)) (Good:=fun i L _ v=>if i=0 then v=.pointer (some ⟨g,0,none⟩) else if i=1 then v=.pointer (some ⟨g,0,none⟩) else if i=2 then v=.pointer (some ⟨g,5,none⟩) else if i=3 then v=.pointer (some ⟨g,0,none⟩) else if i=4 then v=.pointer (some ⟨g,0,none⟩) else if i=5 then v=.pointer (some ⟨g,0,none⟩) else if i=6 then EV ((ev y1-ev x1)%fp) v else if i=7 then v=.pointer (some ⟨h,0,none⟩) else if i=8 then v=.pointer (some ⟨h,0,none⟩) else if i=9 then v=.pointer (some ⟨h,5,none⟩) else if i=10 then v=.pointer (some ⟨h,0,none⟩) else if i=11 then v=.pointer (some ⟨h,0,none⟩) else if i=12 then v=.pointer (some ⟨h,0,none⟩) else if i=13 then EV ((ev y2-ev x2)%fp) v else if i=14 then L 14=true else if i=15 then L 15=true else if i=16 then L 16=true else if i=17 then L 17=true else True) ?hstab (by kernel_rfl) ?hop ?hdone _ _ ((fun (x0 x1 x2 x3 x4 x5 x6 x7 x8 x9 x10 x11 x12 x13 x14 x15:Value)=>fun (i:Nat)=>if i=0 then x0 else if i=1 then x1 else if i=2 then x2 else if i=3 then x3 else if i=4 then x4 else if i=5 then x5 else if i=6 then x6 else if i=7 then x7 else if i=8 then x8 else if i=9 then x9 else if i=10 then x10 else if i=11 then x11 else if i=12 then x12 else if i=13 then x13 else if i=14 then x14 else if i=15 then x15 else undef) _ _ _ _ _ _ _ _ _ _ _ _ _ _ _ _) _ (by simp) ?ext ?start (by simp)
 case start=>intro i hi h;exact absurd h (by rw[Array.getD_eq_getD_getElem?,Array.getElem?_replicate];split<;>simp)
 case ext=>exact ExA.start _ _ _ (by simp) (by simp) (by simp) (by simp) ⟨rfl,rfl,rfl,Nat.le_refl _,fun _ _=>rfl⟩
 case hstab=>
  intro j L w9 w' i v _ _ _ h;by_cases h14:j=14
  ·subst h14;simp at h ⊢;unfold updK;simp[h]
  by_cases h15:j=15
  ·subst h15;simp at h ⊢;unfold updK;simp[h]
  by_cases h16:j=16
  ·subst h16;simp at h ⊢;unfold updK;simp[h]
  by_cases h17:j=17
  ·subst h17;simp at h ⊢;unfold updK;simp[h]
  simp only[if_neg h14,if_neg h15,if_neg h16,if_neg h17] at h ⊢;exact h
 case hop=>
  intro i o L t w' ho hLi hx hdep K hK;have hi:i<18:=(Array.getElem?_eq_some_iff.1 ho).1;obtain rfl|rfl|rfl|rfl|rfl|rfl|rfl|rfl|rfl|rfl|rfl|rfl|rfl|rfl|rfl|rfl|rfl|rfl:i=0∨i=1∨i=2∨i=3∨i=4∨i=5∨i=6∨i=7∨i=8∨i=9∨i=10∨i=11∨i=12∨i=13∨i=14∨i=15∨i=16∨i=17:=by omega
  all_goals(simp at ho;subst ho)
  all_goals try(have hK':=hK w' _ rfl (hx.low _ (by decide) (by decide) (by decide) (by decide) _ (Below.refl _ _)) trivial;clear hK;simp[Region.binds] at hdep;rw[if_pos (by rfl)];go_simp;simpa[upd,hdep] using hK';done)
  ·have d2:t 2=.pointer (some ⟨g,5,none⟩):=by simpa using hdep ⟨2,.data⟩ (by simp) rfl
   have d5:t 5=.pointer (some ⟨g,0,none⟩):=by simpa using hdep ⟨5,.data⟩ (by simp) rfl
   have A:=minus_any g 5 g 0 y1 x1 w' ((HS3.out.el 1 _ _ _ rfl).below hx.below) ((HS3.out.el 0 _ _ _ rfl).below hx.below);have hK':∀ ww v,EV ((ev y1-ev x1)%fp) v→Below w'.heap.size w' ww→K _ ww:=fun ww v hv hb=>hK ww v (by simpa using hv) (hx.low 6 (by decide) (by decide) (by decide) (by decide) _ hb) trivial
   rw[if_pos (by rfl)];go_simp;try simp only[d2,d5]
   refine A.mono ?_;rintro e w9 ⟨es,hk,hv,rfl,hb⟩;have hK2:=hK' w9 _ ⟨es,hk,hv,rfl⟩ hb;go_simp;simpa[upd,d2,d5] using hK2
  ·have d9:t 9=.pointer (some ⟨h,5,none⟩):=by simpa using hdep ⟨9,.data⟩ (by simp) rfl
   have d12:t 12=.pointer (some ⟨h,0,none⟩):=by simpa using hdep ⟨12,.data⟩ (by simp) rfl
   have A:=minus_any h 5 h 0 y2 x2 w' ((HS3.out.el 5 _ _ _ rfl).below hx.below) ((HS3.out.el 4 _ _ _ rfl).below hx.below);have hK':∀ ww v,EV ((ev y2-ev x2)%fp) v→Below w'.heap.size w' ww→K _ ww:=fun ww v hv hb=>hK ww v (by simpa using hv) (hx.low 13 (by decide) (by decide) (by decide) (by decide) _ hb) trivial
   rw[if_pos (by rfl)];go_simp;try simp only[d9,d12]
   refine A.mono ?_;rintro e w9 ⟨es,hk,hv,rfl,hb⟩;have hK2:=hK' w9 _ ⟨es,hk,hv,rfl⟩ hb;go_simp;simpa[upd,d9,d12] using hK2
  ·clear hdep;have hK':=hK _ (.pointer (some ⟨w'.heap.size,0,none⟩)) (by simp[updK]) (hx.alloc1 hLi (by decide) (by decide) (by decide)) trivial;rw[if_pos (by rfl)];go_simp;simpa[upd] using hK'
  ·clear hdep;have hK':=hK _ (.pointer (some ⟨w'.heap.size,0,none⟩)) (by simp[updK]) (hx.alloc2 hLi (by decide) (by decide) (by decide)) trivial;rw[if_pos (by rfl)];go_simp;simpa[upd] using hK'
  ·have l14:L 14=true:=by simpa using hdep ⟨14,.data⟩ (by simp) rfl
   have f6:EV ((ev y1-ev x1)%fp) (t 6):=by simpa using hdep ⟨6,.data⟩ (by simp) rfl
   obtain⟨g9,zs9,e9,r9,k9⟩:=hx.get1 l14;refine f6.elim_ fun es9 ke ve ee=>?_
   have hK':∀ ww,RowW ww g9 141 es9→Wr g9 w' ww→K _ ww:=fun ww rr hw=>hK ww undef (by simp[updK]) (hx.store1 l14 e9 (by decide) (by decide) (by decide) ke ve hw rr _) trivial
   rw[if_pos (by rfl)];refine wp_storeX (.tmp 5) (.tmp 24) rfl g9 zs9 es9 e9 ee ke k9 r9 fun ww rr hw=>?_
   have hK2:=hK' ww rr hw;simpa[upd,Act.put] using hK2
  ·have l15:L 15=true:=by simpa using hdep ⟨15,.data⟩ (by simp) rfl
   have f13:EV ((ev y2-ev x2)%fp) (t 13):=by simpa using hdep ⟨13,.data⟩ (by simp) rfl
   obtain⟨g9,zs9,e9,r9,k9⟩:=hx.swap.get1 l15;refine f13.elim_ fun es9 ke ve ee=>?_
   have hK':∀ ww,RowW ww g9 141 es9→Wr g9 w' ww→K _ ww:=fun ww rr hw=>hK ww undef (by simp[updK]) (hx.store2 l15 e9 (by decide) (by decide) (by decide) ke ve hw rr _) trivial
   rw[if_pos (by rfl)];refine wp_storeX (.tmp 6) (.tmp 31) rfl g9 zs9 es9 e9 ee ke k9 r9 fun ww rr hw=>?_
   have hK2:=hK' ww rr hw;simpa[upd,Act.put] using hK2
 case hdone=>
  intro L t4 w4 hx hg;have l16:L 16=true:=by simpa using hg 16 (by decide)
  have l17:L 17=true:=by simpa using hg 17 (by decide)
  obtain⟨G4a,pd,q1,qg1,qr1,qk1,qv1⟩:=hx.fin1 l16;obtain⟨G4b,qd,q2,qg2,qr2,qk2,qv2⟩:=hx.swap.fin1 l17;have qne:=hx.ne (hx.v1.1 l16) (hx.v2.1 l17) _ _ q1 q2;have HS4:=hdI <| HS3.out.two hx.below qg1 qr1 qk1 qg2 qr2 qk2 qne
  have HKpd:Hid (EOk pd∧ev pd=(ev y1-ev x1)%fp):=⟨qk1,qv1⟩
  have HKqd:Hid (EOk qd∧ev qd=(ev y2-ev x2)%fp):=⟨qk2,qv2⟩
  simp only[q1,q2];go_wp2_with fail;refine wp_region_any (by kernel_rfl) ?_;refine wpAny_slots9 (fun _ _ _=>True) (frame:=(fun (a b c d e f g h i j k l m n o p q r s u v w x y z A B C D E F G H I J K L M N O P Q R S T U V W X Y Z a0 a1 a2 a3 a4 a5 a6 a7:Value)=>fun (t:Nat→Value)=>({ tmps:=List.toArray [a,b,c,d,e,f,g,t 14,t 15,h,i,j,k,l,m,n,o,p,q,r,s,u,v,w,x,y,z,A,B,C,D,E,t 0,t 1,t 2,t 3,t 4,t 5,t 6,t 7,t 8,t 9,t 10,t 11,t 12,t 13,F,G,H,I,J,K,L,M,N,O,P,Q,R,S,T,U,V,W,X,Y,Z,a0,a1,a2,a3,a4,a5,a6,a7],defers:=[] }:Act)) _ _ _ _ _ _ _ _ _ _ _ _ _ _ _ _ _ _ _ _ _ _ _ _ _ _ _ _ _ _ _ _ _ _ _ _ _ _ _ _ _ _ _ _ _ _ _ _ _ _ _ _ _ _ _ _ _ _ _)
   (Ext:=ExA w4 14 15 16 17 ((ev y1+ev x1)%fp) ((ev y2+ev x2)%fp)) (Good:=fun i L _ v=>if i=0 then v=.pointer (some ⟨g,0,none⟩) else if i=1 then v=.pointer (some ⟨g,0,none⟩) else if i=2 then v=.pointer (some ⟨g,5,none⟩) else if i=3 then v=.pointer (some ⟨g,0,none⟩) else if i=4 then v=.pointer (some ⟨g,0,none⟩) else if i=5 then v=.pointer (some ⟨g,0,none⟩) else if i=6 then EV ((ev y1+ev x1)%fp) v else if i=7 then v=.pointer (some ⟨h,0,none⟩) else if i=8 then v=.pointer (some ⟨h,0,none⟩) else if i=9 then v=.pointer (some ⟨h,5,none⟩) else if i=10 then v=.pointer (some ⟨h,0,none⟩) else if i=11 then v=.pointer (some ⟨h,0,none⟩) else if i=12 then v=.pointer (some ⟨h,0,none⟩) else if i=13 then EV ((ev y2+ev x2)%fp) v else if i=14 then L 14=true else if i=15 then L 15=true else if i=16 then L 16=true else if i=17 then L 17=true else True) ?hstab (by kernel_rfl) ?hop ?hdone _ _ ((fun (x0 x1 x2 x3 x4 x5 x6 x7 x8 x9 x10 x11 x12 x13 x14 x15:Value)=>fun (i:Nat)=>if i=0 then x0 else if i=1 then x1 else if i=2 then x2 else if i=3 then x3 else if i=4 then x4 else if i=5 then x5 else if i=6 then x6 else if i=7 then x7 else if i=8 then x8 else if i=9 then x9 else if i=10 then x10 else if i=11 then x11 else if i=12 then x12 else if i=13 then x13 else if i=14 then x14 else if i=15 then x15 else undef) _ _ _ _ _ _ _ _ _ _ _ _ _ _ _ _) _ (by simp) ?ext ?start (by simp)
  case start=>intro i hi h;exact absurd h (by rw[Array.getD_eq_getD_getElem?,Array.getElem?_replicate];split<;>simp)
  case ext=>exact ExA.start _ _ _ (by simp) (by simp) (by simp) (by simp) ⟨rfl,rfl,rfl,Nat.le_refl _,fun _ _=>rfl⟩
  case hstab=>
   intro j L w9 w' i v _ _ _ h;by_cases h14:j=14
   ·subst h14;simp at h ⊢;unfold updK;simp[h]
   by_cases h15:j=15
   ·subst h15;simp at h ⊢;unfold updK;simp[h]
   by_cases h16:j=16
   ·subst h16;simp at h ⊢;unfold updK;simp[h]
   by_cases h17:j=17
   ·subst h17;simp at h ⊢;unfold updK;simp[h]
   simp only[if_neg h14,if_neg h15,if_neg h16,if_neg h17] at h ⊢;exact h
  case hop=>
   intro i o L t w' ho hLi hx hdep K hK;have hi:i<18:=(Array.getElem?_eq_some_iff.1 ho).1;obtain rfl|rfl|rfl|rfl|rfl|rfl|rfl|rfl|rfl|rfl|rfl|rfl|rfl|rfl|rfl|rfl|rfl|rfl:i=0∨i=1∨i=2∨i=3∨i=4∨i=5∨i=6∨i=7∨i=8∨i=9∨i=10∨i=11∨i=12∨i=13∨i=14∨i=15∨i=16∨i=17:=by omega
   all_goals(simp at ho;subst ho)
   all_goals try(have hK':=hK w' _ rfl (hx.low _ (by decide) (by decide) (by decide) (by decide) _ (Below.refl _ _)) trivial;clear hK;simp[Region.binds] at hdep;rw[if_pos (by rfl)];go_simp;simpa[upd,hdep] using hK';done)
   ·have d2:t 2=.pointer (some ⟨g,5,none⟩):=by simpa using hdep ⟨2,.data⟩ (by simp) rfl
    have d5:t 5=.pointer (some ⟨g,0,none⟩):=by simpa using hdep ⟨5,.data⟩ (by simp) rfl
    have A:=plus_any g 5 g 0 y1 x1 w' ((HS4.out.el 1 _ _ _ rfl).below hx.below) ((HS4.out.el 0 _ _ _ rfl).below hx.below);have hK':∀ ww v,EV ((ev y1+ev x1)%fp) v→Below w'.heap.size w' ww→K _ ww:=fun ww v hv hb=>hK ww v (by simpa using hv) (hx.low 6 (by decide) (by decide) (by decide) (by decide) _ hb) trivial
    rw[if_pos (by rfl)];go_simp;try simp only[d2,d5]
    refine A.mono ?_;rintro e w9 ⟨es,hk,hv,rfl,hb⟩;have hK2:=hK' w9 _ ⟨es,hk,hv,rfl⟩ hb;go_simp;simpa[upd,d2,d5] using hK2
   ·have d9:t 9=.pointer (some ⟨h,5,none⟩):=by simpa using hdep ⟨9,.data⟩ (by simp) rfl
    have d12:t 12=.pointer (some ⟨h,0,none⟩):=by simpa using hdep ⟨12,.data⟩ (by simp) rfl
    have A:=plus_any h 5 h 0 y2 x2 w' ((HS4.out.el 5 _ _ _ rfl).below hx.below) ((HS4.out.el 4 _ _ _ rfl).below hx.below);have hK':∀ ww v,EV ((ev y2+ev x2)%fp) v→Below w'.heap.size w' ww→K _ ww:=fun ww v hv hb=>hK ww v (by simpa using hv) (hx.low 13 (by decide) (by decide) (by decide) (by decide) _ hb) trivial
    rw[if_pos (by rfl)];go_simp;try simp only[d9,d12]
    refine A.mono ?_;rintro e w9 ⟨es,hk,hv,rfl,hb⟩;have hK2:=hK' w9 _ ⟨es,hk,hv,rfl⟩ hb;go_simp;simpa[upd,d9,d12] using hK2
   ·clear hdep;have hK':=hK _ (.pointer (some ⟨w'.heap.size,0,none⟩)) (by simp[updK]) (hx.alloc1 hLi (by decide) (by decide) (by decide)) trivial;rw[if_pos (by rfl)];go_simp;simpa[upd] using hK'
   ·clear hdep;have hK':=hK _ (.pointer (some ⟨w'.heap.size,0,none⟩)) (by simp[updK]) (hx.alloc2 hLi (by decide) (by decide) (by decide)) trivial;rw[if_pos (by rfl)];go_simp;simpa[upd] using hK'
   ·have l14:L 14=true:=by simpa using hdep ⟨14,.data⟩ (by simp) rfl
    have f6:EV ((ev y1+ev x1)%fp) (t 6):=by simpa using hdep ⟨6,.data⟩ (by simp) rfl
    obtain⟨g9,zs9,e9,r9,k9⟩:=hx.get1 l14;refine f6.elim_ fun es9 ke ve ee=>?_
    have hK':∀ ww,RowW ww g9 141 es9→Wr g9 w' ww→K _ ww:=fun ww rr hw=>hK ww undef (by simp[updK]) (hx.store1 l14 e9 (by decide) (by decide) (by decide) ke ve hw rr _) trivial
    rw[if_pos (by rfl)];refine wp_storeX (.tmp 7) (.tmp 38) rfl g9 zs9 es9 e9 ee ke k9 r9 fun ww rr hw=>?_
    have hK2:=hK' ww rr hw;simpa[upd,Act.put] using hK2
   ·have l15:L 15=true:=by simpa using hdep ⟨15,.data⟩ (by simp) rfl
    have f13:EV ((ev y2+ev x2)%fp) (t 13):=by simpa using hdep ⟨13,.data⟩ (by simp) rfl
    obtain⟨g9,zs9,e9,r9,k9⟩:=hx.swap.get1 l15;refine f13.elim_ fun es9 ke ve ee=>?_
    have hK':∀ ww,RowW ww g9 141 es9→Wr g9 w' ww→K _ ww:=fun ww rr hw=>hK ww undef (by simp[updK]) (hx.store2 l15 e9 (by decide) (by decide) (by decide) ke ve hw rr _) trivial
    rw[if_pos (by rfl)];refine wp_storeX (.tmp 8) (.tmp 45) rfl g9 zs9 es9 e9 ee ke k9 r9 fun ww rr hw=>?_
    have hK2:=hK' ww rr hw;simpa[upd,Act.put] using hK2
  case hdone=>
   intro L t5 w5 hx hg;have l16:L 16=true:=by simpa using hg 16 (by decide)
   have l17:L 17=true:=by simpa using hg 17 (by decide)
   obtain⟨G5a,pu,q1,qg1,qr1,qk1,qv1⟩:=hx.fin1 l16;obtain⟨G5b,qu,q2,qg2,qr2,qk2,qv2⟩:=hx.swap.fin1 l17;have qne:=hx.ne (hx.v1.1 l16) (hx.v2.1 l17) _ _ q1 q2;have HS5:=hdI <| HS4.out.two hx.below qg1 qr1 qk1 qg2 qr2 qk2 qne
   have HKpu:Hid (EOk pu∧ev pu=(ev y1+ev x1)%fp):=⟨qk1,qv1⟩
   have HKqu:Hid (EOk qu∧ev qu=(ev y2+ev x2)%fp):=⟨qk2,qv2⟩
   simp only[q1,q2];go_wp2_with fail;refine(times_any G4a 0 G4b 0 pd qd _ (HS5.out.re 3 _ _ rfl) (HS5.out.re 2 _ _ rfl)).mono ?_;rintro e w6 ⟨dn,hk,hv,rfl,b⟩;have HKdn:Hid (EOk dn∧ev dn=ev pd*ev qd%fp):=⟨hk,hv⟩
   have HS6:=hdI <| HS5.out.call b
   go_wp2_with fail;refine(times_any G5a 0 G5b 0 pu qu _ (HS6.out.re 1 _ _ rfl) (HS6.out.re 0 _ _ rfl)).mono ?_;rintro e w7 ⟨up,hk,hv,rfl,b⟩;have HKup:Hid (EOk up∧ev up=ev pu*ev qu%fp):=⟨hk,hv⟩
   have HS7:=hdI <| HS6.out.call b
   have HA8:=hdI <| HS7.out.room2
   go_wp2_with (first
    |(refine wpList_storeD HA8.out rfl (.tmp 9) (.tmp 46) rfl 1 (w7.heap.size) [0,0,0,0,0] dn rfl rfl rfl HKdn.out.1 rfl ?_)
    |fail)
   intro w9 S;have HS9:=hdI <| S
   go_wp2_with (first
    |(refine wpList_storeD HS9.out rfl (.tmp 10) (.tmp 47) rfl 0 (w7.heap.size+1) [0,0,0,0,0] up rfl rfl rfl HKup.out.1 rfl ?_)
    |fail)
   intro w10 S;have HS10:=hdI <| S
   generalize w7.heap.size+1=G10b at *;generalize w7.heap.size=G10a at *;go_wp2_with fail;refine wp_region_any (by kernel_rfl) ?_;refine wpAny_slots9 (fun _ _ _=>True) (frame:=(fun (a b c d e f g h i j k l m n o p q r s u v w x y z A B C D E F G H I J K L M N O P Q R S T U V W X Y Z a0 a1 a2 a3 a4 a5 a6 a7 a8 a9 b0 b1 b2 b3 b4 b5:Value)=>fun (t:Nat→Value)=>({ tmps:=List.toArray [a,b,c,d,e,f,g,h,i,j,k,t 7,l,m,n,o,p,q,r,s,u,v,w,x,y,z,A,B,C,D,E,F,G,H,I,J,K,L,M,N,O,P,Q,R,S,T,U,V,t 0,t 1,t 2,t 3,t 4,t 5,t 6,W,X,Y,Z,a0,a1,a2,a3,a4,a5,a6,a7,a8,a9,b0,b1,b2,b3,b4,b5],defers:=[] }:Act)) _ _ _ _ _ _ _ _ _ _ _ _ _ _ _ _ _ _ _ _ _ _ _ _ _ _ _ _ _ _ _ _ _ _ _ _ _ _ _ _ _ _ _ _ _ _ _ _ _ _ _ _ _ _ _ _ _ _ _ _ _ _ _ _ _ _ _)
    (Ext:=ExA w10 7 98 8 99 (ev t1*ev t2%fp) (0)) (Good:=fun i L _ v=>if i=0 then v=.pointer (some ⟨g,0,none⟩) else if i=1 then v=.pointer (some ⟨g,0,none⟩) else if i=2 then v=.pointer (some ⟨g,15,none⟩) else if i=3 then v=.pointer (some ⟨h,0,none⟩) else if i=4 then v=.pointer (some ⟨h,0,none⟩) else if i=5 then v=.pointer (some ⟨h,15,none⟩) else if i=6 then EV (ev t1*ev t2%fp) v else if i=7 then L 7=true else if i=8 then L 8=true else True) ?hstab (by kernel_rfl) ?hop ?hdone _ _ ((fun (x0 x1 x2 x3 x4 x5 x6 x7:Value)=>fun (i:Nat)=>if i=0 then x0 else if i=1 then x1 else if i=2 then x2 else if i=3 then x3 else if i=4 then x4 else if i=5 then x5 else if i=6 then x6 else if i=7 then x7 else undef) _ _ _ _ _ _ _ _) _ (by simp) ?ext ?start (by simp)
   case start=>intro i hi h;exact absurd h (by rw[Array.getD_eq_getD_getElem?,Array.getElem?_replicate];split<;>simp)
   case ext=>exact ExA.start _ _ _ (by simp) (by simp) (by simp) (by simp) ⟨rfl,rfl,rfl,Nat.le_refl _,fun _ _=>rfl⟩
   case hstab=>
    intro j L w9 w' i v _ _ _ h;by_cases h7:j=7
    ·subst h7;simp at h ⊢;unfold updK;simp[h]
    by_cases h8:j=8
    ·subst h8;simp at h ⊢;unfold updK;simp[h]
    simp only[if_neg h7,if_neg h8] at h ⊢;exact h
   case hop=>
    intro i o L t w' ho hLi hx hdep K hK;have hi:i<9:=(Array.getElem?_eq_some_iff.1 ho).1;obtain rfl|rfl|rfl|rfl|rfl|rfl|rfl|rfl|rfl:i=0∨i=1∨i=2∨i=3∨i=4∨i=5∨i=6∨i=7∨i=8:=by omega
    all_goals(simp at ho;subst ho)
    all_goals try(have hK':=hK w' _ rfl (hx.low _ (by decide) (by decide) (by decide) (by decide) _ (Below.refl _ _)) trivial;clear hK;simp[Region.binds] at hdep;rw[if_pos (by rfl)];go_simp;simpa[upd,hdep] using hK';done)
    ·have d2:t 2=.pointer (some ⟨g,15,none⟩):=by simpa using hdep ⟨2,.data⟩ (by simp) rfl
     have d5:t 5=.pointer (some ⟨h,15,none⟩):=by simpa using hdep ⟨5,.data⟩ (by simp) rfl
     have A:=times_any g 15 h 15 t1 t2 w' ((HS10.out.el 3 _ _ _ rfl).below hx.below) ((HS10.out.el 7 _ _ _ rfl).below hx.below);have hK':∀ ww v,EV (ev t1*ev t2%fp) v→Below w'.heap.size w' ww→K _ ww:=fun ww v hv hb=>hK ww v (by simpa using hv) (hx.low 6 (by decide) (by decide) (by decide) (by decide) _ hb) trivial
     rw[if_pos (by rfl)];go_simp;try simp only[d2,d5]
     refine A.mono ?_;rintro e w9 ⟨es,hk,hv,rfl,hb⟩;have hK2:=hK' w9 _ ⟨es,hk,hv,rfl⟩ hb;go_simp;simpa[upd,d2,d5] using hK2
    ·clear hdep;have hK':=hK _ (.pointer (some ⟨w'.heap.size,0,none⟩)) (by simp[updK]) (hx.alloc1 hLi (by decide) (by decide) (by decide)) trivial;rw[if_pos (by rfl)];go_simp;simpa[upd] using hK'
    ·have l7:L 7=true:=by simpa using hdep ⟨7,.data⟩ (by simp) rfl
     have f6:EV (ev t1*ev t2%fp) (t 6):=by simpa using hdep ⟨6,.data⟩ (by simp) rfl
     obtain⟨g9,zs9,e9,r9,k9⟩:=hx.get1 l7;refine f6.elim_ fun es9 ke ve ee=>?_
     have hK':∀ ww,RowW ww g9 141 es9→Wr g9 w' ww→K _ ww:=fun ww rr hw=>hK ww undef (by simp[updK]) (hx.store1 l7 e9 (by decide) (by decide) (by decide) ke ve hw rr _) trivial
     rw[if_pos (by rfl)];refine wp_storeX (.tmp 11) (.tmp 54) rfl g9 zs9 es9 e9 ee ke k9 r9 fun ww rr hw=>?_
     have hK2:=hK' ww rr hw;simpa[upd,Act.put] using hK2
   case hdone=>
    intro L t11 w11 hx hg;have l8:L 8=true:=by simpa using hg 8 (by decide)
    obtain⟨G11a,cc,q1,qg1,qr1,qk1,qv1⟩:=hx.fin1 l8;have HS11:=hdI <| HS10.out.one hx.below qg1 qr1 qk1
    have HKcc:Hid (EOk cc∧ev cc=ev t1*ev t2%fp):=⟨qk1,qv1⟩
    simp only[q1];go_wp2_with fail;refine(times_any G11a 0 G3a 0 cc dd _ (HS11.out.re 0 _ _ rfl) (HS11.out.re 7 _ _ rfl)).mono ?_;rintro e w12 ⟨cd,hk,hv,rfl,b⟩;have HKcd:Hid (EOk cd∧ev cd=ev cc*ev dd%fp):=⟨hk,hv⟩
    have HS12:=hdI <| HS11.out.call b
    go_wp2_with (first
     |(refine wpList_storeD HS12.out rfl (.tmp 11) (.tmp 55) rfl 0 G11a cc cd rfl rfl rfl HKcd.out.1 rfl ?_)
     |fail)
    intro w13 S;have HS13:=hdI <| S
    go_wp2_with fail;refine wp_region_any (by kernel_rfl) ?_;refine wpAny_slots9 (fun _ _ _=>True) (frame:=(fun (a b c d e f g h i j k l m n o p q r s u v w x y z A B C D E F G H I J K L M N O P Q R S T U V W X Y Z a0 a1 a2 a3 a4 a5 a6 a7 a8 a9 b0 b1 b2 b3 b4 b5:Value)=>fun (t:Nat→Value)=>({ tmps:=List.toArray [a,b,c,d,e,f,g,h,i,j,k,l,t 7,m,n,o,p,q,r,s,u,v,w,x,y,z,A,B,C,D,E,F,G,H,I,J,K,L,M,N,O,P,Q,R,S,T,U,V,W,X,Y,Z,a0,a1,a2,a3,t 0,t 1,t 2,t 3,t 4,t 5,t 6,a4,a5,a6,a7,a8,a9,b0,b1,b2,b3,b4,b5],defers:=[] }:Act)) _ _ _ _ _ _ _ _ _ _ _ _ _ _ _ _ _ _ _ _ _ _ _ _ _ _ _ _ _ _ _ _ _ _ _ _ _ _ _ _ _ _ _ _ _ _ _ _ _ _ _ _ _ _ _ _ _ _ _ _ _ _ _ _ _ _ _)
     (Ext:=ExA w13 7 98 8 99 (ev z1*ev z2%fp) (0)) (Good:=fun i L _ v=>if i=0 then v=.pointer (some ⟨g,0,none⟩) else if i=1 then v=.pointer (some ⟨g,0,none⟩) else if i=2 then v=.pointer (some ⟨g,10,none⟩) else if i=3 then v=.pointer (some ⟨h,0,none⟩) else if i=4 then v=.pointer (some ⟨h,0,none⟩) else if i=5 then v=.pointer (some ⟨h,10,none⟩) else if i=6 then EV (ev z1*ev z2%fp) v else if i=7 then L 7=true else if i=8 then L 8=true else True) ?hstab (by kernel_rfl) ?hop ?hdone _ _ ((fun (x0 x1 x2 x3 x4 x5 x6 x7:Value)=>fun (i:Nat)=>if i=0 then x0 else if i=1 then x1 else if i=2 then x2 else if i=3 then x3 else if i=4 then x4 else if i=5 then x5 else if i=6 then x6 else if i=7 then x7 else undef) _ _ _ _ _ _ _ _) _ (by simp) ?ext ?start (by simp)
    case start=>intro i hi h;exact absurd h (by rw[Array.getD_eq_getD_getElem?,Array.getElem?_replicate];split<;>simp)
    case ext=>exact ExA.start _ _ _ (by simp) (by simp) (by simp) (by simp) ⟨rfl,rfl,rfl,Nat.le_refl _,fun _ _=>rfl⟩
    case hstab=>
     intro j L w9 w' i v _ _ _ h;by_cases h7:j=7
     ·subst h7;simp at h ⊢;unfold updK;simp[h]
     by_cases h8:j=8
     ·subst h8;simp at h ⊢;unfold updK;simp[h]
     simp only[if_neg h7,if_neg h8] at h ⊢;exact h
    case hop=>
     intro i o L t w' ho hLi hx hdep K hK;have hi:i<9:=(Array.getElem?_eq_some_iff.1 ho).1;obtain rfl|rfl|rfl|rfl|rfl|rfl|rfl|rfl|rfl:i=0∨i=1∨i=2∨i=3∨i=4∨i=5∨i=6∨i=7∨i=8:=by omega
     all_goals(simp at ho;subst ho)
     all_goals try(have hK':=hK w' _ rfl (hx.low _ (by decide) (by decide) (by decide) (by decide) _ (Below.refl _ _)) trivial;clear hK;simp[Region.binds] at hdep;rw[if_pos (by rfl)];go_simp;simpa[upd,hdep] using hK';done)
     ·have d2:t 2=.pointer (some ⟨g,10,none⟩):=by simpa using hdep ⟨2,.data⟩ (by simp) rfl
      have d5:t 5=.pointer (some ⟨h,10,none⟩):=by simpa using hdep ⟨5,.data⟩ (by simp) rfl
      have A:=times_any g 10 h 10 z1 z2 w' ((HS13.out.el 2 _ _ _ rfl).below hx.below) ((HS13.out.el 6 _ _ _ rfl).below hx.below);have hK':∀ ww v,EV (ev z1*ev z2%fp) v→Below w'.heap.size w' ww→K _ ww:=fun ww v hv hb=>hK ww v (by simpa using hv) (hx.low 6 (by decide) (by decide) (by decide) (by decide) _ hb) trivial
      rw[if_pos (by rfl)];go_simp;try simp only[d2,d5]
      refine A.mono ?_;rintro e w9 ⟨es,hk,hv,rfl,hb⟩;have hK2:=hK' w9 _ ⟨es,hk,hv,rfl⟩ hb;go_simp;simpa[upd,d2,d5] using hK2
     ·clear hdep;have hK':=hK _ (.pointer (some ⟨w'.heap.size,0,none⟩)) (by simp[updK]) (hx.alloc1 hLi (by decide) (by decide) (by decide)) trivial;rw[if_pos (by rfl)];go_simp;simpa[upd] using hK'
     ·have l7:L 7=true:=by simpa using hdep ⟨7,.data⟩ (by simp) rfl
      have f6:EV (ev z1*ev z2%fp) (t 6):=by simpa using hdep ⟨6,.data⟩ (by simp) rfl
      obtain⟨g9,zs9,e9,r9,k9⟩:=hx.get1 l7;refine f6.elim_ fun es9 ke ve ee=>?_
      have hK':∀ ww,RowW ww g9 141 es9→Wr g9 w' ww→K _ ww:=fun ww rr hw=>hK ww undef (by simp[updK]) (hx.store1 l7 e9 (by decide) (by decide) (by decide) ke ve hw rr _) trivial
      rw[if_pos (by rfl)];refine wp_storeX (.tmp 12) (.tmp 62) rfl g9 zs9 es9 e9 ee ke k9 r9 fun ww rr hw=>?_
      have hK2:=hK' ww rr hw;simpa[upd,Act.put] using hK2
    case hdone=>
     intro L t14 w14 hx hg;have l8:L 8=true:=by simpa using hg 8 (by decide)
     obtain⟨G14a,zz,q1,qg1,qr1,qk1,qv1⟩:=hx.fin1 l8;have HS14:=hdI <| HS13.out.one hx.below qg1 qr1 qk1
     have HKzz:Hid (EOk zz∧ev zz=ev z1*ev z2%fp):=⟨qk1,qv1⟩
     simp only[q1];go_wp2_with fail;refine(plus_any G14a 0 G14a 0 zz zz _ (HS14.out.re 0 _ _ rfl) (HS14.out.re 0 _ _ rfl)).mono ?_;rintro e w15 ⟨gg,hk,hv,rfl,b⟩;have HKgg:Hid (EOk gg∧ev gg=(ev zz+ev zz)%fp):=⟨hk,hv⟩
     have HS15:=hdI <| HS14.out.call b
     go_wp2_with (first
      |(refine wpList_storeD HS15.out rfl (.tmp 12) (.tmp 63) rfl 0 G14a zz gg rfl rfl rfl HKgg.out.1 rfl ?_)
      |fail)
     intro w16 S;have HS16:=hdI <| S
     go_wp2_with fail;refine(minus_any G10b 0 G10a 0 up dn _ (HS16.out.re 2 _ _ rfl) (HS16.out.re 3 _ _ rfl)).mono ?_;rintro e w17 ⟨ee,hk,hv,rfl,b⟩;have HKee:Hid (EOk ee∧ev ee=(ev up-ev dn)%fp):=⟨hk,hv⟩
     have HS17:=hdI <| HS16.out.call b
     go_wp2_with fail;refine(minus_any G14a 0 G11a 0 gg cd _ (HS17.out.re 0 _ _ rfl) (HS17.out.re 1 _ _ rfl)).mono ?_;rintro e w18 ⟨ff,hk,hv,rfl,b⟩;have HKff:Hid (EOk ff∧ev ff=(ev gg-ev cd)%fp):=⟨hk,hv⟩
     have HS18:=hdI <| HS17.out.call b
     have HA19:=hdI <| HS18.out.room2
     go_wp2_with (first
      |(refine wpList_storeD HA19.out rfl (.tmp 13) (.tmp 64) rfl 1 (w18.heap.size) [0,0,0,0,0] ee rfl rfl rfl HKee.out.1 rfl ?_)
      |fail)
     intro w20 S;have HS20:=hdI <| S
     go_wp2_with (first
      |(refine wpList_storeD HS20.out rfl (.tmp 14) (.tmp 65) rfl 0 (w18.heap.size+1) [0,0,0,0,0] ff rfl rfl rfl HKff.out.1 rfl ?_)
      |fail)
     intro w21 S;have HS21:=hdI <| S
     generalize w18.heap.size+1=G21b at *;generalize w18.heap.size=G21a at *;go_wp2_with fail;refine(plus_any G14a 0 G11a 0 gg cd _ (HS21.out.re 2 _ _ rfl) (HS21.out.re 3 _ _ rfl)).mono ?_;rintro e w22 ⟨hh,hk,hv,rfl,b⟩;have HKhh:Hid (EOk hh∧ev hh=(ev gg+ev cd)%fp):=⟨hk,hv⟩
     have HS22:=hdI <| HS21.out.call b
     go_wp2_with fail;refine(plus_any G10b 0 G10a 0 up dn _ (HS22.out.re 4 _ _ rfl) (HS22.out.re 5 _ _ rfl)).mono ?_;rintro e w23 ⟨kk,hk,hv,rfl,b⟩;have HKkk:Hid (EOk kk∧ev kk=(ev up+ev dn)%fp):=⟨hk,hv⟩
     have HS23:=hdI <| HS22.out.call b
     have HA24:=hdI <| HS23.out.room2
     go_wp2_with (first
      |(refine wpList_storeD HA24.out rfl (.tmp 15) (.tmp 66) rfl 1 (w23.heap.size) [0,0,0,0,0] hh rfl rfl rfl HKhh.out.1 rfl ?_)
      |fail)
     intro w25 S;have HS25:=hdI <| S
     go_wp2_with (first
      |(refine wpList_storeD HS25.out rfl (.tmp 16) (.tmp 67) rfl 0 (w23.heap.size+1) [0,0,0,0,0] kk rfl rfl rfl HKkk.out.1 rfl ?_)
      |fail)
     intro w26 S;have HS26:=hdI <| S
     generalize w23.heap.size+1=G26b at *;generalize w23.heap.size=G26a at *;go_wp2_with fail;refine(times_any G21a 0 G21b 0 ee ff _ (HS26.out.re 3 _ _ rfl) (HS26.out.re 2 _ _ rfl)).mono ?_;rintro e w27 ⟨X,hk,hv,rfl,b⟩;have HKX:Hid (EOk X∧ev X=ev ee*ev ff%fp):=⟨hk,hv⟩
     have HS27:=hdI <| HS26.out.call b
     go_wp2_with fail;refine(times_any G26a 0 G26b 0 hh kk _ (HS27.out.re 1 _ _ rfl) (HS27.out.re 0 _ _ rfl)).mono ?_;rintro e w28 ⟨Y,hk,hv,rfl,b⟩;have HKY:Hid (EOk Y∧ev Y=ev hh*ev kk%fp):=⟨hk,hv⟩
     have HS28:=hdI <| HS27.out.call b
     go_wp2_with fail;refine(times_any G21b 0 G26a 0 ff hh _ (HS28.out.re 2 _ _ rfl) (HS28.out.re 1 _ _ rfl)).mono ?_;rintro e w29 ⟨Z,hk,hv,rfl,b⟩;have HKZ:Hid (EOk Z∧ev Z=ev ff*ev hh%fp):=⟨hk,hv⟩
     have HS29:=hdI <| HS28.out.call b
     go_wp2_with fail;refine(times_any G21a 0 G26b 0 ee kk _ (HS29.out.re 3 _ _ rfl) (HS29.out.re 0 _ _ rfl)).mono ?_;rintro e w30 ⟨T,hk,hv,rfl,b⟩;have HKT:Hid (EOk T∧ev T=ev ee*ev kk%fp):=⟨hk,hv⟩
     have HS30:=hdI <| HS29.out.call b
     obtain⟨X0,X1,X2,X3,X4,rfl⟩:=len5 HKX.out.1.1;obtain⟨Y0,Y1,Y2,Y3,Y4,rfl⟩:=len5 HKY.out.1.1;obtain⟨Z0,Z1,Z2,Z3,Z4,rfl⟩:=len5 HKZ.out.1.1;obtain⟨T0,T1,T2,T3,T4,rfl⟩:=len5 HKT.out.1.1;have HPL:=hdI <| HPT.out.row.below HS30.out.below HPT.out.row.lt
     have HPX:Hid ((pl x1 y1 z1 t1).length=20):=by show _=_;unfold pl;simp[HPT.out.x.1,HPT.out.y.1,HPT.out.z.1,HPT.out.t.1]
     go_wp2_with (first
      |(refine wpList_storeP rfl (.tmp 74) (.tmp 73) rfl g [X0,X1,X2,X3,X4] [Y0,Y1,Y2,Y3,Y4] [Z0,Z1,Z2,Z3,Z4] [T0,T1,T2,T3,T4] _ rfl rfl HKX.out.1 HKY.out.1 HKZ.out.1 HKT.out.1 HPX.out HPL.out ?_)
      |fail)
     intro wz hpt hwz;have HF:Hid (AddP w g (ev x1) (ev y1) (ev z1) (ev t1) (ev x2) (ev y2) (ev z2) (ev t2) (.returned (.tuple #[])) wz):=by
      refine⟨[X0,X1,X2,X3,X4],[Y0,Y1,Y2,Y3,Y4],[Z0,Z1,Z2,Z3,Z4],[T0,T1,T2,T3,T4],hpt,(WrH.of_below HS30.out.below).trans ⟨hwz.os,hwz.tape,hwz.output,by rw[hwz.size];exact Nat.le_refl _,fun k _ hk=>hwz.block k hk⟩,rfl,?_⟩;have eA:ev dn=smA (ev x1) (ev y1) (ev x2) (ev y2):=by rw[HKdn.out.2,HKpd.out.2,HKqd.out.2];rfl
      have eB:ev up=smB (ev x1) (ev y1) (ev x2) (ev y2):=by rw[HKup.out.2,HKpu.out.2,HKqu.out.2];rfl
      have eC:ev cd=smC mdD (ev t1) (ev t2):=by rw[HKcd.out.2,HKcc.out.2,HKdd.out.2,twoD,eq_C]
      have eG:ev gg=smG (ev z1) (ev z2):=by rw[HKgg.out.2,HKzz.out.2,eq_G]
      refine⟨?_,?_,?_,?_⟩
      ·rw[HKX.out.2,HKee.out.2,HKff.out.2,eA,eB,eC,eG]
      ·rw[HKY.out.2,HKhh.out.2,HKkk.out.2,eA,eB,eC,eG]
      ·rw[HKZ.out.2,HKff.out.2,HKhh.out.2,eC,eG]
      ·rw[HKT.out.2,HKee.out.2,HKkk.out.2,eA,eB]
     go_wp2
     go_end0
     exact HF.out
theorem nm_or (x y s q:Int) (k:Nat) (hx:0≤x) (hk:x<2^k) (hx':x<18446744073709551616) (hq:0≤q) (hq':q*2^k<18446744073709551616) (hs:IntKind.u64.wrap (y*s)=q*2^k) :
  bits .or .u64 x (IntKind.u64.wrap (y*s))=x+q*2^k:=by
 rw[hs];have hp:(0:Int)<2^k:=Int.pow_pos (by decide);exact u64_or_add' (q*2^k) x k (Int.mul_nonneg hq (by omega)) hq' hx hk hx' q rfl
theorem nm_0 (a b:Int) (ha:0≤a) (ha':a<2251799813685248) (hb:0≤b) (hb':b<2251799813685248):bits .or .u64 a (IntKind.u64.wrap (b*2251799813685248))=a+b%8192*2251799813685248:=
 nm_or a b 2251799813685248 (b%8192) 51 ha (by show a<2251799813685248;omega) (by omega) (by omega) (by show b%8192*2251799813685248<_;omega) (by rw[IntKind.wrap_u64];show _=b%8192*2251799813685248;omega)
theorem nm_1 (b c:Int) (ha:0≤b) (ha':b<2251799813685248) (hb:0≤c) (hb':c<2251799813685248):bits .or .u64 (b/8192) (IntKind.u64.wrap (c*274877906944))=b/8192+c%67108864*274877906944:=
 nm_or (b/8192) c 274877906944 (c%67108864) 38 (by omega) (by show b/8192<274877906944;omega) (by omega) (by omega) (by show c%67108864*274877906944<_;omega) (by rw[IntKind.wrap_u64];show _=c%67108864*274877906944;omega)
theorem nm_2 (c d:Int) (ha:0≤c) (ha':c<2251799813685248) (hb:0≤d) (hb':d<2251799813685248):bits .or .u64 (c/67108864) (IntKind.u64.wrap (d*33554432))=c/67108864+d%549755813888*33554432:=
 nm_or (c/67108864) d 33554432 (d%549755813888) 25 (by omega) (by show c/67108864<33554432;omega) (by omega) (by omega) (by show d%549755813888*33554432<_;omega) (by rw[IntKind.wrap_u64];show _=d%549755813888*33554432;omega)
theorem nm_3 (d e:Int) (ha:0≤d) (ha':d<2251799813685248) (hb:0≤e) (hb':e<2251799813685248):bits .or .u64 (d/549755813888) (IntKind.u64.wrap (e*4096))=d/549755813888+e*4096:=
 nm_or (d/549755813888) e 4096 e 12 (by omega) (by show d/549755813888<4096;omega) (by omega) (by omega) (by show e*4096<_;omega) (by rw[IntKind.wrap_u64];show _=e*4096;omega)
theorem nm_val (a b c d e:Int) (a0:0≤a) (a1:a<2251799813685248) (b0:0≤b) (b1:b<2251799813685248) (c0:0≤c) (c1:c<2251799813685248) (d0:0≤d) (d1:d<2251799813685248) (e0:0≤e) (e1:e<2251799813685248) :
  Wrd [a+b%8192*2251799813685248,b/8192+c%67108864*274877906944,c/67108864+d%549755813888*33554432,d/549755813888+e*4096]∧
  val 18446744073709551616 [a+b%8192*2251799813685248,b/8192+c%67108864*274877906944,c/67108864+d%549755813888*33554432,d/549755813888+e*4096]=val B51 [a,b,c,d,e]:=by
 constructor
 ·intro z hz;simp only[List.mem_cons,List.not_mem_nil,or_false] at hz;rcases hz with rfl|rfl|rfl|rfl<;>omega
 ·simp only[val];unfold B51;omega
set_option maxHeartbeats 2000000 in
theorem number_any (g o:Nat) (xs:List Int) (w:World) (h:EAt w g o xs) :
  Calls Tryz.prog 141 #[.pointer (some ⟨g,o,none⟩)] w (NumPost w (ev xs)):=by
 have hk:=h.2.1;have hv:=(lsE_all hk).2.2;have hbd:=sst_bd (xs.set 0 (xs.getD 0 0+19*lsT xs));obtain⟨a,b,c,d,e,hl⟩:=len5 (lsE_len xs);have q0:=hbd 0;have q1:=hbd 1;have q2:=hbd 2;have q3:=hbd 3;have q4:=hbd 4;rw[show sst (xs.set 0 (xs.getD 0 0+19*lsT xs)) 5=[a,b,c,d,e] from hl] at q0 q1 q2 q3 q4;simp only[List.getD_cons_zero,List.getD_cons_succ] at q0 q1 q2 q3 q4;obtain⟨a0,a1⟩:=q0;obtain⟨b0,b1⟩:=q1;obtain⟨c0,c1⟩:=q2;obtain⟨d0,d1⟩:=q3;obtain⟨e0,e1⟩:=q4;rw[hl] at hv;have HV:=nm_val a b c d e a0 a1 b0 b1 c0 c1 d0 d1 e0 e1;rw[hv] at HV;have H0:=hdI <| nm_0 a b a0 a1 b0 b1
 have H1:=hdI <| nm_1 b c b0 b1 c0 c1
 have H2:=hdI <| nm_2 c d c0 c1 d0 d1
 have H3:Hid (bits .or .u64 (d/549755813888) (e*4096)=d/549755813888+e*4096):=by
  have h3:=nm_3 d e d0 d1 e0 e1;rw[show IntKind.u64.wrap (e*4096)=e*4096 by rw[IntKind.wrap_u64];omega] at h3;exact h3
 have bw:Below w.heap.size w (w.alloc (.cells #[.int .u64 0,.int .u64 0,.int .u64 0,.int .u64 0] 146)):=below_new2 _ _;have h0:=h.below bw;have HR0:(w.alloc (.cells #[.int .u64 0,.int .u64 0,.int .u64 0,.int .u64 0] 146)).heap[w.heap.size]?=some (.cells #[.int .u64 0,.int .u64 0,.int .u64 0,.int .u64 0] 146 (0,0)):=heap_alloc_new w _;have hs0:w.heap.size<(w.alloc (.cells #[.int .u64 0,.int .u64 0,.int .u64 0,.int .u64 0] 146)).heap.size:=by simp
 have HVV:=hdI <| HV
 clear HV hv hbd hk h;go_enter Tryz.func141,Tryz.ntmps141;go_wp2_with fail;generalize w.alloc (.cells #[.int .u64 0,.int .u64 0,.int .u64 0,.int .u64 0] 146)=w0 at *;refine(leastE_any g o xs _ h0).mono ?_;rintro e' w1 ⟨rfl,hb⟩;rw[hl];have HR1:Hid (w1.heap[w.heap.size]?=some (.cells #[.int .u64 0,.int .u64 0,.int .u64 0,.int .u64 0] 146 (0,0))):=by show _=_;rw[hb.block _ hs0];exact HR0
 have HB1:Hid (Below w.heap.size w w1):=bw.trans (hb.mono bw.size);have hs1:w.heap.size<w1.heap.size:=by have:=hb.size;omega
 clear hb h0 HR0 hs0 bw hl;have HR2:Hid ((w1.alloc (.cells #[.int .u64 a,.int .u64 b,.int .u64 c,.int .u64 d,.int .u64 e] 141)).heap[w.heap.size]?=some (.cells #[.int .u64 0,.int .u64 0,.int .u64 0,.int .u64 0] 146 (0,0))):=by show _=_;rw[Below.heap_alloc _ _ w.heap.size hs1];exact HR1.out
 have HB2:Hid (Below w.heap.size w (w1.alloc (.cells #[.int .u64 a,.int .u64 b,.int .u64 c,.int .u64 d,.int .u64 e] 141))):=HB1.out.trans ((below_new2 _ _).mono HB1.out.size);have HSZ:Hid ((Tryz.prog.info? 146).map (·.size)=some 4):=by show _=_;kernel_rfl
 simp only[List.map_cons,List.map_nil];go_wp2_with (first
  |(refine wpList_store_row rfl 146 (.tmp 2) (.tmp 33) rfl w.heap.size #[.int .u64 (bits .or .u64 a (IntKind.u64.wrap (b*2251799813685248))),.int .u64 (bits .or .u64 (b/8192) (IntKind.u64.wrap (c*274877906944))),.int .u64 (bits .or .u64 (c/67108864) (IntKind.u64.wrap (d*33554432))),.int .u64 (bits .or .u64 (d/549755813888) (e*4096))] rfl rfl 146 _ HR2.out HSZ.out rfl (by simp[Value.oneCell']) ?_)
  |fail)
 refine bodyPost_ret (v:=.agg #[.int .u64 (bits .or .u64 a (IntKind.u64.wrap (b*2251799813685248))),.int .u64 (bits .or .u64 (b/8192) (IntKind.u64.wrap (c*274877906944))),.int .u64 (bits .or .u64 (c/67108864) (IntKind.u64.wrap (d*33554432))),.int .u64 (bits .or .u64 (d/549755813888) (e*4096))]) (results_cell_row rfl _ _ w.heap.size 146 _ (0,0) _ rfl (setRow_heap _ _ _ _ _ _ HR2.out) Tryz.underlying146 rfl HSZ.out) rfl ?_;refine⟨[a+b%8192*2251799813685248,b/8192+c%67108864*274877906944,c/67108864+d%549755813888*33554432,d/549755813888+e*4096],rfl,HVV.out.1,HVV.out.2,?_,HB2.out.trans ((Wr.setRow _ _ _).below (Nat.le_refl _))⟩;rw[H0.out,H1.out,H2.out,H3.out];rfl
theorem wrd4 {a b c d:Int} (a0:0≤a) (a1:a<18446744073709551616) (b0:0≤b) (b1:b<18446744073709551616) (c0:0≤c) (c1:c<18446744073709551616) (d0:0≤d) (d1:d<18446744073709551616):Wrd [a,b,c,d]:=by
 intro z hz;simp only[List.mem_cons,List.not_mem_nil,or_false] at hz;rcases hz with rfl|rfl|rfl|rfl<;>exact⟨by assumption,by assumption⟩
set_option maxRecDepth 100000 in
set_option maxHeartbeats 16000000 in
theorem pcode_any (g:Nat) (x y z t:List Int) (w:World) (hp:Pt w g x y z t) :
  Calls Tryz.prog 111 #[.pointer (some ⟨g,0,none⟩)] w (NumPost w (cdV (ev x) (ev y) (ev z))):=by
 have bw:Below w.heap.size w (w.alloc (.cells #[.int .u64 0,.int .u64 0,.int .u64 0,.int .u64 0] 146)):=below_new2 _ _;have hp0:=hp.below bw hp.row.lt;have HS0:Hid (RunD (w.alloc (.cells #[.int .u64 0,.int .u64 0,.int .u64 0,.int .u64 0] 146)) (w.alloc (.cells #[.int .u64 0,.int .u64 0,.int .u64 0,.int .u64 0] 146)) [] [(g,0,x),(g,5,y),(g,10,z)]):=RunD.start _ _ (fun e he=>by
  simp only[List.mem_cons,List.not_mem_nil,or_false] at he;rcases he with rfl|rfl|rfl
  ·exact hp0.ex
  ·exact hp0.ey
  ·exact hp0.ez)
 have HR0:(w.alloc (.cells #[.int .u64 0,.int .u64 0,.int .u64 0,.int .u64 0] 146)).heap[w.heap.size]?=some (.cells #[.int .u64 0,.int .u64 0,.int .u64 0,.int .u64 0] 146 (0,0)):=heap_alloc_new w _;have hs0:w.heap.size<(w.alloc (.cells #[.int .u64 0,.int .u64 0,.int .u64 0,.int .u64 0] 146)).heap.size:=by simp
 clear hp hp0;go_enter Tryz.func111,Tryz.ntmps111;go_wp2_with fail;generalize w.alloc (.cells #[.int .u64 0,.int .u64 0,.int .u64 0,.int .u64 0] 146)=w0 at *;refine(inverse_any g 10 z _ (HS0.out.el 2 _ _ _ rfl)).mono ?_;rintro e w1 ⟨iv,hk,hv,rfl,b⟩;have HKiv:Hid (EOk iv∧ev iv=inv0 (ev z)):=⟨hk,hv⟩
 have HS1:=hdI <| HS0.out.call b
 clear hk hv b HS0;have HA2:=hdI <| HS1.out.room
 clear HS1;go_wp2_with (first
  |(refine wpList_storeD HA2.out rfl (.tmp 3) (.tmp 10) rfl 0 (w1.heap.size) [0,0,0,0,0] iv rfl rfl rfl HKiv.out.1 rfl ?_)
  |fail)
 intro w3 S;have HS3:=hdI <| S
 clear S HA2;generalize w1.heap.size=G3a at *;go_wp2_with fail;refine wp_region_any (by kernel_rfl) ?_;refine wpAny_slots9 (fun _ _ _=>True) (frame:=(fun (a b c d e f g h i j k l m n o p:Value)=>fun (t:Nat→Value)=>({ tmps:=List.toArray [a,b,c,d,t 8,t 9,e,f,g,h,i,t 0,t 1,t 2,t 3,t 4,t 5,t 6,t 7,j,k,l,m,n,o,p],defers:=[] }:Act)) _ _ _ _ _ _ _ _ _ _ _ _ _ _ _ _)
  (Ext:=ExA w3 8 9 10 11 (ev x*ev iv%fp) (ev y*ev iv%fp)) (Good:=fun i L _ v=>if i=0 then v=.pointer (some ⟨g,0,none⟩) else if i=1 then v=.pointer (some ⟨g,0,none⟩) else if i=2 then v=.pointer (some ⟨g,0,none⟩) else if i=3 then EV (ev x*ev iv%fp) v else if i=4 then v=.pointer (some ⟨g,0,none⟩) else if i=5 then v=.pointer (some ⟨g,0,none⟩) else if i=6 then v=.pointer (some ⟨g,5,none⟩) else if i=7 then EV (ev y*ev iv%fp) v else if i=8 then L 8=true else if i=9 then L 9=true else if i=10 then L 10=true else if i=11 then L 11=true else True) ?hstab (by kernel_rfl) ?hop ?hdone _ _ ((fun (x0 x1 x2 x3 x4 x5 x6 x7 x8 x9:Value)=>fun (i:Nat)=>if i=0 then x0 else if i=1 then x1 else if i=2 then x2 else if i=3 then x3 else if i=4 then x4 else if i=5 then x5 else if i=6 then x6 else if i=7 then x7 else if i=8 then x8 else if i=9 then x9 else undef) _ _ _ _ _ _ _ _ _ _) _ (by simp) ?ext ?start (by simp)
 case start=>intro i hi h;exact absurd h (by rw[Array.getD_eq_getD_getElem?,Array.getElem?_replicate];split<;>simp)
 case ext=>exact ExA.start _ _ _ (by simp) (by simp) (by simp) (by simp) ⟨rfl,rfl,rfl,Nat.le_refl _,fun _ _=>rfl⟩
 case hstab=>
  intro j L w9 w' i v _ _ _ h;by_cases h8:j=8
  ·subst h8;simp at h ⊢;unfold updK;simp[h]
  by_cases h9:j=9
  ·subst h9;simp at h ⊢;unfold updK;simp[h]
  by_cases h10:j=10
  ·subst h10;simp at h ⊢;unfold updK;simp[h]
  by_cases h11:j=11
  ·subst h11;simp at h ⊢;unfold updK;simp[h]
  simp only[if_neg h8,if_neg h9,if_neg h10,if_neg h11] at h ⊢;exact h
 case hop=>
  intro i o L t w' ho hLi hx hdep K hK;have hi:i<12:=(Array.getElem?_eq_some_iff.1 ho).1;obtain rfl|rfl|rfl|rfl|rfl|rfl|rfl|rfl|rfl|rfl|rfl|rfl:i=0∨i=1∨i=2∨i=3∨i=4∨i=5∨i=6∨i=7∨i=8∨i=9∨i=10∨i=11:=by omega
  all_goals(simp at ho;subst ho)
  all_goals try(have hK':=hK w' _ rfl (hx.low _ (by decide) (by decide) (by decide) (by decide) _ (Below.refl _ _)) trivial;clear hK;simp[Region.binds] at hdep;rw[if_pos (by rfl)];go_simp;simpa[upd,hdep] using hK';done)
  ·have d2:t 2=.pointer (some ⟨g,0,none⟩):=by simpa using hdep ⟨2,.data⟩ (by simp) rfl
   clear hdep;have A:=times_any g 0 G3a 0 x iv w' ((HS3.out.el 0 _ _ _ rfl).below hx.below) ((HS3.out.re 0 _ _ rfl).below hx.below);have hK':∀ ww v,EV (ev x*ev iv%fp) v→Below w'.heap.size w' ww→K _ ww:=fun ww v hv hb=>hK ww v (by simpa using hv) (hx.low 3 (by decide) (by decide) (by decide) (by decide) _ hb) trivial
   clear hK;rw[if_pos (by rfl)];go_simp;try simp only[d2]
   refine A.mono ?_;rintro e w9 ⟨es,hk,hv,rfl,hb⟩;have hK2:=hK' w9 _ ⟨es,hk,hv,rfl⟩ hb;clear hK' A hk hv hb;go_simp;simpa[upd,d2] using hK2
  ·have d6:t 6=.pointer (some ⟨g,5,none⟩):=by simpa using hdep ⟨6,.data⟩ (by simp) rfl
   clear hdep;have A:=times_any g 5 G3a 0 y iv w' ((HS3.out.el 1 _ _ _ rfl).below hx.below) ((HS3.out.re 0 _ _ rfl).below hx.below);have hK':∀ ww v,EV (ev y*ev iv%fp) v→Below w'.heap.size w' ww→K _ ww:=fun ww v hv hb=>hK ww v (by simpa using hv) (hx.low 7 (by decide) (by decide) (by decide) (by decide) _ hb) trivial
   clear hK;rw[if_pos (by rfl)];go_simp;try simp only[d6]
   refine A.mono ?_;rintro e w9 ⟨es,hk,hv,rfl,hb⟩;have hK2:=hK' w9 _ ⟨es,hk,hv,rfl⟩ hb;clear hK' A hk hv hb;go_simp;simpa[upd,d6] using hK2
  ·clear hdep;have hK':=hK _ (.pointer (some ⟨w'.heap.size,0,none⟩)) (by simp[updK]) (hx.alloc1 hLi (by decide) (by decide) (by decide)) trivial;clear hK;rw[if_pos (by rfl)];go_simp;simpa[upd] using hK'
  ·clear hdep;have hK':=hK _ (.pointer (some ⟨w'.heap.size,0,none⟩)) (by simp[updK]) (hx.alloc2 hLi (by decide) (by decide) (by decide)) trivial;clear hK;rw[if_pos (by rfl)];go_simp;simpa[upd] using hK'
  ·have l8:L 8=true:=by simpa using hdep ⟨8,.data⟩ (by simp) rfl
   have f3:EV (ev x*ev iv%fp) (t 3):=by simpa using hdep ⟨3,.data⟩ (by simp) rfl
   clear hdep;obtain⟨g9,zs9,e9,r9,k9⟩:=hx.get1 l8;refine f3.elim_ fun es9 ke ve ee=>?_
   have hK':∀ ww,RowW ww g9 141 es9→Wr g9 w' ww→K _ ww:=fun ww rr hw=>hK ww undef (by simp[updK]) (hx.store1 l8 e9 (by decide) (by decide) (by decide) ke ve hw rr _) trivial
   clear hK;rw[if_pos (by rfl)];refine wp_storeX (.tmp 4) (.tmp 14) rfl g9 zs9 es9 e9 ee ke k9 r9 fun ww rr hw=>?_
   have hK2:=hK' ww rr hw;clear hK';simpa[upd,Act.put] using hK2
  ·have l9:L 9=true:=by simpa using hdep ⟨9,.data⟩ (by simp) rfl
   have f7:EV (ev y*ev iv%fp) (t 7):=by simpa using hdep ⟨7,.data⟩ (by simp) rfl
   clear hdep;obtain⟨g9,zs9,e9,r9,k9⟩:=hx.swap.get1 l9;refine f7.elim_ fun es9 ke ve ee=>?_
   have hK':∀ ww,RowW ww g9 141 es9→Wr g9 w' ww→K _ ww:=fun ww rr hw=>hK ww undef (by simp[updK]) (hx.store2 l9 e9 (by decide) (by decide) (by decide) ke ve hw rr _) trivial
   clear hK;rw[if_pos (by rfl)];refine wp_storeX (.tmp 5) (.tmp 18) rfl g9 zs9 es9 e9 ee ke k9 r9 fun ww rr hw=>?_
   have hK2:=hK' ww rr hw;clear hK';simpa[upd,Act.put] using hK2
 case hdone=>
  intro L t4 w4 hx hg;have l10:L 10=true:=by simpa using hg 10 (by decide)
  have l11:L 11=true:=by simpa using hg 11 (by decide)
  clear hg;obtain⟨G4a,xx,q1,qg1,qr1,qk1,qv1⟩:=hx.fin1 l10;obtain⟨G4b,yy,q2,qg2,qr2,qk2,qv2⟩:=hx.swap.fin1 l11;have qne:=hx.ne (hx.v1.1 l10) (hx.v2.1 l11) _ _ q1 q2;have HS4:=hdI <| HS3.out.two hx.below qg1 qr1 qk1 qg2 qr2 qk2 qne
  have HKxx:Hid (EOk xx∧ev xx=ev x*ev iv%fp):=⟨qk1,qv1⟩
  have HKyy:Hid (EOk yy∧ev yy=ev y*ev iv%fp):=⟨qk2,qv2⟩
  simp only[q1,q2];clear hx q1 q2 qg1 qg2 qr1 qr2 qk1 qk2 qv1 qv2 qne HS3;go_wp2_with fail;refine(number_any G4b 0 yy _ (HS4.out.re 0 _ _ rfl)).mono ?_;rintro e wn ⟨ms,hl,hw,hv,rfl,b⟩
  match ms,hl with
  |[n0,n1,n2,n3],_=>
  obtain⟨a0,a1⟩:=hw.get 0;obtain⟨b0,b1⟩:=hw.get 1;obtain⟨c0,c1⟩:=hw.get 2;obtain⟨d0,d1⟩:=hw.get 3;simp only[List.getD_cons_zero,List.getD_cons_succ] at a0 a1 b0 b1 c0 c1 d0 d1;have HSn:Hid (RunD w0 (wn.alloc (.cells #[.int .u64 n0,.int .u64 n1,.int .u64 n2,.int .u64 n3] 146)) [(G4b,yy),(G4a,xx),(G3a,iv)] [(g,0,x),(g,5,y),(g,10,z)]):=(HS4.out.call b).call (below_new2 _ _);have HNR:Hid (RowW (wn.alloc (.cells #[.int .u64 n0,.int .u64 n1,.int .u64 n2,.int .u64 n3] 146)) wn.heap.size 146 [n0,n1,n2,n3]):=heap_alloc_new wn _;have hd3:n3<9223372036854775808:=by
   have e1:=HKyy.out.2;have e2:=ev_bd yy;have e3:val 18446744073709551616 [n0,n1,n2,n3]<57896044618658097711785492504343953926634992332820282019728792003956564819968:=by
    rw[hv];have:fp<57896044618658097711785492504343953926634992332820282019728792003956564819968:=by decide
    omega
   simp only[val] at e3;omega
  have HV:Hid (val 18446744073709551616 [n0,n1,n2,n3]=ev y*inv0 (ev z)%fp∧ev xx=ev x*inv0 (ev z)%fp):=⟨by rw[hv,HKyy.out.2,HKiv.out.2],by rw[HKxx.out.2,HKiv.out.2]⟩
  have HGW:=hdI <| Nat.le_trans HS4.out.below.size b.size
  clear hv b HS4 hw;simp only[List.map_cons,List.map_nil];go_wp2_with fail;generalize wn.alloc (.cells #[.int .u64 n0,.int .u64 n1,.int .u64 n2,.int .u64 n3] 146)=w6 at *;refine(isOdd_any G4a 0 xx _ (HSn.out.re 1 _ _ rfl)).mono ?_;rintro e w7 ⟨rfl,b⟩;have HR7:=hdI <| (HNR.out.below b HNR.out.lt)
  have HB7:=hdI <| HSn.out.below.trans (b.mono HSn.out.below.size)
  have HZ7:Hid (w7.heap[w.heap.size]?=some (.cells #[.int .u64 0,.int .u64 0,.int .u64 0,.int .u64 0] 146 (0,0))):=by show _=_;rw[HB7.out.block _ hs0];exact HR0
  have HSZ:Hid ((Tryz.prog.info? 146).map (·.size)=some 4):=by show _=_;kernel_rfl
  have HB:=hdI <| bw.trans (HB7.out.mono bw.size)
  have hne:wn.heap.size≠w.heap.size:=by have:=HGW.out;omega
  have hG6:w.heap.size≤wn.heap.size:=by have:=HGW.out;omega
  clear b HSn HNR HB7 HR0 bw hs0 HKxx HKyy HKiv HGW;generalize wn.heap.size=G6 at *;have hx2:ev xx%2=0∨ev xx%2=1:=by omega
  rcases hx2 with hx2|hx2
  ·have HF:Hid (val 18446744073709551616 [n0,n1,n2,n3]=cdV (ev x) (ev y) (ev z)):=by
    show _=_
    unfold cdV;rw[HV.out.1,←HV.out.2,hx2];omega
   rw[show(ev xx%2 == 1)=false by rw[hx2];rfl];go_wp2_with (first
    |(refine wpList_load_row rfl 146 (.tmp 6) rfl G6 rfl 146 _ (0,0) _ HR7.out Tryz.underlying146 rfl HSZ.out ?_)
    |(refine wpList_store_row rfl 146 (.tmp 2) (.tmp 25) rfl w.heap.size #[.int .u64 n0,.int .u64 n1,.int .u64 n2,.int .u64 n3] rfl rfl 146 _ HZ7.out HSZ.out rfl (by simp[Value.oneCell']) ?_)
    |fail)
   refine bodyPost_ret (v:=.agg #[.int .u64 n0,.int .u64 n1,.int .u64 n2,.int .u64 n3]) (results_cell_row rfl _ _ w.heap.size 146 _ (0,0) _ rfl (setRow_heap _ _ _ _ _ _ HZ7.out) Tryz.underlying146 rfl HSZ.out) rfl ?_;exact⟨[n0,n1,n2,n3],rfl,wrd4 a0 a1 b0 b1 c0 c1 d0 d1,HF.out,rfl,HB.out.trans ((Wr.setRow _ _ _).below (Nat.le_refl _))⟩
  ·have HF:Hid (val 18446744073709551616 [n0,n1,n2,n3+9223372036854775808]=cdV (ev x) (ev y) (ev z)):=by
    show _=_
    have e1:=HV.out.1;unfold cdV top255;rw[←HV.out.2,hx2,←e1];simp only[val];omega
   have HOR:Hid (bits .or .u64 n3 9223372036854775808=n3+9223372036854775808):=u64_or_add' 9223372036854775808 n3 63 (by decide) (by decide) d0 (by show n3<9223372036854775808;exact hd3) d1 1 (by decide);have HS8:Hid ((w7.setCell ⟨G6,3,none⟩ (.int .u64 (bits .or .u64 n3 9223372036854775808))).heap[G6]?=some (.cells #[.int .u64 n0,.int .u64 n1,.int .u64 n2,.int .u64 (bits .or .u64 n3 9223372036854775808)] 146 (0,0))):=by
    show _=_;rw[heap_setCell_same w7 G6 3 _ _ _ HR7.out];rfl
   have HZ8:Hid ((w7.setCell ⟨G6,3,none⟩ (.int .u64 (bits .or .u64 n3 9223372036854775808))).heap[w.heap.size]?=some (.cells #[.int .u64 0,.int .u64 0,.int .u64 0,.int .u64 0] 146 (0,0))):=by
    show _=_;rw[((Wr.refl G6 w7).setCell 3 _).block _ (Ne.symm hne)];exact HZ7.out
   have HB8:Hid (Below w.heap.size w (w7.setCell ⟨G6,3,none⟩ (.int .u64 (bits .or .u64 n3 9223372036854775808)))):=HB.out.trans (((Wr.refl G6 w7).setCell 3 _).below hG6);have c3:w7.cell? ⟨G6,3,none⟩=some (.int .u64 n3):=by rw[cell_of_row w7 G6 3 _ _ _ HR7.out];rfl
   have f3:w7.frozen? ⟨G6,3,none⟩=false:=frozen_of_row w7 G6 3 _ _ HR7.out;rw[show(ev xx%2 == 1)=true by rw[hx2];rfl];go_wp2_with (first
    |(refine wpList_load_row rfl 146 (.tmp 6) rfl G6 rfl 146 _ (0,0) _ HS8.out Tryz.underlying146 rfl HSZ.out ?_)
    |(refine wpList_store_row rfl 146 (.tmp 2) (.tmp 25) rfl w.heap.size #[.int .u64 n0,.int .u64 n1,.int .u64 n2,.int .u64 (bits .or .u64 n3 9223372036854775808)] rfl rfl 146 _ HZ8.out HSZ.out rfl (by simp[Value.oneCell']) ?_)
    |fail)
   refine bodyPost_ret (v:=.agg #[.int .u64 n0,.int .u64 n1,.int .u64 n2,.int .u64 (bits .or .u64 n3 9223372036854775808)]) (results_cell_row rfl _ _ w.heap.size 146 _ (0,0) _ rfl (setRow_heap _ _ _ _ _ _ HZ8.out) Tryz.underlying146 rfl HSZ.out) rfl ?_;exact⟨[n0,n1,n2,n3+9223372036854775808],rfl,wrd4 a0 a1 b0 b1 c0 c1 (by omega) (by omega),HF.out,by rw[HOR.out];rfl,HB8.out.trans ((Wr.setRow _ _ _).below (Nat.le_refl _))⟩
def sub64E:Array Value→Sem Value:=fun args=>do
 let (x, y, b) ← Extern.MathBitsCarry.three "Sub64" args
 pure (Extern.MathBitsCarry.pair ((x+Extern.MathBitsCarry.m64-y-b)%Extern.MathBitsCarry.m64) (if x<y+b then 1 else 0))
theorem run_sub64E (x y b:Nat) (hb:b≤1) (w:World) :
  (sub64E #[.int .u64 x,.int .u64 y,.int .u64 b]).run Tryz.prog w=
   .ok (.tuple #[.int .u64 (((x+18446744073709551616-y-b)%18446744073709551616:Nat):Int),.int .u64 ((if x<y+b then 1 else 0:Nat):Int)]) w:=by
 have:b=0∨b=1:=by omega
 rcases this with rfl|rfl<;>rfl
theorem sub64 (x y b:Int) (hx:0≤x) (hy:0≤y) (hy':y<18446744073709551616) (hb0:0≤b) (hb:b≤1) (w:World):(callFunc 155 #[.int .u64 x,.int .u64 y,.int .u64 b]).run Tryz.prog w=
  .ok (.value (.tuple #[.int .u64 ((x-y-b)%18446744073709551616),.int .u64 (bor x y b)])) w:=by
 obtain⟨x,rfl⟩:=Int.eq_ofNat_of_zero_le hx;obtain⟨y,rfl⟩:=Int.eq_ofNat_of_zero_le hy;obtain⟨b,rfl⟩:=Int.eq_ofNat_of_zero_le hb0;have e1:(((x+18446744073709551616-y-b)%18446744073709551616:Nat):Int)=((x:Int)-y-b)%18446744073709551616:=by omega
 have e2:((if x<y+b then 1 else 0:Nat):Int)=bor x y b:=by unfold bor;split<;>split<;>omega
 rw[run_callFunc_extern Tryz.func155 (by kernel_rfl) (by kernel_rfl) (by kernel_rfl) (e:=sub64E) (by kernel_rfl),run_sub64E x y b (by omega),e1,e2];rfl
set_option maxHeartbeats 400000 in
theorem push_any (g:Nat) (ns:List Int) (bit:Int) (w:World) (hl:ns.length=4) (hr:RowW w g 146 ns) (hw:Wrd ns) (hb:bit=0∨bit=1) :
  Calls Tryz.prog 129 #[.pointer (some ⟨g,0,none⟩),.int .u64 bit] w fun e w'=>e=.returned (.tuple #[])∧∃ ms,ms.length=4∧RowW w' g 146 ms∧Wrd ms∧(∃ c,0≤c∧val 18446744073709551616 ms+c*18446744073709551616^4=2*val 18446744073709551616 ns+bit)∧Wr g w w':=by
 go_enter Tryz.func129,Tryz.ntmps129;go_wp2
 go_loopw [1,7] (fun c i wr=>∃(k:Nat) (ms:List Int) (b:Int),k≤4∧i=.int .i64 k∧c=.int .u64 b∧(b=0∨b=1)∧ms.length=4∧RowW wr g 146 ms∧Wrd ms∧ms.drop k=ns.drop k∧val 18446744073709551616 (ms.take k)+b*18446744073709551616^k=2*val 18446744073709551616 (ns.take k)+bit∧Wr g w wr) (fun _ i _=>4-(intOf i).toNat)
 case atStart=>exact⟨0,ns,bit,Nat.zero_le _,rfl,rfl,hb,hl,hr,hw,rfl,by simp[val],Wr.refl _ _⟩
 case round=>
  obtain⟨k,ms,b,hk,rfl,rfl,hb',hml,hmr,hmw,hmd,hv,hwr⟩:=hrel;by_cases hlt:k<4
  ·have ck:=hmr.cell k (by omega);have fk:=hmr.frozen k;have hx:=hmw.get k;have hgd:=getD_of_drop hmd;have hx2:∀ c,0≤c→c<2→0≤2*ms.getD k 0%18446744073709551616+c∧2*ms.getD k 0%18446744073709551616+c<18446744073709551616:=fun c h0 h1=>by omega
   have S1:RowW (wr.setCell ⟨g,k,none⟩ (.int .u64 (2*ms.getD k 0%18446744073709551616+b))) g 146 (ms.set k (2*ms.getD k 0%18446744073709551616+b)):=hmr.set k _;have S2:=hmw.set k _ (hx2 b (by omega) (by omega)).1 (hx2 b (by omega) (by omega)).2;have S3:=(drop_set_succ ms k (2*ms.getD k 0%18446744073709551616+b)).trans (drop_succ_of hmd);have S4:val 18446744073709551616 ((ms.set k (2*ms.getD k 0%18446744073709551616+b)).take (k+1))+ms.getD k 0/9223372036854775808*18446744073709551616^(k+1)=2*val 18446744073709551616 (ns.take (k+1))+bit:=by
    rw[val_set_succ _ _ _ _ (by omega),val_take _ ns k (by omega),←hgd,Int.pow_succ];have e:(2*ms.getD k 0%18446744073709551616)+ms.getD k 0/9223372036854775808*18446744073709551616=2*ms.getD k 0:=by omega
    generalize ms.getD k 0=x at *;generalize (18446744073709551616:Int)^k=P at *;have e':((2*x%18446744073709551616)+x/9223372036854775808*18446744073709551616)*P=2*x*P:=by rw[e]
    grind
   have HW:Hid (Wr g w (wr.setCell ⟨g,k,none⟩ (.int .u64 (2*ms.getD k 0%18446744073709551616+b)))):=hwr.setCell k _;have HL:Hid ((ms.set k (2*ms.getD k 0%18446744073709551616+b)).length=4):=by rw[List.length_set];exact hml
   have HC:Hid (bits .or .u64 (IntKind.u64.wrap (ms.getD k 0*2)) b=2*ms.getD k 0%18446744073709551616+b):=by
    show bits .or .u64 (IntKind.u64.wrap (ms.getD k 0*2)) b=_
    rw[IntKind.wrap_u64,Int.mul_comm];exact u64_or_add _ _ 1 (by omega) (by omega) (by omega) (by omega) (by omega) (2*ms.getD k 0%18446744073709551616/2) (by omega)
   have hbb:ms.getD k 0/9223372036854775808=0∨ms.getD k 0/9223372036854775808=1:=by omega
   have HBB:Hid _:=hbb;have H1:Hid _:=S1;have H2:Hid _:=S2;have H3:Hid _:=S3;have H4:Hid _:=S4;clear hgd hx2 S1 S2 S3 S4 hmr hmw hmd hv hwr hbb hr hw;generalize ms.getD k 0=x at *;obtain⟨hx0,hx1⟩:=hx;have hlt':(k:Int)<4:=by omega
   go_wp2
   go_quiet (fail)
   go_wp2;rw[HC.out];refine⟨⟨k+1,ms.set k (2*x%18446744073709551616+b),x/9223372036854775808,by omega,by go_num,rfl,HBB.out,HL.out,H1.out,H2.out,H3.out,H4.out,?_⟩,by simp[intOf];omega⟩;exact⟨HW.out.os,HW.out.tape,HW.out.output,HW.out.size,HW.out.block⟩
  ·have hk4:k=4:=by omega
   subst hk4;rw[List.take_of_length_le (by omega),List.take_of_length_le (by omega)] at hv;have H:Hid (∃ ms,ms.length=4∧RowW wr g 146 ms∧Wrd ms∧(∃ c,0≤c∧val 18446744073709551616 ms+c*18446744073709551616^4=2*val 18446744073709551616 ns+bit)∧Wr g w wr):=
    ⟨ms,hml,hmr,hmw,⟨b,by omega,hv⟩,hwr⟩
   clear hml hmr hmw hv hwr hmd hr hw hb hb';go_wp2
   go_end0
   exact⟨rfl,H.out⟩
theorem Tryz.sizeNumR:(Tryz.prog.info? 146).map (·.size)=some 4:=by kernel_rfl
theorem sizeNumR {ns:List Int} (h:ns.length=4):(Tryz.prog.info? 146).map (·.size)=some ((ns.map (Value.int .u64)).toArray).size:=by rw[Tryz.sizeNumR];simp[h]
def lW:List Int:=[6346243789798364141,1503914060200516822,0,1152921504606846976]
theorem lW_val:val 18446744073709551616 lW=bigL:=by decide
theorem lW_wrd:Wrd lW:=by unfold Wrd lW;decide
set_option maxHeartbeats 400000 in
theorem gord_any (w:World) :
  Calls Tryz.prog 154 #[] w fun e w'=>e=.returned (.agg (lW.map (Value.int .u64)).toArray)∧Below w.heap.size w w':=by
 have HR:Hid (RowW (w.alloc (.cells #[.int .u64 0,.int .u64 0,.int .u64 0,.int .u64 0] 146)) w.heap.size 146 [0,0,0,0]):=heap_alloc_new w _;have HSZ:Hid ((Tryz.prog.info? 146).map (·.size)=some ((lW.map (Value.int .u64)).toArray).size):=sizeNumR rfl;go_enter Tryz.func154,Tryz.ntmps154;go_wp2_with (refine wpList_store_row rfl 146 (.tmp 0) (.tmp 1) rfl w.heap.size ((lW.map (Value.int .u64)).toArray) rfl rfl 146 _ HR.out HSZ.out rfl (all_oneCell_toArray (ints_oneCell _ _)) ?_);refine bodyPost_ret (v:=.agg (lW.map (Value.int .u64)).toArray) (results_cell_row rfl _ _ w.heap.size 146 _ (0,0) _ rfl (setRow_heap _ _ _ _ _ _ HR.out) Tryz.underlying146 rfl HSZ.out) rfl ⟨rfl,?_⟩;exact(below_new2 _ _).trans ((Wr.setRow _ _ _).below (Nat.le_refl _))
theorem index_num (cs:Array Value) (k:Nat) (v:Value) (w:World) (hk:(k:Int)<4) (h:cs[k]?=some v) :
  (Instr.index 146 (.agg cs) (.int .i64 k)).run Tryz.prog w=.ok v w:=by
 simp[Instr.index,asIntOf,run_underlying Tryz.underlying146,part,h,go_sem];omega
def oncePost (w:World) (g:Nat) (ns:List Int) (e:Ending) (w':World):Prop:=
 e=.returned (.tuple #[])∧∃ ms,ms.length=4∧RowW w' g 146 ms∧Wrd ms∧val 18446744073709551616 ms=(if bigL≤val 18446744073709551616 ns then val 18446744073709551616 ns-bigL else val 18446744073709551616 ns)∧WrH g w w'
structure OS (w:World) (g:Nat) (ns:List Int) (k:Nat) (b:Int) (wr:World):Prop where
 bd:0≤b∧b≤1
 row:RowW wr g 146 ns
 less:∃ ms,ms.length=4∧RowW wr w.heap.size 146 ms∧Wrd ms∧val 18446744073709551616 (ns.take k)-val 18446744073709551616 (lW.take k)=val 18446744073709551616 (ms.take k)-b*18446744073709551616^k
 below:Below w.heap.size w wr
set_option maxHeartbeats 1000000 in
theorem onceR_any (g:Nat) (ns:List Int) (w:World) (hl:ns.length=4) (hr:RowW w g 146 ns) (hw:Wrd ns) :
  Calls Tryz.prog 130 #[.pointer (some ⟨g,0,none⟩)] w (oncePost w g ns):=by
 have hg:=hr.lt;have HN:=hdI <| hr
 have HR:Hid (RowW (w.alloc (.cells #[.int .u64 0,.int .u64 0,.int .u64 0,.int .u64 0] 146)) w.heap.size 146 [0,0,0,0]):=heap_alloc_new w _;have HSZ:=hdI <| sizeNumR hl
 have HZ4:Hid ((#[Value.int .u64 0,.int .u64 0,.int .u64 0,.int .u64 0]:Array Value).size=((ns.map (Value.int .u64)).toArray).size):=by show _=_;simp[hl]
 have HB:Hid (Below w.heap.size w (w.alloc (.cells #[.int .u64 0,.int .u64 0,.int .u64 0,.int .u64 0] 146))):=below_new2 _ _;go_enter Tryz.func130,Tryz.ntmps130;go_wp2_with (first
  |(refine wpList_load_row rfl 146 (.tmp 7) rfl g rfl 146 _ (0,0) _ HN.out Tryz.underlying146 rfl HSZ.out ?_)
  |(refine wpList_store_row rfl 146 (.tmp 2) (.tmp 8) rfl w.heap.size ((ns.map (Value.int .u64)).toArray) rfl rfl 146 _ HR.out HSZ.out HZ4.out (all_oneCell_toArray (ints_oneCell _ _)) ?_)
  |fail)
 have R1:=HR.out.setRow ns;have R2:RowW ((w.alloc (.cells #[.int .u64 0,.int .u64 0,.int .u64 0,.int .u64 0] 146)).setRow w.heap.size (ns.map (Value.int .u64)).toArray) g 146 ns:=(HN.out.below HB.out hg).setRow_other _ (by omega);have B1:Below w.heap.size w ((w.alloc (.cells #[.int .u64 0,.int .u64 0,.int .u64 0,.int .u64 0] 146)).setRow w.heap.size (ns.map (Value.int .u64)).toArray):=HB.out.trans ((Wr.setRow _ _ _).below (Nat.le_refl _));generalize (w.alloc (.cells #[.int .u64 0,.int .u64 0,.int .u64 0,.int .u64 0] 146)).setRow w.heap.size (ns.map (Value.int .u64)).toArray=w1 at *;refine(gord_any _).mono ?_;rintro e w2 ⟨rfl,B2⟩;have s1:=R1.lt;have R1':=R1.below B2 s1;have R2':=R2.below B2 R2.lt;have B12:=B1.trans (B2.mono (by omega));have HS:Hid (OS w g ns 0 0 w2):=⟨⟨by decide,by decide⟩,R2',⟨ns,hl,R1',hw,by simp[val]⟩,B12⟩
 go_wp2
 go_loopw [3,10] (fun c i wr=>∃(k:Nat) (b:Int),k≤4∧i=.int .i64 k∧c=.int .u64 b∧OS w g ns k b wr) (fun _ i _=>4-(intOf i).toNat)
 case atStart=>exact⟨0,0,Nat.zero_le _,rfl,rfl,HS.out⟩
 case round=>
  obtain⟨k,b,hk,rfl,rfl,⟨hb0,hb1⟩,hrow,⟨ms,hml,hmr,hmw,hv⟩,hbel⟩:=hrel;by_cases hlt:k<4
  ·have cn:=hrow.cell k (by omega);have cm:=hmr.cell k (by omega);have fm:=hmr.frozen k;have hx:=hw.get k;have hy:=lW_wrd.get k;have hne:g≠w.heap.size:=by omega
   have hbe:=bor_eq _ _ _ hx.1 hx.2 hy.1 hy.2 hb0 hb1;have hbb:=bor_bd (ns.getD k 0) (lW.getD k 0) b;have hd0:0≤(ns.getD k 0-lW.getD k 0-b)%18446744073709551616:=by omega
   have hd1:(ns.getD k 0-lW.getD k 0-b)%18446744073709551616<18446744073709551616:=by omega
   have S1:=hmr.set k ((ns.getD k 0-lW.getD k 0-b)%18446744073709551616);have S2:=hmw.set k _ hd0 hd1;have S3:=sub_step _ _ _ _ _ _ _ _ _ _ hv hbe;rw[←val_take _ ns k (by omega),←val_take _ lW k (by simpa[lW] using hlt),←val_set_succ _ ms k _ (by omega),←Int.pow_succ] at S3;have R:RowW (wr.setCell ⟨w.heap.size,k,none⟩ (.int .u64 ((ns.getD k 0-lW.getD k 0-b)%18446744073709551616))) g 146 ns:=((Wr.refl _ _).setCell k _).rowW hrow hne;have HO:Hid (OS w g ns (k+1) (bor (ns.getD k 0) (lW.getD k 0) b) (wr.setCell ⟨w.heap.size,k,none⟩ (.int .u64 ((ns.getD k 0-lW.getD k 0-b)%18446744073709551616)))):=
    ⟨hbb,R,⟨_,by rw[List.length_set];exact hml,S1,S2,S3⟩,hbel.setCell (Nat.le_refl _) _⟩
   obtain⟨hx0,hx1⟩:=hx;obtain⟨hy0,hy1⟩:=hy;generalize ns.getD k 0=x at *;have hlt':(k:Int)<4:=by omega
   have hix:(lW.map (Value.int .u64)).toArray[k]?=some (.int .u64 (lW.getD k 0)):=by
    have:k<lW.length:=by simpa[lW] using hlt
    simp[this]
   have hsz:(lW.map (Value.int .u64)).toArray.size=4:=rfl;generalize (lW.map (Value.int .u64)).toArray=la at *;generalize lW.getD k 0=y at *;go_wp2_with (first|simp only[index_num la k _ _ hlt' hix]|simp only[sub64 x y b hx0 hy0 hy1 hb0 hb1]);exact⟨⟨k+1,bor x y b,by omega,by go_num,rfl,HO.out⟩,by simp[intOf];omega⟩
  ·have hk4:k=4:=by omega
   subst hk4;rw[List.take_of_length_le (by omega),List.take_of_length_le (by simp[lW]),List.take_of_length_le (by omega),lW_val] at hv;have m0:0≤val 18446744073709551616 ms:=val_nonneg (by decide) hmw;have m1:val 18446744073709551616 ms<18446744073709551616^4:=by rw[←hml];exact val_lt (by decide) hmw
   have hne:g≠w.heap.size:=by omega
   have HSZ:Hid ((Tryz.prog.info? 146).map (·.size)=some ((ms.map (Value.int .u64)).toArray).size):=sizeNumR hml;have HSN:Hid ((ns.map (Value.int .u64)).toArray.size=(ms.map (Value.int .u64)).toArray.size):=by show _=_;simp[hl,hml]
   have HN:Hid (RowW wr g 146 ns):=hrow;have HM:Hid (RowW wr w.heap.size 146 ms):=hmr;rcases (show b=0∨b=1 by omega) with rfl|rfl
   ·have HP:Hid (oncePost w g ns (.returned (.tuple #[])) (wr.setRow g (ms.map (Value.int .u64)).toArray)):=by
     refine⟨rfl,ms,hml,hrow.setRow ms,hmw,?_,?_⟩
     ·rw[if_pos (by omega)];omega
     ·exact(WrH.of_below hbel).trans (Wr.setRow _ _ _).wrH
    go_wp2_with (first
     |(refine wpList_load_row rfl 146 (.tmp 2) rfl w.heap.size rfl 146 _ (0,0) _ HM.out Tryz.underlying146 rfl HSZ.out ?_)
     |(refine wpList_store_row rfl 146 (.tmp 32) (.tmp 31) rfl g ((ms.map (Value.int .u64)).toArray) rfl rfl 146 _ HN.out HSZ.out HSN.out (all_oneCell_toArray (ints_oneCell _ _)) ?_)
     |fail)
    go_end0
    exact HP.out
   ·have HP:Hid (oncePost w g ns (.returned (.tuple #[])) wr):=by
     refine⟨rfl,ns,hl,hrow,hw,?_,WrH.of_below hbel⟩;rw[if_neg (by omega)]
    go_wp2
    go_end0
    exact HP.out
def NumPostR (w:World) (v:Int) (e:Ending) (w':World):Prop:=
 ∃ ms:List Int,ms.length=4∧Wrd ms∧val 18446744073709551616 ms=v∧e=.returned (.agg (ms.map (Value.int .u64)).toArray)∧Below w.heap.size w w'
theorem u8_shr_and {x b:Int} {r:Nat} (h0:0≤x) (h1:x<256) (h:b=x/2^r%2):bits .and .u64 (IntKind.u64.wrap (x/2^r)) 1=b:=by
 have hp:(0:Int)<2^r:=Int.pow_pos (by decide);have a0:0≤x/2^r:=Int.ediv_nonneg h0 (by omega);have a1:x/2^r≤x:=Int.ediv_le_self _ h0;generalize x/2^r=y at *;rw[IntKind.wrap_u64,Int.emod_eq_of_lt a0 (by omega),u64_and_mask y 1 a0 (by omega) 1 (by decide) (by decide),h];rfl
structure RN (w:World) (V:Int) (j:Nat) (wr:World):Prop where
 res:RowW wr w.heap.size 146 [0,0,0,0]
 row:∃ ns,ns.length=4∧RowW wr (w.heap.size+1) 146 ns∧Wrd ns∧val 18446744073709551616 ns=restAt V j
 below:Below w.heap.size w wr
set_option maxHeartbeats 1000000 in
theorem rnum_any (a:Option Addr) (n cap:Nat) (zs:List Int) (w:World) (hn:zs.length=n) (hm:n≤1048576) (ha:At .u8 w a zs) (hz:Byte zs) :
  Calls Tryz.prog 107 #[.slice a n cap] w (NumPostR w (val 256 zs%bigL)):=by
 have hV0:=val_nonneg (by decide) hz;have hV1:val 256 zs<2^(8*n):=by rw[←pow256r,←hn];exact val_lt (by decide) hz
 have HT:=hdI <| restAt_top _ _ hV0 hV1
 have HS:Hid (RN w (val 256 zs) (8*n) ((w.alloc (.cells #[.int .u64 0,.int .u64 0,.int .u64 0,.int .u64 0] 146)).alloc (.cells #[.int .u64 0,.int .u64 0,.int .u64 0,.int .u64 0] 146))):=
  ⟨heap_alloc2_old _ _ _,⟨[0,0,0,0],rfl,heap_alloc2_new _ _ _,by unfold Wrd;decide,by rw[HT.out];decide⟩,((Below.refl _ _).alloc (Nat.le_refl _) _).alloc (by simp) _⟩
 go_enter Tryz.func107,Tryz.ntmps107;go_wp2
 go_loopw [4] (fun i wr=>∃(j:Nat),j≤8*n∧i=.int .i64 ((j:Int)-1)∧RN w (val 256 zs) j wr) (fun i _=>(intOf i+1).toNat)
 case atStart=>exact⟨8*n,Nat.le_refl _,by go_num,HS.out⟩
 case round=>
  obtain⟨j,hj,rfl,hres,⟨ns,hl,hrow,hw,hv⟩,hbel⟩:=hrel;by_cases hj0:0<j
  ·obtain⟨j,rfl⟩:∃ i,j=i+1:=⟨j-1,by omega⟩
   have ei:((j+1:Nat):Int)-1=(j:Int):=by omega
   rw[ei];obtain⟨b0,off,rfl,hb0,hc⟩:=(ha.below hbel).get (by omega);have c0:=hc (j/8) (by omega);have hb:=bitAt_byte zs j hz;have hx:=hz.get (j/8);generalize zs.getD (j/8) 0=x at *;obtain⟨hx0,hx1⟩:=hx;have hand:=u8_shr_and hx0 hx1 hb;have hbd:=bitAt_bd (val 256 zs) j;have hst:=restAt_step (val 256 zs) j;have hbL:=restAt_bd (val 256 zs) (j+1);rw[←hv] at hst hbL;generalize bitAt (val 256 zs) j=bj at *;have HAND:=hdI <| hand
   have HST:=hdI <| hst
   have HV:=hdI <| hbL
   have HBD:=hdI <| hbd
   clear hb hand hst hbL hv hbd;have HRS:=hdI <| hres
   have HRO:=hdI <| hrow
   have HBE:=hdI <| hbel
   clear hres hrow hbel;go_wp2_with fail;rw[HAND.out];refine(push_any _ ns bj _ hl HRO.out hw HBD.out).mono ?_;rintro e w1 ⟨rfl,ms,hml,hmr,hmw,⟨c,hc0,hcv⟩,hwr1⟩;have hc00:c=0:=by
    rcases Int.lt_or_le 0 c with h|h
    ·exfalso
     have:=HV.out;have:=HBD.out;unfold bigL at *;have m0:=val_nonneg (by decide) hmw;have h2:(18446744073709551616:Int)^4=115792089237316195423570985008687907853269984665640564039457584007913129639936:=by decide
     rw[h2] at hcv;omega
    ·omega
   subst hc00;have hmv:val 18446744073709551616 ms=2*val 18446744073709551616 ns+bj:=by omega
   have HMR:=hdI <| hmr
   have HMV:=hdI <| hmv
   have HRS1:=hdI <| hwr1.rowW HRS.out (by omega)
   have HBE1:=hdI <| HBE.out.trans (hwr1.below (by omega))
   go_wp2_with fail;refine(onceR_any _ ms _ hml HMR.out hmw).mono ?_;rintro e w2 ⟨rfl,ls,hll,hlr,hlw,hlv,hwr2⟩;rw[HMV.out,←HST.out] at hlv;have HP:Hid (RN w (val 256 zs) j w2):=⟨hwr2.rowW HRS1.out (by omega),⟨ls,hll,hlr,hlw,hlv⟩,HBE1.out.trans (hwr2.below _ (by omega) HBE1.out.size)⟩
   go_wp2;go_roundw
   case rel=>exact⟨j,by omega,rfl,HP.out⟩
   case measure=>first|(simp[intOf];done)|(simp[intOf];omega)
  ·obtain rfl:j=0:=by omega
   rw[restAt_zero] at hv;have HSZ:=hdI <| sizeNumR hl
   have HZ4:Hid (([0,0,0,0].map (Value.int .u64)).toArray.size=((ns.map (Value.int .u64)).toArray).size):=by show _=_;simp[hl]
   have HRS:=hdI <| hres
   have HRO:=hdI <| hrow
   have HBE:=hdI <| hbel
   have HV:=hdI <| hv
   go_wp2_with (first
    |(refine wpList_load_row rfl 146 (.tmp 3) rfl (w.heap.size+1) rfl 146 _ (0,0) _ HRO.out Tryz.underlying146 rfl HSZ.out ?_)
    |(refine wpList_store_row rfl 146 (.tmp 2) (.tmp 25) rfl w.heap.size ((ns.map (Value.int .u64)).toArray) rfl rfl 146 _ HRS.out HSZ.out HZ4.out (all_oneCell_toArray (ints_oneCell _ _)) ?_))
   refine bodyPost_ret (v:=.agg (ns.map (Value.int .u64)).toArray) (results_cell_row rfl _ _ w.heap.size 146 _ (0,0) _ rfl (setRow_heap _ _ _ _ _ _ HRS.out) Tryz.underlying146 rfl HSZ.out) rfl ⟨ns,hl,hw,HV.out,rfl,?_⟩;exact HBE.out.trans ((Wr.setRow _ _ _).below (Nat.le_refl _))
end Go.Proofs.YtncomnkdlpoelaaGreatDoor
