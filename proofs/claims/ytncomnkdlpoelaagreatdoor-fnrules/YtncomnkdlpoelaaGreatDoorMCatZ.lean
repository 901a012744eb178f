import Derived.Test.YtncomnkdlpoelaaGreatDoorMBase
import Derived.BigRegion
import Derived.BigQuiet
import Derived.Deep.QuietTactic
import Derived.Deep.MidRow
import Derived.Deep.Cut
import Derived.Laws.CopyOwn
import Derived.Deep.WholeRow
import Derived.Test.YtncomnkdlpoelaaGreatDoorMSMul
import Derived.OwnWalk
import Derived.Maps.AppendAt
namespace Go.Proofs.YtncomnkdlpoelaaGreatDoor
open Go.ChangeShapes Go.WideShapes Go.ChangeAt Go.RowKit
set_option linter.unusedVariables false
set_option maxHeartbeats 400000 in
theorem zeros_any (n:Int) (w:World) (h0:0≤n) (h1:n≤1048576) :
  Calls Tryz.prog 65 #[.int .i64 n] w fun e w'=>∃ v,e=.returned v∧Own w' w.heap.size v (List.replicate n.toNat 0)∧Below w.heap.size w w':=by
 obtain⟨n,rfl⟩:=Int.eq_ofNat_of_zero_le h0;go_enter Tryz.func65,Tryz.ntmps65;go_wp2
 go_loopw [3,4] (fun v i wr=>∃ k:Nat,k≤n∧i=.int .i64 k∧Own wr w.heap.size v (List.replicate k 0)∧Below w.heap.size w wr) (fun _ i _=>n-(intOf i).toNat)
 case atStart=>exact⟨0,Nat.zero_le _,rfl,Own.empty _ _ (Nat.le_refl _),(Below.refl _ _).alloc (Nat.le_refl _) _⟩
 case round=>
  obtain⟨k,hk,rfl,hown,hbel⟩:=hrel;by_cases hlt:k<n
  ·have hsz:=hbel.size;go_wp2_with (at_builtin;refine wpList_app _ rfl _ _ rfl w.heap.size _ _ rfl (hown.alloc _) ⟨wr.heap.size,0,none⟩ 1 1 [0] rfl rfl ?c1 ?c2 ?c3 ?_)
   case c1=>intro j hj;obtain rfl:j=0:=by omega
            simp[Addr.add]
   case c2=>simp;omega
   case c3=>simp;omega
   intro v' w1 hown' hbel' _;have HO:Hid (Own w1 w.heap.size v' (List.replicate (k+1) 0)):=by rw[List.replicate_succ'];exact hown'
   have HB:Hid (Below w.heap.size w w1):=(hbel.alloc (by omega) _).trans hbel';clear hown hown' hbel hbel';go_wp2;go_roundw
   case rel=>exact⟨k+1,by omega,by go_num,HO.out,HB.out⟩
   case measure=>simp[intOf];omega
  ·have hkn:k=n:=by omega
   subst hkn;have HO:Hid _:=hown;clear hown;go_wp2
   go_ret
   exact⟨_,rfl,HO.out,hbel⟩
def chf (e f q:Int):Int:=bits .xor .u64 (bits .and .u64 e f) (bits .and .u64 (bits .xor .u64 IntKind.u64.max e) q)
def maj (a b c:Int):Int:=bits .xor .u64 (bits .xor .u64 (bits .and .u64 a b) (bits .and .u64 a c)) (bits .and .u64 b c)
def rt1 (a b c d e f q z x:Int):Int:=IntKind.u64.wrap (IntKind.u64.wrap (IntKind.u64.wrap (z+bg1 e)+chf e f q)+x)
def rt2 (a b c:Int):Int:=IntKind.u64.wrap (bg0 a+maj a b c)
theorem Tryz.sizeU64:(Tryz.prog.info? 135).map (·.size)=some 1:=by kernel_rfl
theorem wp_copy7 {w:World} {o:Oper} {ac:Act} {K:Act→World→Prop} {Q:Exit→Act→World→Prop} (dd ss:Operand)
  (ho:o.op=.call { callee:=.builtin .copy,args:=#[dd,ss],argTypes:=#[134,134] }) (g:Nat) (ty:TypeId) (a b c d e f q z:Int)
  (hd:ac.eval dd=.slice (some ⟨g,1,none⟩) 7 7) (hs:ac.eval ss=.slice (some ⟨g,0,none⟩) 7 8) (hg:w.heap[g]?=some (.cells #[.int .u64 a,.int .u64 b,.int .u64 c,.int .u64 d,.int .u64 e,.int .u64 f,.int .u64 q,.int .u64 z] ty (0,0)))
  (h:∀ w',w'.heap[g]?=some (.cells #[.int .u64 a,.int .u64 a,.int .u64 b,.int .u64 c,.int .u64 d,.int .u64 e,.int .u64 f,.int .u64 q] ty (0,0))→Wr g w w'→K (ac.put o.dst (goInt 7)) w'):o.wp Tryz.prog ac w K Q:=by
 have hrun:=run_copy_row (P:=Tryz.prog) w 134 134 o.type 135 g 1 7 7 ⟨g,0,none⟩ 7 8 #[.int .u64 a,.int .u64 b,.int .u64 c,.int .u64 d,.int .u64 e,.int .u64 f,.int .u64 q,.int .u64 z] ty [.int .u64 a,.int .u64 b,.int .u64 c,.int .u64 d,.int .u64 e,.int .u64 f,.int .u64 q] Tryz.underlying134 Tryz.sizeU64 hg rfl (fun j v hv=>by
  have hj:j<7:=by have:=(List.getElem?_eq_some_iff.1 hv).1;simpa using this
  rw[Addr.add_lit,cell_of_row _ _ _ _ _ _ hg,Nat.zero_add];have:j=0∨j=1∨j=2∨j=3∨j=4∨j=5∨j=6:=by omega
  rcases this with rfl|rfl|rfl|rfl|rfl|rfl|rfl<;>simpa using hv) (by simp) (by simp[Value.oneCell'])
 unfold Oper.wp;simp[execOp,ho,resolve,invoke,builtin,hd,hs,hrun,Result.andThen];exact h _ (by rw[setRow_heap _ _ _ _ _ _ hg]) (Wr.setRow _ _ _)
set_option maxRecDepth 100000 in
set_option maxHeartbeats 4000000 in
theorem round_any (g:Nat) (ty:TypeId) (a b c d e f q z x:Int) (w:World) (hr:w.heap[g]?=some (.cells #[.int .u64 a,.int .u64 b,.int .u64 c,.int .u64 d,.int .u64 e,.int .u64 f,.int .u64 q,.int .u64 z] ty (0,0)))
  (ha:U64 a) (hb:U64 b) (hc:U64 c) (hd:U64 d) (he:U64 e) (hf:U64 f) (hq:U64 q) (hz:U64 z) (hx:U64 x) :
  Calls Tryz.prog 157 #[.pointer (some ⟨g,0,none⟩),.int .u64 x] w fun en w'=>en=.returned (.tuple #[])∧w'.heap[g]?=some (.cells #[.int .u64 (IntKind.u64.wrap (rt1 a b c d e f q z x+rt2 a b c)),.int .u64 a,.int .u64 b,.int .u64 c,.int .u64 (IntKind.u64.wrap (d+rt1 a b c d e f q z x)),.int .u64 e,.int .u64 f,.int .u64 q] ty (0,0))∧Wr g w w':=by
 have HE:=hid_ofS he;have HA:=hid_ofS ha;have HR:=hid_ofS hr;have c0:w.cell? ⟨g,0,none⟩=some (.int .u64 a):=cell_of_row _ _ _ _ _ _ hr;have c1:w.cell? ⟨g,1,none⟩=some (.int .u64 b):=cell_of_row _ _ _ _ _ _ hr;have c2:w.cell? ⟨g,2,none⟩=some (.int .u64 c):=cell_of_row _ _ _ _ _ _ hr;have c3:w.cell? ⟨g,3,none⟩=some (.int .u64 d):=cell_of_row _ _ _ _ _ _ hr;have c4:w.cell? ⟨g,4,none⟩=some (.int .u64 e):=cell_of_row _ _ _ _ _ _ hr;have c5:w.cell? ⟨g,5,none⟩=some (.int .u64 f):=cell_of_row _ _ _ _ _ _ hr;have c6:w.cell? ⟨g,6,none⟩=some (.int .u64 q):=cell_of_row _ _ _ _ _ _ hr;have c7:w.cell? ⟨g,7,none⟩=some (.int .u64 z):=cell_of_row _ _ _ _ _ _ hr;obtain⟨a0,a1⟩:=ha;obtain⟨b0,b1⟩:=hb;obtain⟨c0,c1⟩:=hc;obtain⟨d0,d1⟩:=hd;obtain⟨e0,e1⟩:=he;obtain⟨f0,f1⟩:=hf;obtain⟨q0,q1⟩:=hq;obtain⟨z0,z1⟩:=hz;obtain⟨x0,x1⟩:=hx;clear hr;go_enter Tryz.func157,Tryz.ntmps157;go_wp2
 go_quiet (fail)
 go_wp2
 go_quiet (fail)
 go_wp2
 go_quiet (first|(refine(b1_any e _ HE.out).mono ?_;rintro _ _ ⟨h1,h2⟩;exact⟨h1,_,h2⟩))
 go_wp2_with fail;refine(b0_any a _ HA.out).mono ?_;rintro _ w9 ⟨rfl,hw9⟩;subst w9;obtain⟨t1,ht1⟩:∃ t1,rt1 a b c d e f q z x=t1:=⟨_,rfl⟩
 have u1:U64 t1:=by rw[←ht1];exact u64_wrap _
 have ht1':=ht1;unfold rt1 chf at ht1';rw[ht1'];obtain⟨u10,u11⟩:=u1;have u2:=bg0_u64 a;obtain⟨s0,hs0⟩:∃ s0,bg0 a=s0:=⟨_,rfl⟩
 rw[hs0] at u2 ⊢;obtain⟨u20,u21⟩:=u2;obtain⟨t2,ht2⟩:∃ t2,rt2 a b c=t2:=⟨_,rfl⟩
 have u3:U64 t2:=by rw[←ht2];exact u64_wrap _
 have ht2':=ht2;unfold rt2 maj at ht2';rw[hs0] at ht2';obtain⟨u30,u31⟩:=u3;have HT1:=hid_ofS ht1;have HT2:=hid_ofS ht2;clear ht1 ht1' hs0 ht2
 go_upto_region 4 with fail
 try rw[ht2']
 clear ht2';have HWN:∀ k,Hid (Wr g w (w.drewN k)):=fun k=>(Wr.refl g w).drewN k
 refine wp_region_any (by kernel_rfl) ?_;refine wpAny_slotsU (fun _ _ _=>True) (frame:=(fun (a b c d e f g h i j k l m n o p q r s u v w x y z A B C D E F G H I J K L M N O P Q R S T U V W X Y Z a0 a1 a2 a3 a4 a5 a6 a7 a8 a9 b0 b1 b2 b3 b4 b5 b6 b7 b8 b9 c0 c1 c2 c3 c4 c5 c6 c7 c8 c9 d0:Value)=>fun (t:Nat→Value)=>({ tmps:=List.toArray [a,b,c,d,e,f,g,h,i,j,k,l,m,n,o,p,q,r,s,u,v,w,x,y,z,A,B,C,D,E,F,G,H,I,J,K,L,M,N,O,P,Q,R,S,T,U,V,W,X,Y,Z,a0,a1,a2,a3,a4,a5,a6,a7,a8,a9,b0,b1,b2,b3,b4,b5,b6,t 0,t 1,t 2,t 3,t 4,t 5,t 6,b7,b8,b9,c0,c1,c2,c3,c4,c5,c6,c7,c8,c9,d0],defers:=[] }:Act)) _ _ _ _ _ _ _ _ _ _ _ _ _ _ _ _ _ _ _ _ _ _ _ _ _ _ _ _ _ _ _ _ _ _ _ _ _ _ _ _ _ _ _ _ _ _ _ _ _ _ _ _ _ _ _ _ _ _ _ _ _ _ _ _ _ _ _ _ _ _ _ _ _ _ _ _ _ _ _ _ _ _)
  (Ext:=fun L u w'=>if L 6=true then w'.heap[g]?=some (.cells #[.int .u64 a,.int .u64 a,.int .u64 b,.int .u64 c,.int .u64 d,.int .u64 e,.int .u64 f,.int .u64 q] ty (0,0))∧Wr g w w' else w'.heap[g]?=some (.cells #[.int .u64 a,.int .u64 b,.int .u64 c,.int .u64 d,.int .u64 e,.int .u64 f,.int .u64 q,.int .u64 z] ty (0,0))∧Wr g w w') (Good:=fun i L w' v=>if i=0 then v=.pointer (some ⟨g,0,none⟩) else if i=1 then v=.pointer (some ⟨g,0,none⟩) else if i=2 then v=.slice (some ⟨g,1,none⟩) 7 7 else if i=3 then v=.pointer (some ⟨g,0,none⟩) else if i=4 then v=.pointer (some ⟨g,0,none⟩) else if i=5 then v=.slice (some ⟨g,0,none⟩) 7 8 else if i=6 then L 6=true else True) ?hstab (by kernel_rfl) ?hop ?hdone _ _ ((fun (x0 x1 x2 x3 x4 x5 x6:Value)=>fun (i:Nat)=>if i=0 then x0 else if i=1 then x1 else if i=2 then x2 else if i=3 then x3 else if i=4 then x4 else if i=5 then x5 else if i=6 then x6 else undef) _ _ _ _ _ _ _) _ (by simp) ?ext ?start (by simp)
 case start=>intro i hi h;exact absurd h (by rw[Array.getD_eq_getD_getElem?,Array.getElem?_replicate];split<;>simp)
 case ext=>
  rw[if_neg (by show ¬ (Array.getD _ _ _=true);rw[Array.getD_eq_getD_getElem?,Array.getElem?_replicate];split<;>simp)];exact⟨HR.out,((HWN _).out).drew⟩
 case hstab=>
  intro j L w9 w' i v hM hij hLi h;by_cases hl:j=6
  ·subst hl;simp at h ⊢;unfold updK;simp[h]
  ·simp only[if_neg hl] at h ⊢;exact h
 case hop=>
  intro i o L t w' ho hLi hx hdep K hK;have hi:i<7:=(Array.getElem?_eq_some_iff.1 ho).1;obtain rfl|rfl|rfl|rfl|rfl|rfl|rfl:i=0∨i=1∨i=2∨i=3∨i=4∨i=5∨i=6:=by omega
  all_goals(simp at ho;subst ho)
  ·clear hdep;have hK':=hK w' (.pointer (some ⟨g,0,none⟩)) (by simp) (by simpa[updK] using hx) trivial;clear hK;rw[if_pos (by rfl)];go_simp;simpa[upd] using hK'
  ·have d0:t 0=.pointer (some ⟨g,0,none⟩):=by simpa using(hdep ⟨0,.data⟩ (by simp) rfl).2
   clear hdep;have hK':=hK w' (.pointer (some ⟨g,0,none⟩)) (by simp) (by simpa[updK] using hx) trivial;clear hK;rw[if_pos (by rfl)];go_simp;simpa[upd,d0] using hK'
  ·have d1:t 1=.pointer (some ⟨g,0,none⟩):=by simpa using(hdep ⟨1,.data⟩ (by simp) rfl).2
   clear hdep;have hK':=hK w' (.slice (some ⟨g,1,none⟩) 7 7) (by simp) (by simpa[updK] using hx) trivial;clear hK;rw[if_pos (by rfl)];go_simp;simpa[upd,d1] using hK'
  ·clear hdep;have hK':=hK w' (.pointer (some ⟨g,0,none⟩)) (by simp) (by simpa[updK] using hx) trivial;clear hK;rw[if_pos (by rfl)];go_simp;simpa[upd] using hK'
  ·have d3:t 3=.pointer (some ⟨g,0,none⟩):=by simpa using(hdep ⟨3,.data⟩ (by simp) rfl).2
   clear hdep;have hK':=hK w' (.pointer (some ⟨g,0,none⟩)) (by simp) (by simpa[updK] using hx) trivial;clear hK;rw[if_pos (by rfl)];go_simp;simpa[upd,d3] using hK'
  ·have d4:t 4=.pointer (some ⟨g,0,none⟩):=by simpa using(hdep ⟨4,.data⟩ (by simp) rfl).2
   clear hdep;have hK':=hK w' (.slice (some ⟨g,0,none⟩) 7 8) (by simp) (by simpa[updK] using hx) trivial;clear hK;rw[if_pos (by rfl)];go_simp;simpa[upd,d4] using hK'
  ·have d2:t 2=.slice (some ⟨g,1,none⟩) 7 7:=by simpa using(hdep ⟨2,.data⟩ (by simp) rfl).2
   have d5:t 5=.slice (some ⟨g,0,none⟩) 7 8:=by simpa using(hdep ⟨5,.data⟩ (by simp) rfl).2
   clear hdep;rw[hLi,if_neg (by decide)] at hx;rw[if_pos (by rfl)];refine wp_copy7 (.tmp 70) (.tmp 73) rfl g ty a b c d e f q z d2 d5 hx.1 ?_;intro w2 h2 hw2;exact hK w2 _ (by simp[updK]) (by rw[if_pos (by simp[updK])];exact⟨h2,hx.2.trans hw2⟩) trivial
 case hdone=>
  intro L t w4 hx hg;have hlast:L 6=true:=by simpa using hg 6 (by decide)
  rw[if_pos hlast] at hx;clear hg hlast;have c4':w4.cell? ⟨g,4,none⟩=some (.int .u64 d):=cell_of_row _ _ _ _ _ _ hx.1;have f4':w4.frozen? ⟨g,4,none⟩=false:=frozen_of_row _ _ _ _ _ hx.1;have c0':w4.cell? ⟨g,0,none⟩=some (.int .u64 a):=cell_of_row _ _ _ _ _ _ hx.1;have f0':w4.frozen? ⟨g,0,none⟩=false:=frozen_of_row _ _ _ _ _ hx.1;have HX:=hid_ofS hx;clear hx;go_wp2
  go_region
  go_wp2
  go_end0
  obtain⟨hx1,hx2⟩:=HX.out;rw[HT1.out,HT2.out];refine⟨rfl,?_,((hx2.setCell 4 _).setCell 0 _).drew⟩;have h5:=heap_setCell_same w4 g 4 _ _ (.int .u64 (IntKind.u64.wrap (d+t1))) hx1;have h6:=heap_setCell_same _ g 0 _ _ (.int .u64 (IntKind.u64.wrap (t1+t2))) h5;exact h6
/-! Rows read whole and stored whole. -/
theorem wpList_loadW {w:World} {ops:Array Oper} {rest:List Oper} {o:Oper} {a:Act} {Q:Exit→Act→World→Prop} {T e t':TypeId} {n:Nat} (hgd:o.guard=none) (x:Operand) (ho:o.op=.load T x)
  (hu:Tryz.prog.underlying T=some (.array n e)) (hz:(Tryz.prog.info? T).map (·.size)=some n) (g:Nat) (es:List Int) (hx:a.eval x=.pointer (some ⟨g,0,none⟩)) (hl:es.length=n) (hr:RowW w g t' es)
  (hK:wpList Tryz.prog ops Q rest (a.put o.dst (.agg (es.map (Value.int .u64)).toArray)) w):wpList Tryz.prog ops Q (o::rest) a w:=
 wpList_load_row hgd T x ho g hx t' _ (0,0) _ hr hu rfl (by rw[hz];simp[hl]) hK
theorem wpList_storeW {w:World} {ops:Array Oper} {rest:List Oper} {o:Oper} {a:Act} {Q:Exit→Act→World→Prop} {T t':TypeId} {n:Nat} (hgd:o.guard=none) (x y:Operand) (ho:o.op=.store T x y)
  (hz:(Tryz.prog.info? T).map (·.size)=some n) (g:Nat) (es zs:List Int) (hx:a.eval x=.pointer (some ⟨g,0,none⟩)) (hy:a.eval y=.agg (es.map (Value.int .u64)).toArray) (hl:es.length=n) (hl':zs.length=n) (hr:RowW w g t' zs)
  (hK:∀ w',RowW w' g t' es→Wr g w w'→wpList Tryz.prog ops Q rest (a.put o.dst undef) w'):wpList Tryz.prog ops Q (o::rest) a w:=
 wpList_store_row hgd T x y ho g ((es.map (Value.int .u64)).toArray) hx hy t' _ hr (by rw[hz];simp[hl]) (by simp[hl,hl']) (all_oneCell_toArray (ints_oneCell _ _)) (hK _ (hr.setRow es) (Wr.setRow _ _ _))
theorem wpList_loadB {w:World} {ops:Array Oper} {rest:List Oper} {o:Oper} {a:Act} {Q:Exit→Act→World→Prop} {T e t':TypeId} {n:Nat} (hgd:o.guard=none) (x:Operand) (ho:o.op=.load T x)
  (hu:Tryz.prog.underlying T=some (.array n e)) (hz:(Tryz.prog.info? T).map (·.size)=some n) (g:Nat) (es:List Int) (hx:a.eval x=.pointer (some ⟨g,0,none⟩)) (hl:es.length=n) (hr:Row w g t' es)
  (hK:wpList Tryz.prog ops Q rest (a.put o.dst (.agg (es.map (Value.int .u8)).toArray)) w):wpList Tryz.prog ops Q (o::rest) a w:=
 wpList_load_row hgd T x ho g hx t' _ (0,0) _ hr hu rfl (by rw[hz];simp[hl]) hK
theorem wpList_storeB {w:World} {ops:Array Oper} {rest:List Oper} {o:Oper} {a:Act} {Q:Exit→Act→World→Prop} {T t':TypeId} {n:Nat} (hgd:o.guard=none) (x y:Operand) (ho:o.op=.store T x y)
  (hz:(Tryz.prog.info? T).map (·.size)=some n) (g:Nat) (es zs:List Int) (hx:a.eval x=.pointer (some ⟨g,0,none⟩)) (hy:a.eval y=.agg (es.map (Value.int .u8)).toArray) (hl:es.length=n) (hl':zs.length=n) (hr:Row w g t' zs)
  (hK:∀ w',Row w' g t' es→Wr g w w'→wpList Tryz.prog ops Q rest (a.put o.dst undef) w'):wpList Tryz.prog ops Q (o::rest) a w:=
 wpList_store_row hgd T x y ho g ((es.map (Value.int .u8)).toArray) hx hy t' _ hr (by rw[hz];simp[hl]) (by simp[hl,hl']) (all_oneCell_toArray (ints_oneCell _ _)) (hK _ (by unfold Row;rw[setRow_heap _ _ _ _ _ _ hr]) (Wr.setRow _ _ _))
theorem RowW.drew {w:World} {g:Nat} {e:TypeId} {zs:List Int} (h:RowW w g e zs):RowW w.drew g e zs:=h
theorem Row.below {w w':World} {g:Nat} {e:TypeId} {zs:List Int} {B:Nat} (h:Row w g e zs) (hb:Below B w w') (hg:g<B):Row w' g e zs:=by
 unfold Row;rw[hb.block g hg];exact h
theorem Tryz.sizeSch:(Tryz.prog.info? 213).map (·.size)=some 80:=by kernel_rfl
theorem Tryz.sizeWds:(Tryz.prog.info? 175).map (·.size)=some 8:=by kernel_rfl
theorem Tryz.sizeBlk:(Tryz.prog.info? 178).map (·.size)=some 128:=by kernel_rfl
def zSch:Array Value:=((List.replicate 80 (0:Int)).map (Value.int .u64)).toArray
theorem zcSch:zSch=((List.replicate 80 (0:Int)).map (Value.int .u64)).toArray:=rfl
theorem zvSch:∀ w,(zeroValue 213).run Tryz.prog w=.ok (.agg zSch) w:=(zero_of_info (n:=80) (by kernel_rfl)).1
theorem zsSch:zSch.size=80:=by unfold zSch;simp
theorem znSch:¬ zSch=#[]:=by intro h;have:=zsSch;rw[h] at this;simp at this
def zBlk:Array Value:=((List.replicate 128 (0:Int)).map (Value.int .u8)).toArray
theorem zcBlk:zBlk=((List.replicate 128 (0:Int)).map (Value.int .u8)).toArray:=rfl
theorem zvBlk:∀ w,(zeroValue 178).run Tryz.prog w=.ok (.agg zBlk) w:=(zero_of_info (n:=128) (by kernel_rfl)).1
theorem zsBlk:zBlk.size=128:=by unfold zBlk;simp
theorem znBlk:¬ zBlk=#[]:=by intro h;have:=zsBlk;rw[h] at this;simp at this
/-! The schedule. -/
def wtN (bs l:List Int) (t:Nat):Int:=
 if t<16 then beV ((bs.drop (8*t)).take 8)
 else IntKind.u64.wrap (IntKind.u64.wrap (IntKind.u64.wrap (sg1 (l.getD (t-2) 0)+l.getD (t-7) 0)+sg0 (l.getD (t-15) 0))+l.getD (t-16) 0)
def schN (bs:List Int):Nat→List Int
 |0=>[]
 |n+1=>schN bs n++[wtN bs (schN bs n) n]
def wd (bs:List Int) (t:Nat):Int:=wtN bs (schN bs t) t
theorem schN_len (bs:List Int) (n:Nat):(schN bs n).length=n:=by
 induction n with
 |zero=>rfl
 |succ n ih=>simp[schN,ih]
theorem schN_get (bs:List Int) (n t:Nat) (h:t<n):(schN bs n).getD t 0=wd bs t:=by
 induction n with
 |zero=>omega
 |succ n ih=>
  have hl:=schN_len bs n;unfold schN;rcases Nat.lt_or_ge t n with h'|h'
  ·rw[List.getD_eq_getElem?_getD,List.getElem?_append_left (by omega),←List.getD_eq_getElem?_getD];exact ih h'
  ·obtain rfl:t=n:=by omega
   rw[List.getD_eq_getElem?_getD,List.getElem?_append_right (by omega),hl];simp[wd]
theorem wd_lo (bs:List Int) (t:Nat) (h:t<16):wd bs t=beV ((bs.drop (8*t)).take 8):=by unfold wd wtN;rw[if_pos h]
theorem wd_hi (bs:List Int) (j:Nat):wd bs (j+16)=IntKind.u64.wrap (IntKind.u64.wrap (IntKind.u64.wrap (sg1 (wd bs (j+14))+wd bs (j+9))+sg0 (wd bs (j+1)))+wd bs j):=by
 have e:wd bs (j+16)=wtN bs (schN bs (j+16)) (j+16):=rfl;rw[e,wtN,if_neg (by omega),schN_get _ _ _ (by omega),schN_get _ _ _ (by omega),schN_get _ _ _ (by omega),schN_get _ _ _ (by omega)];rfl
theorem wd_hi' (bs:List Int) (k:Nat) (h:16≤k):wd bs k=IntKind.u64.wrap (IntKind.u64.wrap (IntKind.u64.wrap (sg1 (wd bs (k-2))+wd bs (k-7))+sg0 (wd bs (k-15)))+wd bs (k-16)):=by
 obtain⟨j,rfl⟩:∃ j,k=j+16:=⟨k-16,by omega⟩
 exact wd_hi bs j
theorem wd_u64 {bs:List Int} (hz:Byte bs) (hl:bs.length=128) (t:Nat):U64 (wd bs t):=by
 rcases Nat.lt_or_ge t 16 with h|h
 ·rw[wd_lo bs t h];have hz':Byte ((bs.drop (8*t)).take 8):=fun z h=>hz z (List.mem_of_mem_drop (List.mem_of_mem_take h))
  have hl':((bs.drop (8*t)).take 8).length=8:=by simp;omega
  have hb:=beV_bd hz' 8 (by omega);rw[List.take_of_length_le (by omega)] at hb;exact⟨hb.1,by have:=hb.2;simpa using this⟩
 ·obtain⟨j,rfl⟩:∃ j,t=j+16:=⟨t-16,by omega⟩
  rw[wd_hi];exact u64_wrap _
def schA (bs:List Int) (m:Nat):List Int:=(List.range 80).map fun j=>if j<m then wd bs j else 0
theorem schA_len (bs:List Int) (m:Nat):(schA bs m).length=80:=by simp[schA]
theorem schA_get (bs:List Int) (m j:Nat) (h:j<80):(schA bs m).getD j 0=if j<m then wd bs j else 0:=by unfold schA;simp[List.getD,h]
theorem schA_zero (bs:List Int):schA bs 0=List.replicate 80 0:=by
 unfold schA;simp only[Nat.not_lt_zero,if_false];rw[List.map_const'];simp
theorem schA_set (bs:List Int) (m:Nat) (h:m<80):(schA bs m).set m (wd bs m)=schA bs (m+1):=by
 apply List.ext_getElem?;intro i;rw[List.getElem?_set];unfold schA;by_cases h1:m=i
 ·subst h1;simp[h]
 ·rw[if_neg h1];by_cases h2:i<80
  ·have e:(i<m+1)=(i<m):=by apply propext;omega
   simp[h2,e]
  ·simp[h2]
structure SC (w:World) (bs:List Int) (m:Nat) (y:World):Prop where
 res:RowW y w.heap.size 213 (List.replicate 80 0)
 row:RowW y (w.heap.size+1) 213 (schA bs m)
 below:Below w.heap.size w y
theorem SC.drew {w:World} {bs:List Int} {m:Nat} {y:World} (h:SC w bs m y):SC w bs m y.drew:=⟨h.res.drew,h.row.drew,h.below.drew⟩
theorem SC.cellAt {w:World} {bs:List Int} {m:Nat} {y:World} (h:SC w bs m y) (j:Nat) (hj:j<m) (h8:j<80):y.cell? ⟨w.heap.size+1,j,none⟩=some (.int .u64 (wd bs j)):=by
 rw[h.row.cell j (by rw[schA_len];exact h8),schA_get _ _ _ h8,if_pos hj]
theorem SC.cell0 {w:World} {bs:List Int} {m:Nat} {y:World} (h:SC w bs m y) (j:Nat) (hj:m≤j) (h8:j<80):y.cell? ⟨w.heap.size+1,j,none⟩=some (.int .u64 0):=by
 rw[h.row.cell j (by rw[schA_len];exact h8),schA_get _ _ _ h8,if_neg (by omega)]
theorem SC.set {w:World} {bs:List Int} {m:Nat} {y:World} (h:SC w bs m y) (hm:m<80):SC w bs (m+1) (y.setCell ⟨w.heap.size+1,m,none⟩ (.int .u64 (wd bs m))):=
 ⟨((Wr.refl _ _).setCell m _).rowW h.res (by omega),by rw[←schA_set bs m hm];exact h.row.set m _,h.below.setCell (by simp) _⟩
theorem ite_sc {w:World} {bs:List Int} {m:Nat} {y:World} {b:Bool} (h:if b=true then SC w bs (m+1) y else SC w bs m y) (j:Nat) (hj:j<m) (h8:j<80):y.cell? ⟨w.heap.size+1,j,none⟩=some (.int .u64 (wd bs j)):=by
 cases b
 ·exact SC.cellAt (by simpa using h) j hj h8
 ·exact SC.cellAt (m:=m+1) (by simpa using h) j (by omega) h8
set_option maxHeartbeats 400000 in
theorem setL_any (g:Nat) (n:Int) (bs:List Int) (w:World) (hr:Row w g 178 bs) (hl:bs.length=128) (hn:U64 n) :
  Calls Tryz.prog 158 #[.pointer (some ⟨g,0,none⟩),.int .u64 n] w fun e w'=>e=.returned (.tuple #[])∧Row w' g 178 (ov8 (ov8 bs 112 (n/2^61) 8) 120 (IntKind.u64.wrap (n*8)) 8)∧Wr g w w':=by
 obtain⟨n0,n1⟩:=hn;have A:=hid_ofS (setW_any g 112 (n/2305843009213693952) bs w hr hl (by omega) ⟨by omega,by omega⟩);have B:=hid_ofS (fun w1 (h:Row w1 g 178 (ov8 bs 112 (n/2305843009213693952) 8))=>setW_any g 120 (IntKind.u64.wrap (n*8)) _ w1 h (by rw[ov8_len];exact hl) (by omega) (u64_wrap _));have HD:=hid_ofS (show n/2^61=n/2305843009213693952 from rfl);clear hr;go_enter Tryz.func158,Tryz.ntmps158;go_wp2_with fail;refine A.out.mono ?_;rintro e w1 ⟨rfl,r1,b1⟩;have B':=B.out w1 r1;clear A B r1;have HB1:=hid_ofS b1;clear b1;have HB:=hid_ofS B';clear B';go_wp2_with fail;refine HB.out.mono ?_;rintro e w2 ⟨rfl,r2,b2⟩;have H2:=hid_ofS r2;have HB2:=hid_ofS b2;clear r2 b2 HB;go_wp2
 go_end0
 rw[HD.out];exact⟨rfl,H2.out,HB1.out.trans HB2.out⟩
set_option maxRecDepth 100000 in
set_option maxHeartbeats 4000000 in
theorem sched_any (g:Nat) (bs:List Int) (w:World) (hr:Row w g 178 bs) (hl:bs.length=128) (hz:Byte bs) :
  Calls Tryz.prog 156 #[.pointer (some ⟨g,0,none⟩)] w fun e w'=>e=.returned (.agg ((schA bs 80).map (Value.int .u64)).toArray)∧Below w.heap.size w w':=by
 have HR:=hid_ofS hr;have HL:=hid_ofS hl;have HZ:=hid_ofS hz;have HU:=hid_ofS (fun t=>wd_u64 hz hl t);have hlt:=hr.lt;clear hr hl hz;have HS:Hid (SC w bs 0 ((w.alloc (.cells zSch 213)).alloc (.cells zSch 213))):=by
  refine⟨?_,?_,((Below.refl _ _).alloc (Nat.le_refl _) _).alloc (by simp) _⟩
  ·unfold RowW;rw[heap_alloc2_old,zcSch]
  ·unfold RowW;rw[heap_alloc2_new,zcSch,schA_zero]
 have z1:=zvSch;have z2:=zsSch;have z3:=znSch;go_enter Tryz.func156,Tryz.ntmps156;go_wp2
 go_loopw [5] (fun i wr=>∃ k:Nat,k≤80∧i=.int .i64 k∧SC w bs k wr) (fun i _=>80-(intOf i).toNat)
 case atStart=>exact⟨0,by omega,rfl,HS.out⟩
 case round=>
  clear HS;obtain⟨k,hk,rfl,hst⟩:=hrel;by_cases h80:k<80
  ·have h80':(k:Int)<80:=by omega
   by_cases h16:k<16
   ·have h16':(k:Int)<16:=by omega
    have A:=hid_ofS (wordI_any g (8*k) bs wr (HR.out.below hst.below hlt) HL.out HZ.out (by omega));have hc:=hst.cell0 k (Nat.le_refl _) h80;have hf:=hst.row.frozen k;have e8:=hid_ofS (show((8*k:Nat):Int)=8*(k:Int) by omega);have HN:=hst.set h80;rw[wd_lo _ _ h16] at HN;have HX:=hid_ofS HN;clear HN hst;go_wp2_with fail;rw[←e8.out];refine A.out.mono ?_;rintro e w9 ⟨rfl,h9⟩;subst h9;clear A;generalize beV ((bs.drop (8*k)).take 8)=v at *;go_wp2;go_roundw
    case rel=>exact⟨k+1,by omega,by go_num,HX.out⟩
    case measure=>simp[intOf];omega
   ·have h16':¬ ((k:Int)<16):=by omega
    have HS0:=hid_ofS hst;have HWD:=wd_hi' bs k (by omega);have HST:Hid (∀ y,SC w bs k y→SC w bs (k+1) (y.setCell ⟨w.heap.size+1,k,none⟩ (.int .u64 (wd bs k)))):=fun y h=>h.set h80
    have HCE:Hid (∀ y (L:Nat→Bool),(if L 23=true then SC w bs (k+1) y else SC w bs k y)→∀ i,i<k→y.cell? ⟨w.heap.size+1,i,none⟩=some (.int .u64 (wd bs i))):=fun y L h i hi=>ite_sc h i hi (by omega)
    obtain⟨j0,hj0⟩:∃ i,i=k-16:=⟨_,rfl⟩
    obtain⟨j1,hj1⟩:∃ i,i=k-15:=⟨_,rfl⟩
    obtain⟨j9,hj9⟩:∃ i,i=k-7:=⟨_,rfl⟩
    obtain⟨j14,hj14⟩:∃ i,i=k-2:=⟨_,rfl⟩
    rw[←hj0,←hj1,←hj9,←hj14] at HWD;have hJ0:Hid ((k:Int)-16=(j0:Int)∧j0<k):=⟨by omega,by omega⟩
    have hJ1:Hid ((k:Int)-15=(j1:Int)∧j1<k):=⟨by omega,by omega⟩
    have hJ9:Hid ((k:Int)-7=(j9:Int)∧j9<k):=⟨by omega,by omega⟩
    have hJ14:Hid ((k:Int)-2=(j14:Int)∧j14<k):=⟨by omega,by omega⟩
    clear hj0 hj1 hj9 hj14;obtain⟨x0,hx0⟩:∃ x,x=wd bs j0:=⟨_,rfl⟩
    obtain⟨x1,hx1⟩:∃ x,x=wd bs j1:=⟨_,rfl⟩
    obtain⟨x9,hx9⟩:∃ x,x=wd bs j9:=⟨_,rfl⟩
    obtain⟨x14,hx14⟩:∃ x,x=wd bs j14:=⟨_,rfl⟩
    have U1:=hid_ofS (HU.out j1);rw[←hx1] at U1;have U14:=hid_ofS (HU.out j14);rw[←hx14] at U14;rw[←hx0,←hx1,←hx9,←hx14] at HWD;have hWD:=hid_ofS HWD;have hX0:=hid_ofS hx0;have hX1:=hid_ofS hx1;have hX9:=hid_ofS hx9;have hX14:=hid_ofS hx14;clear HWD hx0 hx1 hx9 hx14 hst
    go_upto_region 7 with fail
    refine wp_region_any (by kernel_rfl) ?_;refine wpAny_slotsU (fun _ _ _=>True) (frame:=(fun (a b c d e f g h i j k l m n o p q r:Value)=>fun (t:Nat→Value)=>({ tmps:=List.toArray [a,b,c,d,e,f,g,h,i,j,k,l,m,n,o,p,t 0,t 1,t 2,t 3,t 4,t 5,t 6,t 7,t 8,t 9,t 10,t 11,t 12,t 13,t 14,t 15,t 16,t 17,t 18,t 19,t 20,t 21,t 22,q,r],defers:=[] }:Act)) _ _ _ _ _ _ _ _ _ _ _ _ _ _ _ _ _ _)
     (Ext:=fun L u w'=>if L 23=true then SC w bs (k+1) w' else SC w bs k w') (Good:=fun i L w' v=>if i=0 then v=.int .i64 (k:Int) else if i=1 then v=.int .i64 (k:Int) else if i=2 then v=.int .i64 (j14:Int) else if i=3 then v=.pointer (some ⟨w.heap.size+1,j14,none⟩) else if i=4 then v=.int .u64 (x14) else if i=5 then v=.int .u64 (sg1 x14) else if i=6 then v=.int .i64 (k:Int) else if i=7 then v=.int .i64 (j9:Int) else if i=8 then v=.pointer (some ⟨w.heap.size+1,j9,none⟩) else if i=9 then v=.int .u64 (x9) else if i=10 then v=.int .u64 (IntKind.u64.wrap (sg1 x14+x9)) else if i=11 then v=.int .i64 (k:Int) else if i=12 then v=.int .i64 (j1:Int) else if i=13 then v=.pointer (some ⟨w.heap.size+1,j1,none⟩) else if i=14 then v=.int .u64 (x1) else if i=15 then v=.int .u64 (sg0 x1) else if i=16 then v=.int .u64 (IntKind.u64.wrap (IntKind.u64.wrap (sg1 x14+x9)+sg0 x1)) else if i=17 then v=.int .i64 (k:Int) else if i=18 then v=.int .i64 (j0:Int) else if i=19 then v=.pointer (some ⟨w.heap.size+1,j0,none⟩) else if i=20 then v=.int .u64 (x0) else if i=21 then v=.int .u64 (IntKind.u64.wrap (IntKind.u64.wrap (IntKind.u64.wrap (sg1 x14+x9)+sg0 x1)+x0)) else if i=22 then v=.pointer (some ⟨w.heap.size+1,k,none⟩) else if i=23 then L 23=true else True) ?hstab (by kernel_rfl) ?hop ?hdone _ _ ((fun (x0 x1 x2 x3 x4 x5 x6 x7 x8 x9 x10 x11 x12 x13 x14 x15 x16 x17 x18 x19 x20 x21 x22:Value)=>fun (i:Nat)=>if i=0 then x0 else if i=1 then x1 else if i=2 then x2 else if i=3 then x3 else if i=4 then x4 else if i=5 then x5 else if i=6 then x6 else if i=7 then x7 else if i=8 then x8 else if i=9 then x9 else if i=10 then x10 else if i=11 then x11 else if i=12 then x12 else if i=13 then x13 else if i=14 then x14 else if i=15 then x15 else if i=16 then x16 else if i=17 then x17 else if i=18 then x18 else if i=19 then x19 else if i=20 then x20 else if i=21 then x21 else if i=22 then x22 else undef) _ _ _ _ _ _ _ _ _ _ _ _ _ _ _ _ _ _ _ _ _ _ _) _ (by simp) ?ext ?start (by simp)
    case start=>intro i hi h;exact absurd h (by rw[Array.getD_eq_getD_getElem?,Array.getElem?_replicate];split<;>simp)
    case ext=>
     rw[if_neg (by show ¬ (Array.getD _ _ _=true);rw[Array.getD_eq_getD_getElem?,Array.getElem?_replicate];split<;>simp)];exact HS0.out.drew
    case hstab=>
     intro j L w9 w' i v hM hij hLi h;by_cases hl:j=23
     ·subst hl;simp at h ⊢;unfold updK;simp[h]
     ·simp only[if_neg hl] at h ⊢;exact h
    case hop=>
     intro i o L t w' ho hLi hx hdep K hK;have hi:i<24:=(Array.getElem?_eq_some_iff.1 ho).1;obtain rfl|rfl|rfl|rfl|rfl|rfl|rfl|rfl|rfl|rfl|rfl|rfl|rfl|rfl|rfl|rfl|rfl|rfl|rfl|rfl|rfl|rfl|rfl|rfl:i=0∨i=1∨i=2∨i=3∨i=4∨i=5∨i=6∨i=7∨i=8∨i=9∨i=10∨i=11∨i=12∨i=13∨i=14∨i=15∨i=16∨i=17∨i=18∨i=19∨i=20∨i=21∨i=22∨i=23:=by omega
     all_goals(simp at ho;subst ho)
     ·clear hdep;have hK':=hK w' (.int .i64 (k:Int)) (by simp) (by simpa[updK] using hx) trivial;clear hK;rw[if_pos (by rfl)];go_simp;simpa[upd] using hK'
     ·clear hdep;have hK':=hK w' (.int .i64 (k:Int)) (by simp) (by simpa[updK] using hx) trivial;clear hK;rw[if_pos (by rfl)];go_simp;simpa[upd] using hK'
     ·have d1:t 1=.int .i64 (k:Int):=by simpa using(hdep ⟨1,.data⟩ (by simp) rfl).2
      clear hdep;have e1:=hJ14.out.1;have e4:IntKind.i64.wrap (j14:Int)=(j14:Int):=by have:=hJ14.out.2;rw[IntKind.wrap_i64];omega
      have hK':=hK w' (.int .i64 (j14:Int)) (by simp) (by simpa[updK] using hx) trivial;clear hK;rw[if_pos (by rfl)];go_simp;simpa[upd,d1,e1,e4] using hK'
     ·have d2:t 2=.int .i64 (j14:Int):=by simpa using(hdep ⟨2,.data⟩ (by simp) rfl).2
      clear hdep;have e2:(j14:Int)<80:=by have:=hJ14.out.2;omega
      have hK':=hK w' (.pointer (some ⟨w.heap.size+1,j14,none⟩)) (by simp) (by simpa[updK] using hx) trivial;clear hK;rw[if_pos (by rfl)];go_simp;simpa[upd,d2] using hK'
     ·have d3:t 3=.pointer (some ⟨w.heap.size+1,j14,none⟩):=by simpa using(hdep ⟨3,.data⟩ (by simp) rfl).2
      clear hdep;have hc:w'.cell? ⟨w.heap.size+1,j14,none⟩=some (.int .u64 (x14)):=by rw[hX14.out];exact HCE.out w' L hx j14 (hJ14.out.2)
      have hK':=hK w' (.int .u64 (x14)) (by simp) (by simpa[updK] using hx) trivial;clear hK;rw[if_pos (by rfl)];go_simp;simpa[upd,d3] using hK'
     ·have d4:t 4=.int .u64 (x14):=by simpa using(hdep ⟨4,.data⟩ (by simp) rfl).2
      clear hdep;have A:=s1_any x14 w' U14.out;have hK':=hK w' (.int .u64 (sg1 x14)) (by simp) (by simpa[updK] using hx) trivial;clear hK hx;rw[if_pos (by rfl)];go_simp;try simp only[d4]
      refine A.mono ?_;rintro e w9 ⟨rfl,h9⟩;subst h9;clear A;go_simp;simpa[upd,d4] using hK'
     ·clear hdep;have hK':=hK w' (.int .i64 (k:Int)) (by simp) (by simpa[updK] using hx) trivial;clear hK;rw[if_pos (by rfl)];go_simp;simpa[upd] using hK'
     ·have d6:t 6=.int .i64 (k:Int):=by simpa using(hdep ⟨6,.data⟩ (by simp) rfl).2
      clear hdep;have e1:=hJ9.out.1;have e4:IntKind.i64.wrap (j9:Int)=(j9:Int):=by have:=hJ9.out.2;rw[IntKind.wrap_i64];omega
      have hK':=hK w' (.int .i64 (j9:Int)) (by simp) (by simpa[updK] using hx) trivial;clear hK;rw[if_pos (by rfl)];go_simp;simpa[upd,d6,e1,e4] using hK'
     ·have d7:t 7=.int .i64 (j9:Int):=by simpa using(hdep ⟨7,.data⟩ (by simp) rfl).2
      clear hdep;have e2:(j9:Int)<80:=by have:=hJ9.out.2;omega
      have hK':=hK w' (.pointer (some ⟨w.heap.size+1,j9,none⟩)) (by simp) (by simpa[updK] using hx) trivial;clear hK;rw[if_pos (by rfl)];go_simp;simpa[upd,d7] using hK'
     ·have d8:t 8=.pointer (some ⟨w.heap.size+1,j9,none⟩):=by simpa using(hdep ⟨8,.data⟩ (by simp) rfl).2
      clear hdep;have hc:w'.cell? ⟨w.heap.size+1,j9,none⟩=some (.int .u64 (x9)):=by rw[hX9.out];exact HCE.out w' L hx j9 (hJ9.out.2)
      have hK':=hK w' (.int .u64 (x9)) (by simp) (by simpa[updK] using hx) trivial;clear hK;rw[if_pos (by rfl)];go_simp;simpa[upd,d8] using hK'
     ·have d5:t 5=.int .u64 (sg1 x14):=by simpa using(hdep ⟨5,.data⟩ (by simp) rfl).2
      have d9:t 9=.int .u64 (x9):=by simpa using(hdep ⟨9,.data⟩ (by simp) rfl).2
      clear hdep;have hK':=hK w' (.int .u64 (IntKind.u64.wrap (sg1 x14+x9))) (by simp) (by simpa[updK] using hx) trivial;clear hK;rw[if_pos (by rfl)];go_simp;simpa[upd,d5,d9] using hK'
     ·clear hdep;have hK':=hK w' (.int .i64 (k:Int)) (by simp) (by simpa[updK] using hx) trivial;clear hK;rw[if_pos (by rfl)];go_simp;simpa[upd] using hK'
     ·have d11:t 11=.int .i64 (k:Int):=by simpa using(hdep ⟨11,.data⟩ (by simp) rfl).2
      clear hdep;have e1:=hJ1.out.1;have e4:IntKind.i64.wrap (j1:Int)=(j1:Int):=by have:=hJ1.out.2;rw[IntKind.wrap_i64];omega
      have hK':=hK w' (.int .i64 (j1:Int)) (by simp) (by simpa[updK] using hx) trivial;clear hK;rw[if_pos (by rfl)];go_simp;simpa[upd,d11,e1,e4] using hK'
     ·have d12:t 12=.int .i64 (j1:Int):=by simpa using(hdep ⟨12,.data⟩ (by simp) rfl).2
      clear hdep;have e2:(j1:Int)<80:=by have:=hJ1.out.2;omega
      have hK':=hK w' (.pointer (some ⟨w.heap.size+1,j1,none⟩)) (by simp) (by simpa[updK] using hx) trivial;clear hK;rw[if_pos (by rfl)];go_simp;simpa[upd,d12] using hK'
     ·have d13:t 13=.pointer (some ⟨w.heap.size+1,j1,none⟩):=by simpa using(hdep ⟨13,.data⟩ (by simp) rfl).2
      clear hdep;have hc:w'.cell? ⟨w.heap.size+1,j1,none⟩=some (.int .u64 (x1)):=by rw[hX1.out];exact HCE.out w' L hx j1 (hJ1.out.2)
      have hK':=hK w' (.int .u64 (x1)) (by simp) (by simpa[updK] using hx) trivial;clear hK;rw[if_pos (by rfl)];go_simp;simpa[upd,d13] using hK'
     ·have d14:t 14=.int .u64 (x1):=by simpa using(hdep ⟨14,.data⟩ (by simp) rfl).2
      clear hdep;have A:=s0_any x1 w' U1.out;have hK':=hK w' (.int .u64 (sg0 x1)) (by simp) (by simpa[updK] using hx) trivial;clear hK hx;rw[if_pos (by rfl)];go_simp;try simp only[d14]
      refine A.mono ?_;rintro e w9 ⟨rfl,h9⟩;subst h9;clear A;go_simp;simpa[upd,d14] using hK'
     ·have d10:t 10=.int .u64 (IntKind.u64.wrap (sg1 x14+x9)):=by simpa using(hdep ⟨10,.data⟩ (by simp) rfl).2
      have d15:t 15=.int .u64 (sg0 x1):=by simpa using(hdep ⟨15,.data⟩ (by simp) rfl).2
      clear hdep;have hK':=hK w' (.int .u64 (IntKind.u64.wrap (IntKind.u64.wrap (sg1 x14+x9)+sg0 x1))) (by simp) (by simpa[updK] using hx) trivial;clear hK;rw[if_pos (by rfl)];go_simp;simpa[upd,d10,d15] using hK'
     ·clear hdep;have hK':=hK w' (.int .i64 (k:Int)) (by simp) (by simpa[updK] using hx) trivial;clear hK;rw[if_pos (by rfl)];go_simp;simpa[upd] using hK'
     ·have d17:t 17=.int .i64 (k:Int):=by simpa using(hdep ⟨17,.data⟩ (by simp) rfl).2
      clear hdep;have e1:=hJ0.out.1;have e4:IntKind.i64.wrap (j0:Int)=(j0:Int):=by have:=hJ0.out.2;rw[IntKind.wrap_i64];omega
      have hK':=hK w' (.int .i64 (j0:Int)) (by simp) (by simpa[updK] using hx) trivial;clear hK;rw[if_pos (by rfl)];go_simp;simpa[upd,d17,e1,e4] using hK'
     ·have d18:t 18=.int .i64 (j0:Int):=by simpa using(hdep ⟨18,.data⟩ (by simp) rfl).2
      clear hdep;have e2:(j0:Int)<80:=by have:=hJ0.out.2;omega
      have hK':=hK w' (.pointer (some ⟨w.heap.size+1,j0,none⟩)) (by simp) (by simpa[updK] using hx) trivial;clear hK;rw[if_pos (by rfl)];go_simp;simpa[upd,d18] using hK'
     ·have d19:t 19=.pointer (some ⟨w.heap.size+1,j0,none⟩):=by simpa using(hdep ⟨19,.data⟩ (by simp) rfl).2
      clear hdep;have hc:w'.cell? ⟨w.heap.size+1,j0,none⟩=some (.int .u64 (x0)):=by rw[hX0.out];exact HCE.out w' L hx j0 (hJ0.out.2)
      have hK':=hK w' (.int .u64 (x0)) (by simp) (by simpa[updK] using hx) trivial;clear hK;rw[if_pos (by rfl)];go_simp;simpa[upd,d19] using hK'
     ·have d16:t 16=.int .u64 (IntKind.u64.wrap (IntKind.u64.wrap (sg1 x14+x9)+sg0 x1)):=by simpa using(hdep ⟨16,.data⟩ (by simp) rfl).2
      have d20:t 20=.int .u64 (x0):=by simpa using(hdep ⟨20,.data⟩ (by simp) rfl).2
      clear hdep;have hK':=hK w' (.int .u64 (IntKind.u64.wrap (IntKind.u64.wrap (IntKind.u64.wrap (sg1 x14+x9)+sg0 x1)+x0))) (by simp) (by simpa[updK] using hx) trivial;clear hK;rw[if_pos (by rfl)];go_simp;simpa[upd,d16,d20] using hK'
     ·have d0:t 0=.int .i64 (k:Int):=by simpa using(hdep ⟨0,.data⟩ (by simp) rfl).2
      clear hdep;have hK':=hK w' (.pointer (some ⟨w.heap.size+1,k,none⟩)) (by simp) (by simpa[updK] using hx) trivial;clear hK;rw[if_pos (by rfl)];go_simp;simpa[upd,d0] using hK'
     ·have d21:t 21=.int .u64 (IntKind.u64.wrap (IntKind.u64.wrap (IntKind.u64.wrap (sg1 x14+x9)+sg0 x1)+x0)):=by simpa using(hdep ⟨21,.data⟩ (by simp) rfl).2
      have d22:t 22=.pointer (some ⟨w.heap.size+1,k,none⟩):=by simpa using(hdep ⟨22,.data⟩ (by simp) rfl).2
      clear hdep;rw[hLi,if_neg (by decide)] at hx;have hc:=hx.cell0 k (Nat.le_refl _) (by omega);have hf:w'.frozen? ⟨w.heap.size+1,k,none⟩=false:=hx.row.frozen _;have hn:=HST.out w' hx;rw[hWD.out] at hn;have hK':=hK _ undef (by simp[updK]) (by rw[if_pos (by simp[updK])];exact hn) trivial;clear hK hx hn;rw[if_pos (by rfl)];go_simp;simpa[upd,d21,d22] using hK'
    case hdone=>
     intro L t w4 hx hg;have hlast:L 23=true:=by simpa using hg 23 (by decide)
     rw[if_pos hlast] at hx;clear hg hlast;have HX:=hid_ofS hx;clear hx;go_wp2;go_roundw
     case rel=>exact⟨k+1,by omega,by go_num,HX.out⟩
     case measure=>simp[intOf];omega
  ·obtain rfl:k=80:=by omega
   have H1:=hid_ofS hst.row;have H2:=hid_ofS hst.res;have H3:=hid_ofS hst.below;clear hst;go_wp2_with (first
    |(refine wpList_loadW rfl (.tmp 3) rfl Tryz.underlying213 Tryz.sizeSch (w.heap.size+1) (schA bs 80) rfl (schA_len _ _) H1.out ?_)
    |(refine wpList_storeW rfl (.tmp 2) (.tmp 40) rfl Tryz.sizeSch w.heap.size (schA bs 80) (List.replicate 80 0) rfl rfl (schA_len _ _) (by simp) H2.out ?_)
    |fail)
   intro w3 hr3 hw3;have HB3:=hdI <| H3.out.trans (hw3.below (Nat.le_refl _))
   have HR3:=hid_ofS hr3;clear hr3 hw3 H1 H2 H3;go_wp2;exact bodyPost_ret (v:=.agg ((schA bs 80).map (Value.int .u64)).toArray) (results_cell_row rfl _ _ w.heap.size 213 _ (0,0) _ rfl HR3.out Tryz.underlying213 rfl (by rw[Tryz.sizeSch];simp[schA_len])) rfl ⟨rfl,HB3.out⟩
structure FrG (g:Nat) (w w':World):Prop where
 os:w'.os=w.os
 tape:w'.tape=w.tape
 output:w'.output=w.output
 size:w.heap.size≤w'.heap.size
 block:∀ k,k<w.heap.size→k≠g→w'.heap[k]?=w.heap[k]?
theorem FrG.trans {g:Nat} {a b c:World} (h:FrG g a b) (k:FrG g b c):FrG g a c:=
 ⟨k.os.trans h.os,k.tape.trans h.tape,k.output.trans h.output,Nat.le_trans h.size k.size,fun i hi hg=>(k.block i (Nat.lt_of_lt_of_le hi h.size) hg).trans (h.block i hi hg)⟩
theorem Wr.frg {g:Nat} {w w':World} (h:Wr g w w'):FrG g w w':=⟨h.os,h.tape,h.output,by rw[h.size];exact Nat.le_refl _,fun k _ hg=>h.block k hg⟩
theorem frg_below {g:Nat} {w w':World} (h:Below w.heap.size w w'):FrG g w w':=⟨h.os,h.tape,h.output,h.size,fun k hk _=>h.block k hk⟩
theorem FrG.below {g B:Nat} {w w':World} (h:FrG g w w') (hB:B≤g) (hw:B≤w.heap.size):Below B w w':=⟨h.os,h.tape,h.output,h.size,fun k hk=>h.block k (by omega) (by omega)⟩
theorem FrG.row {g q:Nat} {w w':World} {e:TypeId} {zs:List Int} (h:FrG g w w') (hr:Row w q e zs) (hq:q≠g):Row w' q e zs:=by unfold Row;rw[h.block q hr.lt hq];exact hr
def rnd (v:List Int) (x:Int):List Int:=
 [IntKind.u64.wrap (rt1 (v.getD 0 0) (v.getD 1 0) (v.getD 2 0) (v.getD 3 0) (v.getD 4 0) (v.getD 5 0) (v.getD 6 0) (v.getD 7 0) x+rt2 (v.getD 0 0) (v.getD 1 0) (v.getD 2 0)),v.getD 0 0,v.getD 1 0,v.getD 2 0,
  IntKind.u64.wrap (v.getD 3 0+rt1 (v.getD 0 0) (v.getD 1 0) (v.getD 2 0) (v.getD 3 0) (v.getD 4 0) (v.getD 5 0) (v.getD 6 0) (v.getD 7 0) x),v.getD 4 0,v.getD 5 0,v.getD 6 0]
def W8 (v:List Int):Prop:=v.length=8∧∀ i,U64 (v.getD i 0)
theorem W8.eight {v:List Int} (h:W8 v):v=[v.getD 0 0,v.getD 1 0,v.getD 2 0,v.getD 3 0,v.getD 4 0,v.getD 5 0,v.getD 6 0,v.getD 7 0]:=by
 obtain⟨hl,_⟩:=h
 match v,hl with
 |[a,b,c,d,e,f,q,z],_=>rfl
theorem u64_zero:U64 0:=⟨by decide,by decide⟩
theorem w8_of {a b c d e f q z:Int} (ha:U64 a) (hb:U64 b) (hc:U64 c) (hd:U64 d) (he:U64 e) (hf:U64 f) (hq:U64 q) (hz:U64 z):W8 [a,b,c,d,e,f,q,z]:=
 ⟨rfl,fun i=>by
  match i with
  |0=>exact ha
  |1=>exact hb
  |2=>exact hc
  |3=>exact hd
  |4=>exact he
  |5=>exact hf
  |6=>exact hq
  |7=>exact hz
  |n+8=>exact u64_zero⟩
theorem rnd_w8 {v:List Int} (h:W8 v) (x:Int):W8 (rnd v x):=w8_of (u64_wrap _) (h.2 0) (h.2 1) (h.2 2) (u64_wrap _) (h.2 4) (h.2 5) (h.2 6)
theorem roundL_any (g:Nat) (ty:TypeId) (v:List Int) (x:Int) (w:World) (hr:RowW w g ty v) (hv:W8 v) (hx:U64 x) :
  Calls Tryz.prog 157 #[.pointer (some ⟨g,0,none⟩),.int .u64 x] w fun en w'=>en=.returned (.tuple #[])∧RowW w' g ty (rnd v x)∧Wr g w w':=by
 have e:=hv.eight;refine round_any g ty (v.getD 0 0) (v.getD 1 0) (v.getD 2 0) (v.getD 3 0) (v.getD 4 0) (v.getD 5 0) (v.getD 6 0) (v.getD 7 0) x w ?_ (hv.2 0) (hv.2 1) (hv.2 2) (hv.2 3) (hv.2 4) (hv.2 5) (hv.2 6) (hv.2 7) hx;have h2:=hr;unfold RowW at h2;rw[e] at h2;exact h2
def kt (t:Nat):Int:=((tab.getD t 0:Nat):Int)
theorem kt_u64 (t:Nat):U64 (kt t):=by
 unfold kt;rw[tab_get];have:=Nat.mod_lt (rts.getD t 0) (show 0<18446744073709551616 by decide);exact⟨by omega,by omega⟩
def rnds (hs bs:List Int):Nat→List Int
 |0=>hs
 |t+1=>rnd (rnds hs bs t) (IntKind.u64.wrap (kt t+wd bs t))
theorem rnds_w8 {hs:List Int} (h:W8 hs) (bs:List Int) (t:Nat):W8 (rnds hs bs t):=by
 induction t with
 |zero=>exact h
 |succ t ih=>exact rnd_w8 ih _
def mixA (hs vs:List Int) (k:Nat):List Int:=(List.range 8).map fun i=>if i<k then IntKind.u64.wrap (hs.getD i 0+vs.getD i 0) else hs.getD i 0
theorem mixA_len (hs vs:List Int) (k:Nat):(mixA hs vs k).length=8:=by simp[mixA]
theorem mixA_get (hs vs:List Int) (k i:Nat) (h:i<8):(mixA hs vs k).getD i 0=if i<k then IntKind.u64.wrap (hs.getD i 0+vs.getD i 0) else hs.getD i 0:=by unfold mixA;simp[List.getD,h]
theorem mixA_zero {hs:List Int} (h:W8 hs) (vs:List Int):mixA hs vs 0=hs:=by
 rw[h.eight];rfl
theorem mixA_set (hs vs:List Int) (k:Nat) (h:k<8):(mixA hs vs k).set k (IntKind.u64.wrap (hs.getD k 0+vs.getD k 0))=mixA hs vs (k+1):=by
 apply List.ext_getElem?;intro i;rw[List.getElem?_set];unfold mixA;by_cases h1:k=i
 ·subst h1;simp[h]
 ·rw[if_neg h1];by_cases h2:i<8
  ·have e:(i<k+1)=(i<k):=by apply propext;omega
   simp[h2,e]
  ·simp[h2]
def mixL (hs bs:List Int):List Int:=mixA hs (rnds hs bs 80) 8
theorem mixL_w8 (hs bs:List Int):W8 (mixL hs bs):=⟨mixA_len _ _ _,fun i=>by
 unfold mixL;by_cases h:i<8
 ·rw[mixA_get _ _ _ _ h,if_pos h];exact u64_wrap _
 ·rw[List.getD_eq_getElem?_getD,List.getElem?_eq_none (by rw[mixA_len];omega)];exact u64_zero⟩
theorem idx80 (w:World) (vs:List Int) (hl:vs.length=80) (k:Nat) (hk:k<80):(Instr.index 213 (.agg (vs.map (Value.int .u64)).toArray) (.int .i64 (k:Int))).run Tryz.prog w=.ok (.int .u64 (vs.getD k 0)) w:=by
 have h2:k<vs.length:=by omega
 simp[Instr.index,run_underlying Tryz.underlying213,asIntOf,part,go_sem,h2];omega
theorem idx8 (w:World) (vs:List Int) (hl:vs.length=8) (k:Nat) (hk:k<8):(Instr.index 175 (.agg (vs.map (Value.int .u64)).toArray) (.int .i64 (k:Int))).run Tryz.prog w=.ok (.int .u64 (vs.getD k 0)) w:=by
 have h2:k<vs.length:=by omega
 simp[Instr.index,run_underlying Tryz.underlying175,asIntOf,part,go_sem,h2];omega
theorem TabIn.frg {w w':World} (h:TabIn w) (hw:∀ k,k<w.heap.size→k=1→w'.heap[k]?=w.heap[k]?):TabIn w':=fun i hi=>by
 have hc:=h i hi;have hz:1<w.heap.size:=block_lt_of_cell (a:=⟨1,0,none⟩) (h 0 (by decide));rw[←hc];exact World.cell?_of_block (hw 1 hz rfl)
structure MX (w:World) (g gB:Nat) (hs vs bs:List Int) (y:World):Prop where
 tur:RowW y w.heap.size 175 vs
 wds:RowW y g 175 hs
 tab:TabIn y
 fr:FrG g w y
theorem MX.call {w:World} {g gB:Nat} {hs vs vs' bs:List Int} {y y':World} (h:MX w g gB hs vs bs y) (hg:g<w.heap.size) (h0:1<w.heap.size) (hr:RowW y' w.heap.size 175 vs') (hw:Wr w.heap.size y y'):MX w g gB hs vs' bs y':=
 ⟨hr,hw.rowW h.wds (by omega),h.tab.frg (fun k _ e=>hw.block k (by omega)),⟨hw.os.trans h.fr.os,hw.tape.trans h.fr.tape,hw.output.trans h.fr.output,by rw[hw.size];exact h.fr.size,fun k hk hkg=>(hw.block k (by omega)).trans (h.fr.block k hk hkg)⟩⟩
theorem MX.set {w:World} {g gB:Nat} {hs vs bs:List Int} {y:World} (h:MX w g gB hs vs bs y) (hg:g<w.heap.size) (h0:g≠1) (k:Nat) (x:Int):MX w g gB (hs.set k x) vs bs ((y.setCell ⟨g,k,none⟩ (.int .u64 x)).drew):=by
 have hw:Wr g y ((y.setCell ⟨g,k,none⟩ (.int .u64 x)).drew):=((Wr.refl _ _).setCell k _).drew;exact⟨hw.rowW h.tur (by omega),h.wds.set k x,h.tab.frg (fun k _ e=>hw.block k (by omega)),h.fr.trans hw.frg⟩
set_option maxRecDepth 100000 in
set_option maxHeartbeats 4000000 in
theorem mix_any (g gB:Nat) (hs bs:List Int) (w:World) (hr:RowW w g 175 hs) (hw8:W8 hs) (hb:Row w gB 178 bs) (hl:bs.length=128) (hz:Byte bs) (hT:TabIn w) (hg0:g≠1) :
  Calls Tryz.prog 133 #[.pointer (some ⟨g,0,none⟩),.pointer (some ⟨gB,0,none⟩)] w fun e w'=>e=.returned (.tuple #[])∧RowW w' g 175 (mixL hs bs)∧FrG g w w':=by
 have hgl:=hr.lt;have hbl:=hb.lt;have h0:=block_lt_of_cell (a:=⟨1,0,none⟩) (hT 0 (by decide));have H8:=hid_ofS hw8;have HU:=hid_ofS (fun t=>wd_u64 hz hl t);have HR:=hid_ofS hr;have HZN:Hid (RowW (w.alloc (.cells #[.int .u64 0,.int .u64 0,.int .u64 0,.int .u64 0,.int .u64 0,.int .u64 0,.int .u64 0,.int .u64 0] 175)) w.heap.size 175 [0,0,0,0,0,0,0,0]):=heap_alloc_new w _;have HAL:Hid (Below w.heap.size w (w.alloc (.cells #[.int .u64 0,.int .u64 0,.int .u64 0,.int .u64 0,.int .u64 0,.int .u64 0,.int .u64 0,.int .u64 0] 175))):=(Below.refl _ _).alloc (Nat.le_refl _) _;have HB:=hid_ofS (And.intro hb (And.intro hl hz));have HT:=hid_ofS hT;clear hr hw8 hb hl hz hT;go_enter Tryz.func133,Tryz.ntmps133;go_wp2_with (first
  |(refine wpList_loadW rfl (.tmp 10) rfl Tryz.underlying175 Tryz.sizeWds g hs rfl H8.out.1 HR.out ?_)
  |(refine wpList_storeW rfl (.tmp 4) (.tmp 11) rfl Tryz.sizeWds w.heap.size hs [0,0,0,0,0,0,0,0] rfl rfl H8.out.1 rfl HZN.out ?_)
  |fail)
 intro w1 hr1 hw1;have FR1:FrG g w w1:=⟨hw1.os.trans HAL.out.os,hw1.tape.trans HAL.out.tape,hw1.output.trans HAL.out.output,by rw[hw1.size];exact HAL.out.size,fun k hk _=>(hw1.block k (by omega)).trans (HAL.out.block k hk)⟩
 have HM:MX w g gB hs hs bs w1:=⟨hr1,hw1.rowW (HR.out.below HAL.out hgl) (by omega),(HT.out.frg (fun k hk _=>HAL.out.block k hk)).frg (fun k _ e=>hw1.block k (by omega)),FR1⟩
 have A:=hid_ofS (sched_any gB bs w1 (by unfold Row;rw[hw1.block gB (by omega),HAL.out.block gB hbl];exact HB.out.1) HB.out.2.1 HB.out.2.2);have HM1:=hid_ofS HM;clear HM FR1 hr1 hw1 HZN HAL HR HT HB;go_wp2_with fail;refine A.out.mono ?_;rintro e w2 ⟨rfl,b2⟩;have HM2:Hid (MX w g gB hs (rnds hs bs 0) bs w2):=⟨HM1.out.tur.below b2 HM1.out.tur.lt,HM1.out.wds.below b2 HM1.out.wds.lt,HM1.out.tab.frg (fun k hk _=>b2.block k hk),HM1.out.fr.trans (frg_below b2)⟩
 clear b2 HM1 A;have hix:=hid_ofS (fun w k hk=>idx80 w (schA bs 80) (schA_len _ _) k hk);obtain⟨AV,hAV⟩:∃ AV,AV=((schA bs 80).map (Value.int .u64)).toArray:=⟨_,rfl⟩
 rw[←hAV] at hix ⊢;clear hAV;go_wp2
 go_loopw [14] (fun i wr=>∃ k:Nat,k≤80∧i=.int .i64 k∧MX w g gB hs (rnds hs bs k) bs wr) (fun i _=>80-(intOf i).toNat)
 case atStart=>exact⟨0,by omega,rfl,HM2.out⟩
 case round=>
  clear HM2;obtain⟨k,hk,rfl,hm⟩:=hrel;by_cases hlt:k<80
  ·have hlt':(k:Int)<80:=by omega
   have hx:=fun w=>hix.out w k hlt
   rw[schA_get _ _ _ hlt,if_pos hlt] at hx;have hu:=HU.out k;have hc:=hm.tab k (by omega);have hku:=kt_u64 k;have HMk:=hid_ofS hm;have hkt:kt k=((tab.getD k 0:Nat):Int):=rfl;rw[←hkt] at hc;have A:=hid_ofS (roundL_any w.heap.size 175 (rnds hs bs k) (IntKind.u64.wrap (kt k+wd bs k)) wr hm.tur (rnds_w8 H8.out bs k) (u64_wrap _));have HN:Hid (rnds hs bs (k+1)=rnd (rnds hs bs k) (IntKind.u64.wrap (kt k+wd bs k))):=rfl;clear hm hkt;obtain⟨v,hv⟩:∃ v,v=wd bs k:=⟨_,rfl⟩
   obtain⟨c,hcc⟩:∃ c,c=kt k:=⟨_,rfl⟩
   rw[←hv] at hx hu A HN;rw[←hcc] at hc hku A HN;clear hv hcc;obtain⟨hu0,hu1⟩:=hu;obtain⟨hk0,hk1⟩:=hku;go_wp2_with fail;refine A.out.mono ?_;rintro e w3 ⟨rfl,r3,b3⟩;have HM3:Hid (MX w g gB hs (rnds hs bs (k+1)) bs w3):=by rw[HN.out];exact HMk.out.call hgl h0 r3 b3
   clear r3 b3 A HMk HN hc hx;go_wp2;go_roundw
   case rel=>exact⟨k+1,by omega,by go_num,HM3.out⟩
   case measure=>simp[intOf];omega
  ·obtain rfl:k=80:=by omega
   have hVS:=rnds_w8 H8.out bs 80;have HVL:=hid_ofS hVS;have HMF:Hid (mixL hs bs=mixA hs (rnds hs bs 80) 8):=rfl;obtain⟨vs,hvs⟩:∃ vs,vs=rnds hs bs 80:=⟨_,rfl⟩
   rw[←hvs] at hm HVL HMF;clear hVS hvs;have HM3:=hid_ofS hm;have HMZ:Hid (MX w g gB (mixA hs vs 0) vs bs wr):=by rw[mixA_zero H8.out];exact hm
   clear hm hix;go_wp2_with (first
    |(refine wpList_loadW rfl (.tmp 4) rfl Tryz.underlying175 Tryz.sizeWds w.heap.size vs rfl HVL.out.1 HM3.out.tur ?_)
    |fail)
   have hix:=hid_ofS (fun w k hk=>idx8 w vs HVL.out.1 k hk);obtain⟨BV,hBV⟩:∃ BV,BV=(vs.map (Value.int .u64)).toArray:=⟨_,rfl⟩
   rw[←hBV] at hix ⊢;clear hBV HM3;go_wp2
   go_loopw [26] (fun i wr=>∃ k:Nat,k≤8∧i=.int .i64 k∧MX w g gB (mixA hs vs k) vs bs wr) (fun i _=>8-(intOf i).toNat)
   case atStart=>exact⟨0,by omega,rfl,HMZ.out⟩
   case round=>
    rename_i wq _
    obtain⟨k,hk,rfl,hm⟩:=hrel;by_cases hlt:k<8
    ·have hlt':(k:Int)<8:=by omega
     have hx:=fun w=>hix.out w k hlt
     have hu:=HVL.out.2 k;have hh:=H8.out.2 k;have hc:=hm.wds.cell k (by rw[mixA_len];exact hlt);rw[mixA_get _ _ _ _ hlt,if_neg (by omega)] at hc;have hf:=hm.wds.frozen k;have hn:=hm.set hgl hg0 k (IntKind.u64.wrap (hs.getD k 0+vs.getD k 0));rw[mixA_set _ _ _ hlt] at hn;have HN:=hid_ofS hn;clear hn hm;obtain⟨v,hv⟩:∃ v,v=vs.getD k 0:=⟨_,rfl⟩
     obtain⟨c,hcc⟩:∃ c,c=hs.getD k 0:=⟨_,rfl⟩
     rw[←hv] at hx hu HN;rw[←hcc] at hc hh HN;clear hv hcc;obtain⟨hu0,hu1⟩:=hu;obtain⟨hh0,hh1⟩:=hh;go_wp2
     go_region
     go_wp2;go_roundw
     case rel=>exact⟨k+1,by omega,by go_num,HN.out⟩
     case measure=>simp[intOf];omega
    ·obtain rfl:k=8:=by omega
     have HN:=hid_ofS hm;clear hm;go_wp2
     go_end0
     rw[HMF.out];exact⟨rfl,HN.out.wds,HN.out.fr⟩
def blkOf (zs:List Int):List Int:=zs.take 128++List.replicate (128-zs.length) 0
theorem blkOf_len (zs:List Int):(blkOf zs).length=128:=by unfold blkOf;simp;omega
theorem blkOf_byte {zs:List Int} (h:Byte zs):Byte (blkOf zs):=fun z hz=>by
 unfold blkOf at hz;rcases List.mem_append.1 hz with h'|h'
 ·exact h z (List.mem_of_mem_take h')
 ·rw[(List.mem_replicate.1 h').2];exact⟨by decide,by decide⟩
theorem Tryz.sizeU8h:(Tryz.prog.info? 5).map (·.size)=some 1:=by kernel_rfl
theorem splice_blk (zs:List Int):splice ((List.replicate 128 (0:Int)).map (Value.int .u8)) 0 ((zs.take 128).map (Value.int .u8))=(blkOf zs).map (Value.int .u8):=by
 unfold splice blkOf;rw[List.take_zero,List.nil_append,List.map_append,←List.map_drop,List.drop_replicate,Nat.zero_add,List.length_map,List.length_take,show 128-min 128 zs.length=128-zs.length by omega]
theorem run_sliceAll (w:World) (g:Nat):(Instr.sliceAt 178 (.pointer (some ⟨g,0,none⟩)) none none none).run Tryz.prog w=.ok (.slice (some ⟨g,0,none⟩) 128 128) w:=by
 unfold Instr.sliceAt;simp[run_underlying Tryz.underlying178,go_sem,Instr.sliceBounds,Addr.add]
set_option maxRecDepth 100000 in
set_option maxHeartbeats 1000000 in
theorem blk_any (a:Option Addr) (n cap:Nat) (zs:List Int) (w:World) (hn:zs.length=n) (ha:At .u8 w a zs) (hm:n≤2097152) :
  Calls Tryz.prog 132 #[.slice a n cap] w fun e w'=>e=.returned (.agg ((blkOf zs).map (Value.int .u8)).toArray)∧Below w.heap.size w w':=by
 have z1:=zvBlk;have z2:=zsBlk;have z3:=znBlk;have hsl:=fun w=>run_sliceAll w
 obtain⟨w2,hw2⟩:∃ w2,w2=(w.alloc (.cells zBlk 178)).alloc (.cells zBlk 178):=⟨_,rfl⟩
 have HB:Hid (Below w.heap.size w w2):=by rw[hw2];exact((Below.refl _ _).alloc (Nat.le_refl _) _).alloc (by simp) _
 have HR0:Hid (Row w2 w.heap.size 178 (List.replicate 128 0)):=by show _=_;rw[hw2,heap_alloc2_old,zcBlk]
 have HR1:Hid (Row w2 (w.heap.size+1) 178 (List.replicate 128 0)):=by show _=_;rw[hw2,heap_alloc2_new,zcBlk]
 have HA:=hid_ofS ha;have HN:=hid_ofS hn;have HW:=hid_ofS hw2;obtain⟨zz,hzz⟩:∃ zz,zz=(List.replicate 128 (0:Int)).map (Value.int .u8):=⟨_,rfl⟩
 have HSP:Hid (splice zz 0 ((zs.take 128).map (Value.int .u8))=(blkOf zs).map (Value.int .u8)):=by show _=_;rw[hzz];exact splice_blk zs
 have HR1:Hid (w2.heap[w.heap.size+1]?=some (.cells zz.toArray 178 (0,0))):=by rw[hzz];exact HR1
 have HLn:Hid (((zs.take 128).map (Value.int .u8)).length=Nat.min n 128):=by show _=_;rw[List.length_map,List.length_take,hn];exact Nat.min_comm _ _
 have HLm:Hid (0+((zs.take 128).map (Value.int .u8)).length≤zz.length):=by show _≤_;rw[hzz,List.length_map,List.length_take,List.length_map,List.length_replicate];omega
 clear hzz;have HP:Hid (0<((zs.take 128).map (Value.int .u8)).length→some (⟨w.heap.size+1,0,none⟩:Addr)=some ⟨w.heap.size+1,0,none⟩∧∃ ad,a=some ad∧∀ j v,((zs.take 128).map (Value.int .u8))[j]?=some v→w2.cell? (ad.add j)=some v):=by
  intro hp;refine⟨rfl,?_⟩;rw[List.length_map,List.length_take] at hp;obtain⟨b,o,rfl,hb,hc⟩:=(HA.out.below HB.out).get (by omega);refine⟨_,rfl,fun j v hv=>?_⟩;have hj:j<128∧j<zs.length:=by have:=(List.getElem?_eq_some_iff.1 hv).1;rw[List.length_map,List.length_take] at this;omega
  rw[Addr.add_lit,hc j hj.2];rw[List.getElem?_map,List.getElem?_take_of_lt hj.1] at hv;simp[hj.2] at hv ⊢;exact hv
 clear ha hn hw2;go_enter Tryz.func132,Tryz.ntmps132
 go_upto_region 2 with fail
 rw[←HW.out];go_wp2_with (first
  |(refine wpList_copy_splice rfl (.tmp 4) (.tmp 5) 22 22 rfl 5 Tryz.underlying22 Tryz.sizeU8h (some ⟨w.heap.size+1,0,none⟩) a 128 128 n cap rfl rfl (w.heap.size+1) 0 zz 178 HR1.out ((zs.take 128).map (Value.int .u8)) HLn.out HP.out HLm.out (ints_oneCell _ _) (w.heap.size+1) w2 (Below.refl _ _) (Nat.le_refl _) ?_)
  |fail)
 rw[←List.map_take,HSP.out];intro w3 hr3 hb3;have HR3:=hdI <| hr3
 have HR03:=hdI <| HR0.out.below hb3 (by omega)
 have HB3:=hdI <| HB.out.trans (hb3.mono (by omega))
 have HL:=hid_ofS (blkOf_len zs);clear hr3 hb3 HR0 HR1 HB HA HN HW z1 z2 z3 hsl;go_wp2_with (first
  |(refine wpList_loadB rfl (.tmp 3) rfl Tryz.underlying178 Tryz.sizeBlk (w.heap.size+1) (blkOf zs) rfl HL.out HR3.out ?_)
  |(refine wpList_storeB rfl (.tmp 2) (.tmp 7) rfl Tryz.sizeBlk w.heap.size (blkOf zs) (List.replicate 128 0) rfl rfl HL.out (by simp) HR03.out ?_)
  |fail)
 intro w4 hr4 hw4;have HB4:=hdI <| HB3.out.trans (hw4.below (Nat.le_refl _))
 have HR4:=hid_ofS hr4;clear hr4 hw4;go_wp2;exact bodyPost_ret (v:=.agg ((blkOf zs).map (Value.int .u8)).toArray) (results_cell_row rfl _ _ w.heap.size 178 _ (0,0) _ rfl HR4.out Tryz.underlying178 rfl (by rw[Tryz.sizeBlk];simp[HL.out])) rfl ⟨rfl,HB4.out⟩
def ivL:List Int:=(List.range 8).map fun i=>kt (80+i)
theorem ivL_get (i:Nat) (h:i<8):ivL.getD i 0=kt (80+i):=by unfold ivL;simp[List.getD,h]
theorem ivL_w8:W8 ivL:=⟨by simp[ivL],fun i=>by
 by_cases h:i<8
 ·rw[ivL_get i h];exact kt_u64 _
 ·rw[List.getD_eq_getElem?_getD,List.getElem?_eq_none (by unfold ivL;simp;omega)];exact u64_zero⟩
def ivK (k:Nat):List Int:=(List.range 8).map fun i=>if i<k then kt (80+i) else 0
theorem ivK_len (k:Nat):(ivK k).length=8:=by simp[ivK]
theorem ivK_set (k:Nat) (h:k<8):(ivK k).set k (kt (80+k))=ivK (k+1):=by
 apply List.ext_getElem?;intro i;rw[List.getElem?_set];unfold ivK;by_cases h1:k=i
 ·subst h1;simp[h]
 ·rw[if_neg h1];by_cases h2:i<8
  ·have e:(i<k+1)=(i<k):=by apply propext;omega
   simp[h2,e]
  ·simp[h2]
theorem ivK_8:ivK 8=ivL:=by
 unfold ivK ivL;apply List.map_congr_left;intro i hi;rw[if_pos (List.mem_range.1 hi)]
structure IV (w:World) (k:Nat) (y:World):Prop where
 res:RowW y w.heap.size 175 [0,0,0,0,0,0,0,0]
 row:RowW y (w.heap.size+1) 175 (ivK k)
 below:Below w.heap.size w y
set_option maxHeartbeats 1000000 in
theorem first_any (w:World) (hT:TabIn w) (hz:1<w.heap.size) :
  Calls Tryz.prog 131 #[] w fun e w'=>e=.returned (.agg (ivL.map (Value.int .u64)).toArray)∧Below w.heap.size w w':=by
 have HT:=hid_ofS hT;have HS:Hid (IV w 0 ((w.alloc (.cells #[.int .u64 0,.int .u64 0,.int .u64 0,.int .u64 0,.int .u64 0,.int .u64 0,.int .u64 0,.int .u64 0] 175)).alloc (.cells #[.int .u64 0,.int .u64 0,.int .u64 0,.int .u64 0,.int .u64 0,.int .u64 0,.int .u64 0,.int .u64 0] 175))):=
  ⟨heap_alloc2_old _ _ _,heap_alloc2_new _ _ _,((Below.refl _ _).alloc (Nat.le_refl _) _).alloc (by simp) _⟩
 clear hT;go_enter Tryz.func131,Tryz.ntmps131;go_wp2
 go_loopw [3] (fun i wr=>∃ k:Nat,k≤8∧i=.int .i64 k∧IV w k wr) (fun i _=>8-(intOf i).toNat)
 case atStart=>exact⟨0,by omega,rfl,HS.out⟩
 case round=>
  clear HS;obtain⟨k,hk,rfl,hs⟩:=hrel;by_cases hlt:k<8
  ·have hlt':(k:Int)<8:=by omega
   have hc:wr.cell? ⟨1,80+k,none⟩=some (.int .u64 (kt (80+k))):=by
    rw[World.cell?_of_block (w:=w) (hs.below.block 1 hz)];exact HT.out (80+k) (by omega)
   have hc2:=hs.row.cell k (by rw[ivK_len];exact hlt);have hf:=hs.row.frozen k;have hN:Hid (IV w (k+1) (wr.setCell ⟨w.heap.size+1,k,none⟩ (.int .u64 (kt (80+k))))):=
    ⟨((Wr.refl _ _).setCell k _).rowW hs.res (by omega),by rw[←ivK_set k hlt];exact hs.row.set k _,hs.below.setCell (by simp) _⟩
   have he:((80:Int)+(k:Int)).toNat=80+k:=by omega
   clear hs;generalize kt (80+k)=c at *;go_wp2;go_roundw
   case rel=>exact⟨k+1,by omega,by go_num,hN.out⟩
   case measure=>simp[intOf];omega
  ·obtain rfl:k=8:=by omega
   have H1:=hid_ofS hs.row;rw[ivK_8] at H1;have H2:=hid_ofS hs.res;have H3:=hid_ofS hs.below;have HL:=hid_ofS ivL_w8.1;clear hs;go_wp2_with (first
    |(refine wpList_loadW rfl (.tmp 1) rfl Tryz.underlying175 Tryz.sizeWds (w.heap.size+1) ivL rfl HL.out H1.out ?_)
    |(refine wpList_storeW rfl (.tmp 0) (.tmp 13) rfl Tryz.sizeWds w.heap.size ivL [0,0,0,0,0,0,0,0] rfl rfl HL.out rfl H2.out ?_)
    |fail)
   intro w3 hr3 hw3;have HB3:=hdI <| H3.out.trans (hw3.below (Nat.le_refl _))
   have HR3:=hid_ofS hr3;clear hr3 hw3 H1 H2 H3;go_wp2;exact bodyPost_ret (v:=.agg (ivL.map (Value.int .u64)).toArray) (results_cell_row rfl _ _ w.heap.size 175 _ (0,0) _ rfl HR3.out Tryz.underlying175 rfl (by rw[Tryz.sizeWds];simp[HL.out])) rfl ⟨rfl,HB3.out⟩
def txtW (hs:List Int):List Int:=hs.flatMap by8
theorem txtW_snoc (hs:List Int) (k:Nat) (h:k<hs.length):txtW (hs.take (k+1))=txtW (hs.take k)++by8 (hs.getD k 0):=by
 unfold txtW;rw[take_snocI hs k h,List.flatMap_append];simp
theorem by8_take (v:Int) (i:Nat) (h:i<8):(by8 v).take (i+1)=(by8 v).take i++[v/2^(56-8*i)%256]:=by
 rw[take_snocI _ _ (by rw[by8_len];exact h),by8_get v i h]
theorem txtW_len (hs:List Int):(txtW hs).length=8*hs.length:=by
 unfold txtW
 induction hs with
 |nil=>rfl
 |cons a l ih=>rw[List.flatMap_cons,List.length_append,by8_len,ih,List.length_cons];omega
theorem txtW_byte (hs:List Int):Byte (txtW hs):=fun z hz=>by
 unfold txtW at hz;obtain⟨v,_,h⟩:=List.mem_flatMap.1 hz;exact by8_byte v z h
set_option maxRecDepth 100000 in
set_option maxHeartbeats 2000000 in
theorem textI_any (g:Nat) (hs:List Int) (w:World) (hr:RowW w g 175 hs) (h8:W8 hs) :
  Calls Tryz.prog 135 #[.pointer (some ⟨g,0,none⟩)] w fun e w'=>∃ v,e=.returned v∧Own w' w.heap.size v (txtW hs)∧Below w.heap.size w w':=by
 have hgl:=hr.lt;have HR:=hid_ofS hr;have H8:=hid_ofS h8;clear hr h8;obtain⟨i0,hi,hz0,hz1,hz2⟩:=info_parts Tryz.infoU8';have HI:=hid_ofS (And.intro hi (And.intro hz0 (And.intro hz1 hz2)));clear hi hz0 hz1 hz2;go_enter Tryz.func135,Tryz.ntmps135;go_wp2_with (refine wpList_make_own _ rfl _ _ 22 rfl w.heap.size 5 i0 (.int .u8 0) 1 Tryz.underlying22 HI.out.1 HI.out.2.1 HI.out.2.2.1 .i64 .i64 64 64 rfl rfl rfl (by rw[HI.out.2.2.2];decide) (by decide) (Nat.le_refl _) ?_);intro w1 o1 b1;have HO1:Hid (Own w1 w.heap.size (.slice (some ⟨w.heap.size,0,none⟩) 0 64) (txtW (hs.take 0))):=⟨o1,_,_,rfl⟩
 have HB1:=hdI <| (Below.refl _ _).grown b1 (Nat.le_refl _) (fun k hk=>by cases hk)
 clear o1 b1;go_wp2
 go_loopw [3,9] (fun v i wr=>∃ k:Nat,k≤8∧i=.int .i64 k∧Own wr w.heap.size v (txtW (hs.take k))∧Below w.heap.size w wr) (fun _ i _=>8-(intOf i).toNat)
 case atStart=>exact⟨0,by omega,rfl,HO1.out,HB1.out⟩
 case round=>
  clear HO1 HB1;obtain⟨k,hk,rfl,hown,hbel⟩:=hrel;by_cases hlt:k<8
  ·have hlt':(k:Int)<8:=by omega
   have hc:=(HR.out.below hbel hgl).cell k (by rw[H8.out.1];exact hlt);have hu:=H8.out.2 k;have HSN:=hid_ofS (txtW_snoc hs k (by rw[H8.out.1];exact hlt));have HPL:=hid_ofS (txtW_len (hs.take k));rw[List.length_take,H8.out.1] at HPL;have HO:=hid_ofS hown;have HB:=hid_ofS hbel;clear hown hbel;obtain⟨x,hx⟩:∃ x,x=hs.getD k 0:=⟨_,rfl⟩
   rw[←hx] at hc hu HSN;clear hx;obtain⟨p,hp⟩:∃ p,p=txtW (hs.take k):=⟨_,rfl⟩
   rw[←hp] at HO HSN HPL;clear hp;obtain⟨hu0,hu1⟩:=hu;have hlp:p.length≤64:=by have:=HPL.out;omega
   go_wp2
   go_loopw [3,14] (fun v i wr=>∃ j:Nat,j≤8∧i=.int .i64 j∧Own wr w.heap.size v (p++(by8 x).take j)∧Below w.heap.size w wr) (fun _ i _=>8-(intOf i).toNat)
   case atStart=>exact⟨0,by omega,rfl,by simpa using HO.out,HB.out⟩
   case round=>
    clear HO HB hc;obtain⟨j,hj,rfl,hown,hbel⟩:=hrel;by_cases hlj:j<8
    ·have hlj':(j:Int)<8:=by omega
     have hsz:=hbel.size;have HE:=hid_ofS (by8_take x j hlj);have HLJ:Hid ((p++(by8 x).take j).length+1≤1099511627776):=by show _≤_;rw[List.length_append,List.length_take,by8_len];omega
     have HO:=hid_ofS hown;have HB:=hid_ofS hbel;clear hown hbel;go_wp2_with (at_builtin;refine wpList_app _ rfl _ _ rfl w.heap.size _ _ rfl (HO.out.alloc _) ⟨wr.heap.size,0,none⟩ 1 1 [x/2^(56-8*j)%256] rfl rfl ?c1 HLJ.out ?c3 ?_);all_goals first|(intro j' hj';obtain rfl:j'=0:=by omega
                                                                                                                                                                                                                                                        simp[Addr.add];done)|skip
     case c3=>rw[World.size_alloc];omega
     intro v' w2 hown' hbel' _;have HO2:Hid (Own w2 w.heap.size v' (p++(by8 x).take (j+1))):=by rw[HE.out];exact hown'
     have HB2:=hdI <| (HB.out.alloc hsz _).trans hbel'
     clear hown' hbel' HO HB HE HLJ;go_wp2;go_roundw
     case rel=>exact⟨j+1,by omega,by go_num,HO2.out,HB2.out⟩
     case measure=>simp[intOf];omega
    ·obtain rfl:j=8:=by omega
     rw[List.take_of_length_le (by rw[by8_len];exact Nat.le_refl _),←HSN.out] at hown;have HOW:=hid_ofS hown;have HBE:=hid_ofS hbel;clear hown hbel;go_wp2;go_roundw
     case rel=>exact⟨k+1,by omega,by go_num,HOW.out,HBE.out⟩
     case measure=>simp[intOf];omega
  ·obtain rfl:k=8:=by omega
   have HOW:=hid_ofS hown;rw[List.take_of_length_le (by rw[H8.out.1];exact Nat.le_refl _)] at HOW;have HBE:=hid_ofS hbel;clear hown hbel;go_wp2
   go_ret
   exact⟨_,rfl,HOW.out,HBE.out⟩
set_option maxHeartbeats 1000000 in
theorem bytesS_any (x:Int) (w:World) (hx:U64 x) :
  Calls Tryz.prog 100 #[.int .u64 x] w fun e w'=>∃ v,e=.returned v∧Own w' w.heap.size v (by8 x)∧Below w.heap.size w w':=by
 obtain⟨hx0,hx1⟩:=hx;go_enter Tryz.func100,Tryz.ntmps100;go_wp2
 go_loopw [3,4] (fun v i wr=>∃ j:Nat,j≤8∧i=.int .i64 (56-8*(j:Int))∧Own wr w.heap.size v ((by8 x).take j)∧Below w.heap.size w wr) (fun _ i _=>(intOf i+8).toNat)
 case atStart=>exact⟨0,by omega,rfl,Own.empty _ _ (Nat.le_refl _),(Below.refl _ _).alloc (Nat.le_refl _) _⟩
 case round=>
  obtain⟨j,hj,rfl,hown,hbel⟩:=hrel;by_cases hlj:j<8
  ·have hlj':(0:Int)≤56-8*(j:Int):=by omega
   have hsz:=hbel.size;have HE:=hid_ofS (by8_take x j hlj);have HLJ:Hid (((by8 x).take j).length+1≤1099511627776):=by show _≤_;rw[List.length_take,by8_len];omega
   have HO:=hid_ofS hown;have HB:=hid_ofS hbel;clear hown hbel;go_wp2_with (at_builtin;refine wpList_app _ rfl _ _ rfl w.heap.size _ _ rfl (HO.out.alloc _) ⟨wr.heap.size,0,none⟩ 1 1 [x/2^(56-8*j)%256] rfl rfl ?c1 HLJ.out ?c3 ?_);all_goals first|(intro j' hj';obtain rfl:j'=0:=by omega
                                                                                                                                                                                                                                                      simp[Addr.add];done)|skip
   case c3=>rw[World.size_alloc];omega
   intro v' w2 hown' hbel' _;have HO2:Hid (Own w2 w.heap.size v' ((by8 x).take (j+1))):=by rw[HE.out];exact hown'
   have HB2:=hdI <| (HB.out.alloc hsz _).trans hbel'
   clear hown' hbel' HO HB HE HLJ;go_wp2;go_roundw
   case rel=>exact⟨j+1,by omega,by go_num,HO2.out,HB2.out⟩
   case measure=>simp[intOf];omega
  ·obtain rfl:j=8:=by omega
   have HOW:=hid_ofS hown;rw[List.take_of_length_le (by rw[by8_len];exact Nat.le_refl _)] at HOW;have HBE:=hid_ofS hbel;clear hown hbel;go_wp2
   go_ret
   exact⟨_,rfl,HOW.out,HBE.out⟩
def lenOf:Value→Nat
 |.slice _ n _=>n
 |_=>0
def padZ (n:Nat):Nat:=(239-n%128)%128
theorem padZ_spec (n:Nat):(n+1+padZ n)%128=112∧padZ n<128:=by unfold padZ;omega
theorem padZ_min (n j:Nat) (h:j<padZ n):(n+1+j)%128≠112:=by unfold padZ at h;omega
def padL (zs:List Int):List Int:=zs++[128]++List.replicate (padZ zs.length) 0++List.replicate 8 0++by8 (8*(zs.length:Int))
theorem own_grow {w w':World} {B:Nat} {v:Value} {zs:List Int} (h:Own w B v zs) (hb:Below w.heap.size w w'):Own w' B v zs:=by
 refine⟨⟨h.1.1,?_⟩,h.2⟩;rcases h.1.2 with h'|⟨g,c,cur,h1,h2,h3,h4⟩
 ·exact .inl h'
 ·exact .inr ⟨g,c,cur,h1,h2,by rw[hb.block g (Array.getElem?_eq_some_iff.1 h3).1];exact h3,h4⟩
set_option maxRecDepth 100000 in
set_option maxHeartbeats 2000000 in
theorem padS_any (b off cap n:Nat) (zs:List Int) (w:World) (hn:zs.length=n) (hb:b<w.heap.size) (hc:∀ i,i<zs.length→w.cell? ⟨b,off+i,none⟩=some (.int .u8 (zs.getD i 0))) (hm:n≤2097152) :
  Calls Tryz.prog 98 #[.slice (some ⟨b,off,none⟩) n cap] w fun e w'=>∃ v,e=.returned v∧Own w' w.heap.size v (padL zs)∧Below w.heap.size w w':=by
 have HC:=hid_ofS hc;have HN:=hid_ofS hn;have HE0:=hid_ofS (Own.empty w w.heap.size (Nat.le_refl _));have HAL:Hid (Below w.heap.size w (w.alloc (.cells #[] 5))):=(Below.refl _ _).alloc (Nat.le_refl _) _;clear hc hn;go_enter Tryz.func98,Tryz.ntmps98;go_wp2_with (at_builtin;refine wpList_app _ rfl _ _ rfl w.heap.size _ [] rfl HE0.out ⟨b,off,none⟩ n cap zs rfl HN.out ?c1 (by simp;omega) (by simp) ?_)
 case c1=>
  intro j hj;rw[Addr.add_lit,HAL.out.cell (p:=⟨b,off+j,none⟩) hb];exact HC.out j (by rw[HN.out];exact hj)
 intro v1 w1 o1 b1 _;have HO1:=hdI <| o1
 have HB1:=hdI <| HAL.out.trans b1
 clear o1 b1 HE0 HAL;have HLN:Hid (zs.length+1≤1099511627776):=by show _≤_;rw[HN.out];omega
 have hs1:=HB1.out.size;go_wp2_with (at_builtin;refine wpList_app _ rfl _ _ rfl w.heap.size _ _ rfl (HO1.out.alloc _) ⟨w1.heap.size,0,none⟩ 1 1 [128] rfl rfl ?c1 HLN.out ?c3 ?_);all_goals first|(intro j' hj';obtain rfl:j'=0:=by omega
                                                                                                                                                                                                   simp[Addr.add];done)|skip
 case c3=>rw[World.size_alloc];omega
 intro v2 w2 o2 b2 _;have HO2:Hid (Own w2 w.heap.size v2 (zs++[128]++List.replicate 0 0)):=by show Own _ _ _ _;simpa using o2
 have HB2:=hdI <| (HB1.out.alloc hs1 _).trans b2
 clear o2 b2 HO1 HB1 HLN hs1;go_wp2
 go_loopw [3] (fun v wr=>∃ j:Nat,j≤padZ n∧Own wr w.heap.size v (zs++[128]++List.replicate j 0)∧Below w.heap.size w wr) (fun v _=>n+200-lenOf v)
 case atStart=>exact⟨0,Nat.zero_le _,HO2.out,HB2.out⟩
 case round=>
  clear HO2 HB2;obtain⟨j,hj,hown,hbel⟩:=hrel;have hsz:=hbel.size;obtain⟨g,c,rfl,hg1,hg2,hg3⟩:=hown.base;have HO:=hid_ofS hown;have HB:=hid_ofS hbel;have hps:=padZ_spec n;have hll:(zs++[128]++List.replicate j 0).length=n+1+j:=by simp[HN.out];omega
  rw[hll] at HO hg3 ⊢;have HLL:=hid_ofS hll;clear hown hbel hll;obtain⟨L,hL⟩:∃ L,L=n+1+j:=⟨_,rfl⟩
  rw[←hL] at HO hg3 HLL ⊢;have hLb:L≤2097700:=by omega
  by_cases hlt:j<padZ n
  ·have hne:=padZ_min n j hlt;have hne':¬ ((L:Int)%128=112):=by omega
   have HJ:Hid (j+1≤padZ n):=by show _≤_;omega
   have HLm:Hid (L<n+200):=by show _<_;omega
   clear hne hL hps hj hlt;have HLJ:Hid ((zs++[128]++List.replicate j 0).length+1≤1099511627776):=by show _≤_;rw[HLL.out];omega
   have hO:=HO.out;obtain⟨ys,hys⟩:∃ ys,ys=zs++[128]++List.replicate j 0:=⟨_,rfl⟩
   rw[←hys] at HO HLL HLJ;clear hO;have HYS:Hid (zs++[128]++List.replicate (j+1) 0=ys++[0]):=by show _=_;rw[hys,List.replicate_succ'];simp
   clear hys;go_wp2_with (at_builtin;refine wpList_app _ rfl _ _ rfl w.heap.size _ _ rfl (HO.out.alloc _) ⟨wr.heap.size,0,none⟩ 1 1 [0] rfl rfl ?d1 HLJ.out ?d3 ?_);all_goals first|(intro j' hj';obtain rfl:j'=0:=by omega
                                                                                                                                                                                     simp[Addr.add];done)|skip
   case d3=>rw[World.size_alloc];omega
   intro v2 w2 o2 b2 _;obtain⟨g',c2,e2,_,_,_⟩:=o2.base;have HO2:Hid (Own w2 w.heap.size v2 (zs++[128]++List.replicate (j+1) 0)):=by rw[HYS.out];exact o2
   have HB2:=hdI <| (HB.out.alloc hsz _).trans b2
   have HV2:Hid (lenOf v2=L+1):=by rw[e2];show _=_;simp[lenOf,HLL.out]
   clear o2 b2 HO HB HLJ HYS e2;go_wp2;go_roundw
   case rel=>exact⟨j+1,HJ.out,HO2.out,HB2.out⟩
   case measure=>
    have h1:=HV2.out;have h2:=HLm.out;have h3:lenOf (.slice (some ⟨g,0,none⟩) L c)=L:=rfl
    first|(rw[h3,h1];omega)|(simp[lenOf,h1] at *;omega)
  ·obtain rfl:j=padZ n:=by omega
   have hne':((L:Int)%128=112):=by omega
   have HLJ:Hid ((zs++[128]++List.replicate (padZ n) 0).length+8≤1099511627776):=by show _≤_;rw[HLL.out];omega
   clear hL hps hj hlt;obtain⟨ys,hys⟩:∃ ys,ys=zs++[128]++List.replicate (padZ n) 0:=⟨_,rfl⟩
   rw[←hys] at HO HLL HLJ;have HYS:Hid (padL zs=ys++[0,0,0,0,0,0,0,0]++by8 (8*(n:Int))):=by show _=_;rw[hys];unfold padL;rw[HN.out];rfl
   clear hys;go_wp2_with (at_builtin;refine wpList_app _ rfl _ _ rfl w.heap.size _ _ rfl (HO.out.alloc _) ⟨wr.heap.size,0,none⟩ 8 8 [0,0,0,0,0,0,0,0] rfl rfl ?e1 HLJ.out ?e3 ?_)
   case e1=>
    intro j' hj';have:j'=0∨j'=1∨j'=2∨j'=3∨j'=4∨j'=5∨j'=6∨j'=7:=by omega
    rcases this with rfl|rfl|rfl|rfl|rfl|rfl|rfl|rfl<;>simp[Addr.add]
   case e3=>rw[World.size_alloc];omega
   intro v2 w2 o2 b2 _;have HO2:=hid_ofS o2;have HB2:=hdI <| (HB.out.alloc hsz _).trans b2
   clear o2 b2 HO HB HLJ;have e8:(8:Int)*(n:Int)<18446744073709551616:=by omega
   have A:=hid_ofS (bytesS_any (8*(n:Int)) w2 ⟨by omega,by omega⟩);go_wp2_with fail;refine A.out.mono ?_;rintro e w3 ⟨v3,rfl,o3,b3⟩;obtain⟨g3,c3,rfl,_,hg3',hc3⟩:=o3.base;have HO3:Hid (Own w3 w.heap.size v2 (ys++[0,0,0,0,0,0,0,0])):=by
    obtain⟨hh,g2,c2,e2⟩:=HO2.out;exact own_grow ⟨hh,g2,c2,e2⟩ b3
   have HB3:=hdI <| HB2.out.trans (b3.mono HB2.out.size)
   have HP3:=hid_ofS o3.part;have HLY:Hid ((ys++[0,0,0,0,0,0,0,0]).length+8≤1099511627776):=by show _≤_;rw[List.length_append,HLL.out];simp;omega
   have hsz3:=HB3.out.size;rw[by8_len] at hc3 ⊢;clear o3 b3 A HO2 HB2;go_wp2_with (at_builtin;refine wpList_app _ rfl _ _ rfl w.heap.size _ _ rfl HO3.out ⟨g3,0,none⟩ 8 c3 (by8 (8*(n:Int))) rfl (by8_len _) ?f1 HLY.out ?f3 ?_)
   case f1=>
    intro j' hj';obtain⟨b',o',c',e',_,hcc⟩:=HP3.out;cases e';rw[Addr.add_lit];exact hcc j' (by rw[by8_len];exact hj')
   case f3=>exact hsz3
   intro v4 w4 o4 b4 _;have HO4:Hid (Own w4 w.heap.size v4 (padL zs)):=by rw[HYS.out,List.append_assoc];exact o4
   have HB4:Hid (Below w.heap.size w w4):=HB3.out.trans b4;clear o4 b4 HO3 HB3 HP3;go_wp2
   go_ret
   exact⟨_,rfl,HO4.out,HB4.out⟩
theorem run_sliceB (w:World) (b o c t:Nat) (ht:t<16) (hc:128≤c):(Instr.sliceAt 22 (.slice (some ⟨b,o,none⟩) 128 c) (some (.int .i64 (8*(t:Int)))) (some (.int .i64 (8*(t:Int)+8))) none).run Tryz.prog w=.ok (.slice (some ⟨b,o+8*t,none⟩) 8 (c-8*t)) w:=by
 have h2:(8*(t:Int)+8)≤(c:Int):=by omega
 have h3:(8*(t:Int)+8).toNat=8*t+8:=by omega
 have h4:¬ (c=8*t):=by omega
 have h5:(8*(t:Int)).toNat=8*t:=by omega
 have h6:(0:Int)≤8*(t:Int):=by omega
 have h7:(0:Int)≤8*(t:Int)+8:=by omega
 unfold Instr.sliceAt;simp[run_underlying Tryz.underlying22,go_sem,Instr.sliceBounds,h2,h3,h4,h5,h6,h7,Addr.add];rw[if_pos (by omega)];by_cases h0:t=0
 ·subst h0;simp
 ·rw[if_neg (by omega)]
structure BK (w:World) (bh oh bb ob bk:Nat) (hs bs:List Int):Prop where
 h:bh<w.heap.size∧∀ i,i<8→w.cell? ⟨bh,oh+i,none⟩=some (.int .u64 (hs.getD i 0))
 b:bb<w.heap.size∧∀ i,i<128→w.cell? ⟨bb,ob+i,none⟩=some (.int .u8 (bs.getD i 0))
 k:bk<w.heap.size∧∀ i,i<88→w.cell? ⟨bk,i,none⟩=some (.int .u64 (kt i))
theorem BK.below {w w':World} {bh oh bb ob bk:Nat} {hs bs:List Int} (h:BK w bh oh bb ob bk hs bs) (hb:Below w.heap.size w w'):BK w' bh oh bb ob bk hs bs:=by
 have:=hb.size;exact⟨⟨by have:=h.h.1;omega,fun i hi=>by rw[World.cell?_of_block (w:=w) (hb.block bh h.h.1)];exact h.h.2 i hi⟩,⟨by have:=h.b.1;omega,fun i hi=>by rw[World.cell?_of_block (w:=w) (hb.block bb h.b.1)];exact h.b.2 i hi⟩,⟨by have:=h.k.1;omega,fun i hi=>by rw[World.cell?_of_block (w:=w) (hb.block bk h.k.1)];exact h.k.2 i hi⟩⟩
theorem rs1 (x:Int) (w:World) (hx:U64 x):Calls Tryz.prog 120 #[.int .u64 x,.int .u64 1] w fun e w'=>e=.returned (.int .u64 (rtr 1 x))∧w'=w:=rotS_any x 1 w (by decide) hx
theorem rs8 (x:Int) (w:World) (hx:U64 x):Calls Tryz.prog 120 #[.int .u64 x,.int .u64 8] w fun e w'=>e=.returned (.int .u64 (rtr 8 x))∧w'=w:=rotS_any x 8 w (by decide) hx
theorem rs19 (x:Int) (w:World) (hx:U64 x):Calls Tryz.prog 120 #[.int .u64 x,.int .u64 19] w fun e w'=>e=.returned (.int .u64 (rtr 19 x))∧w'=w:=rotS_any x 19 w (by decide) hx
theorem rs61 (x:Int) (w:World) (hx:U64 x):Calls Tryz.prog 120 #[.int .u64 x,.int .u64 61] w fun e w'=>e=.returned (.int .u64 (rtr 61 x))∧w'=w:=rotS_any x 61 w (by decide) hx
theorem rs28 (x:Int) (w:World) (hx:U64 x):Calls Tryz.prog 120 #[.int .u64 x,.int .u64 28] w fun e w'=>e=.returned (.int .u64 (rtr 28 x))∧w'=w:=rotS_any x 28 w (by decide) hx
theorem rs34 (x:Int) (w:World) (hx:U64 x):Calls Tryz.prog 120 #[.int .u64 x,.int .u64 34] w fun e w'=>e=.returned (.int .u64 (rtr 34 x))∧w'=w:=rotS_any x 34 w (by decide) hx
theorem rs39 (x:Int) (w:World) (hx:U64 x):Calls Tryz.prog 120 #[.int .u64 x,.int .u64 39] w fun e w'=>e=.returned (.int .u64 (rtr 39 x))∧w'=w:=rotS_any x 39 w (by decide) hx
theorem rs14 (x:Int) (w:World) (hx:U64 x):Calls Tryz.prog 120 #[.int .u64 x,.int .u64 14] w fun e w'=>e=.returned (.int .u64 (rtr 14 x))∧w'=w:=rotS_any x 14 w (by decide) hx
theorem rs18 (x:Int) (w:World) (hx:U64 x):Calls Tryz.prog 120 #[.int .u64 x,.int .u64 18] w fun e w'=>e=.returned (.int .u64 (rtr 18 x))∧w'=w:=rotS_any x 18 w (by decide) hx
theorem rs41 (x:Int) (w:World) (hx:U64 x):Calls Tryz.prog 120 #[.int .u64 x,.int .u64 41] w fun e w'=>e=.returned (.int .u64 (rtr 41 x))∧w'=w:=rotS_any x 41 w (by decide) hx
def ClG (tb:List (Nat×Nat)) (L:Nat→Bool):Prop:=∀ p,p∈tb→L p.1=true→L p.2=true
theorem updK_neO (L:Nat→Bool) {i j:Nat} (h:j≠i):updK L i j=L j:=by unfold updK;rw[if_neg h]
theorem updK_self (L:Nat→Bool) (i:Nat):updK L i i=true:=by unfold updK;rw[if_pos rfl]
theorem upd_ne (u:Nat→Value) {i j:Nat} (v:Value) (h:j≠i):upd u i v j=u j:=by unfold upd;rw[if_neg h]
theorem upd_self (u:Nat→Value) (i:Nat) (v:Value):upd u i v i=v:=by unfold upd;rw[if_pos rfl]
theorem ClG.step {tb:List (Nat×Nat)} {L:Nat→Bool} (h:ClG tb L) (i:Nat) (hd:∀ p,p∈tb→p.1=i→L p.2=true):ClG tb (updK L i):=by
 intro p hp h1;have hu:∀ k,L k=true→updK L i k=true:=fun k hk=>by unfold updK;split<;>simp[hk]
 by_cases e:p.1=i
 ·exact hu _ (hd p hp e)
 ·rw[updK_neO L e] at h1;exact hu _ (h p hp h1)
theorem ClG.back {tb:List (Nat×Nat)} {L:Nat→Bool} (h:ClG tb L) {a b:Nat} (hp:(a,b)∈tb) (hb:L b=false):L a=false:=by
 cases ha:L a with
 |false=>rfl
 |true=>have:=h _ hp ha;rw[hb] at this;cases this
theorem ClG.none {tb:List (Nat×Nat)} {L:Nat→Bool} (h:∀ i,L i=false):ClG tb L:=fun p _ h1=>by rw[h] at h1;cases h1
structure AC (tb:List (Nat×Nat)) (b a s:Nat) (V0:Value) (W0 W1:World) (Fin:World→Value→Prop) (L:Nat→Bool) (u:Nat→Value) (w':World):Prop where
 cl:ClG tb L
 old:L s=false→u s=V0
 new:L s=true→u s=u a
 ph:(L a=true∧Fin w' (u a))∨(L a=false∧L b=true∧w'=W1)∨(L a=false∧L b=false∧w'=W0)
section
variable {tb:List (Nat×Nat)} {b a s:Nat} {V0:Value} {W0 W1:World} {Fin:World→Value→Prop} {L:Nat→Bool} {u:Nat→Value} {w':World}
theorem AC.start (h:∀ i,L i=false) (hu:u s=V0):AC tb b a s V0 W0 W1 Fin L u W0:=
 ⟨ClG.none h,fun _=>hu,fun h'=>(by rw[h] at h';cases h'),.inr (.inr ⟨h _,h _,rfl⟩)⟩
theorem AC.pure (h:AC tb b a s V0 W0 W1 Fin L u w') (i:Nat) (v:Value) (hb:b≠i) (ha:a≠i) (hs:s≠i) (hd:∀ p,p∈tb→p.1=i→L p.2=true):AC tb b a s V0 W0 W1 Fin (updK L i) (upd u i v) w':=
 ⟨h.cl.step i hd,by rw[updK_neO L hs,upd_ne u v hs];exact h.old,by rw[updK_neO L hs,upd_ne u v hs,upd_ne u v ha];exact h.new,by rw[updK_neO L ha,updK_neO L hb,upd_ne u v ha];exact h.ph⟩
theorem AC.world (h:AC tb b a s V0 W0 W1 Fin L u w') (hb:L b=false) (hp:(a,b)∈tb):w'=W0:=by
 have ha:=h.cl.back hp hb;rcases h.ph with⟨h1,_⟩|⟨_,h1,_⟩|⟨_,_,h1⟩
 ·rw[ha] at h1;cases h1
 ·rw[hb] at h1;cases h1
 ·exact h1
theorem AC.build (h:AC tb b a s V0 W0 W1 Fin L u w') (v:Value) (hLb:L b=false) (hp:(a,b)∈tb) (ha:a≠b) (hs:s≠b) (hd:∀ p,p∈tb→p.1=b→L p.2=true):AC tb b a s V0 W0 W1 Fin (updK L b) (upd u b v) W1:=
 ⟨h.cl.step b hd,by rw[updK_neO L hs,upd_ne u v hs];exact h.old,by rw[updK_neO L hs,upd_ne u v hs,upd_ne u v ha];exact h.new,.inr (.inl ⟨by rw[updK_neO L ha];exact h.cl.back hp hLb,updK_self L b,rfl⟩)⟩
theorem AC.mid (h:AC tb b a s V0 W0 W1 Fin L u w') (hb:L b=true) (ha:L a=false):w'=W1:=by
 rcases h.ph with⟨h1,_⟩|⟨_,_,h1⟩|⟨_,h1,_⟩
 ·rw[ha] at h1;cases h1
 ·exact h1
 ·rw[hb] at h1;cases h1
theorem AC.app (h:AC tb b a s V0 W0 W1 Fin L u w') {v:Value} {w9:World} (hF:Fin w9 v) (hLa:L a=false) (hp:(s,a)∈tb) (hs:s≠a) (hd:∀ p,p∈tb→p.1=a→L p.2=true):AC tb b a s V0 W0 W1 Fin (updK L a) (upd u a v) w9:=
 have hls:=h.cl.back hp hLa
 ⟨h.cl.step a hd,by rw[updK_neO L hs,upd_ne u v hs];exact h.old,fun h'=>(by rw[updK_neO L hs,hls] at h';cases h'),.inl ⟨updK_self L a,by rw[upd_self];exact hF⟩⟩
theorem AC.asg (h:AC tb b a s V0 W0 W1 Fin L u w') (ha:a≠s) (hb:b≠s) (hd:∀ p,p∈tb→p.1=s→L p.2=true):AC tb b a s V0 W0 W1 Fin (updK L s) (upd u s (u a)) w':=
 ⟨h.cl.step s hd,fun h'=>(by rw[updK_self] at h';cases h'),fun _=>(by rw[upd_self,upd_ne u _ ha]),by rw[updK_neO L ha,updK_neO L hb,upd_ne u _ ha];exact h.ph⟩
theorem AC.fin (h:AC tb b a s V0 W0 W1 Fin L u w') (ha:L a=true) (hs:L s=true):u s=u a∧Fin w' (u a):=by
 refine⟨h.new hs,?_⟩;rcases h.ph with⟨_,h1⟩|⟨h1,_⟩|⟨h1,_⟩
 ·exact h1
 ·rw[ha] at h1;cases h1
 ·rw[ha] at h1;cases h1
end
structure AD (tb:List (Nat×Nat)) (b s:Nat) (V0:Value) (W0 W1:World) (L:Nat→Bool) (u:Nat→Value) (w':World):Prop where
 cl:ClG tb L
 old:L s=false→u s=V0
 ph:(L b=true∧w'=W1)∨(L b=false∧w'=W0)
section
variable {tb:List (Nat×Nat)} {b s:Nat} {V0:Value} {W0 W1:World} {L:Nat→Bool} {u:Nat→Value} {w':World}
theorem AD.start (h:∀ i,L i=false) (hu:u s=V0):AD tb b s V0 W0 W1 L u W0:=⟨ClG.none h,fun _=>hu,.inr ⟨h _,rfl⟩⟩
theorem AD.pure (h:AD tb b s V0 W0 W1 L u w') (i:Nat) (v:Value) (hb:b≠i) (hs:s≠i) (hd:∀ p,p∈tb→p.1=i→L p.2=true):AD tb b s V0 W0 W1 (updK L i) (upd u i v) w':=
 ⟨h.cl.step i hd,by rw[updK_neO L hs,upd_ne u v hs];exact h.old,by rw[updK_neO L hb];exact h.ph⟩
theorem AD.world (h:AD tb b s V0 W0 W1 L u w') (hb:L b=false):w'=W0:=by
 rcases h.ph with⟨h1,_⟩|⟨_,h1⟩
 ·rw[hb] at h1;cases h1
 ·exact h1
theorem AD.build (h:AD tb b s V0 W0 W1 L u w') (v:Value) (hs:s≠b) (hd:∀ p,p∈tb→p.1=b→L p.2=true):AD tb b s V0 W0 W1 (updK L b) (upd u b v) W1:=
 ⟨h.cl.step b hd,by rw[updK_neO L hs,upd_ne u v hs];exact h.old,.inl ⟨updK_self L b,rfl⟩⟩
theorem AD.asg (h:AD tb b s V0 W0 W1 L u w') (v:Value) (hb:b≠s) (hd:∀ p,p∈tb→p.1=s→L p.2=true):AD tb b s V0 W0 W1 (updK L s) (upd u s v) w':=
 ⟨h.cl.step s hd,fun h'=>(by rw[updK_self] at h';cases h'),by rw[updK_neO L hb];exact h.ph⟩
theorem AD.fin (h:AD tb b s V0 W0 W1 L u w') (hb:L b=true):w'=W1:=by
 rcases h.ph with⟨_,h1⟩|⟨h1,_⟩
 ·exact h1
 ·rw[hb] at h1;cases h1
end
theorem wp_appU (w:World) {o:Oper} {a:Act} {K:Act→World→Prop} {Q:Exit→Act→World→Prop} (sx x:Operand)
  (hop:o.op=Op.call { callee:=Callee.builtin Builtin.append,args:=#[sx,x],argTypes:=#[134,134] }) (B:Nat) (v:Value) (xs:List Int) (hs:a.eval sx=v) (hown:OwnU w B v xs)
  (b off m c:Nat) (zs:List Int) (hx:a.eval x=.slice (some ⟨b,off,none⟩) m c) (hl:zs.length=m) (hc:∀ i,i<zs.length→w.cell? ⟨b,off+i,none⟩=some (.int .u64 (zs.getD i 0))) (hm:xs.length+m≤1048576) (hB:B≤w.heap.size)
  (hK:∀ v' w',OwnU w' B v' (xs++zs)→Below B w w'→K (a.put o.dst v') w'):o.wp Tryz.prog a w K Q:=by
 obtain⟨i0,hi,hz0,hz1,hz2⟩:=info_parts ktU.info;have hbase:=hown.base;obtain⟨v',w',hr,h2,h3,h4,h5⟩:=run_append_own_at (P:=Tryz.prog) w B 134 o.type 135 i0 (.int .u64 0) 1 8 Tryz.underlying134 hi hz0 hz1 hz2 rfl (by decide) v xs.length _ hown.1 ⟨b,off,none⟩ m c (zs.map (Value.int .u64)) (by simp[hl]) (by
  intro j u hu;have hj:j<zs.length:=by have:=(List.getElem?_eq_some_iff.1 hu).1;simpa using this
  rw[Addr.add_lit,hc j hj];simp[hj] at hu;simp[hj,hu]) (ints_oneCell _ _) (by unfold maxLen;omega) (by omega) hB
 obtain⟨g,c0,hv,hBg,_,_⟩:=hbase;have hbel:=(Below.refl _ _).grown h3 hB (fun k hk=>by rw[hv] at hk;simp[Value.ownBlock] at hk;omega);have hk:=hK v' w' ⟨by rw[List.map_append,List.length_append,hl];exact h2,by
  rcases h2.2 with⟨h',h''⟩|⟨g',c',cur,h',_⟩
  ·exact absurd (h4.1 h').1 (by rw[hv];simp)
  ·exact⟨g',c',by rw[h',List.length_append,hl]⟩⟩ hbel
 unfold Oper.wp execOp;simp only[hop,resolve,invoke,builtin,Sem.run_bind,Sem.run_pure,Result.andThen_ok,List.map_toArray,List.map_cons,List.map_nil,hs,hx,hr];exact hk
end Go.Proofs.YtncomnkdlpoelaaGreatDoor
