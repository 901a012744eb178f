import Derived.Test.YtilpkdnoaldfmaaGreatDoorMRows8
import Derived.Test.YtilpkdnoaldfmaaGreatDoorMBase
import Derived.Test.YtilpkdnoaldfmaaGreatDoorMArrEq
import Derived.Test.YtilpkdnoaldfmaaGreatDoorMCatF
import Derived.Deep.WholeRow
import Derived.Test.YtilpkdnoaldfmaaGreatDoorMDkJ
import Derived.Test.YtilpkdnoaldfmaaGreatDoorMArgDev
import Derived.WalkMore
import Derived.Test.YtilpkdnoaldfmaaGreatDoorMDnA
import Derived.Test.YtilpkdnoaldfmaaGreatDoorMCatC
import Derived.Test.YtilpkdnoaldfmaaGreatDoorMSwH
import Derived.Test.YtilpkdnoaldfmaaGreatDoorMSSy
import Derived.Test.YtilpkdnoaldfmaaGreatDoorMSwA
import Derived.Deep.Cut
namespace Go.Proofs.YtilpkdnoaldfmaaGreatDoor
open Go.ChangeShapes Go.WideShapes Go.ChangeAt Go.RowKit
set_option linter.unusedVariables false
theorem num4_u32 (zs:List Int) (hz:Byte zs) (p:Nat):U32 (num4 zs p):=by
 have h0:=hz.get p;have h1:=hz.get (p+1);have h2:=hz.get (p+2);have h3:=hz.get (p+3);unfold num4 U32;omega
theorem encS_len (s k a b:Int):(encS s k a b).length=64:=by simp[encS,parts3,headS_len,four]
theorem encS_tail (s k a b:Int) (us:U32 s):num4 (encS s k a b) 60=s:=by
 obtain⟨h0,h1⟩:=us;have hl:=headS_len s k a b;have e:∀ i,(encS s k a b).getD (60+i) 0=(four s).getD i 0:=fun i=>by
  simp only[encS,parts3,List.flatten_cons,List.flatten_nil,List.append_nil,List.getD_eq_getElem?_getD];rw[List.getElem?_append_right (by omega),hl,List.getElem?_append_right (by simp[four];omega)];simp[four,show 60+i-56-4=i by omega]
 have e0:=e 0;have e1:=e 1;have e2:=e 2;have e3:=e 3;unfold num4;simp only[Nat.add_zero,Nat.reduceAdd] at e0 e1 e2 e3 ⊢;rw[e0,e1,e2,e3];simp[four];omega
def fOk (s k a b:Int):Value:=.agg #[.bool true,.int .u32 s,.int .i64 k,.int .u32 a,.int .u32 b]
def fNo:Value:=.agg #[.bool false,.int .u32 0,.int .i64 0,.int .u32 0,.int .u32 0]
def decB (zs:List Int):Bool:=decide (zs.length=64) && (decide (1≤zs.getD 6 0∧zs.getD 6 0≤3) && decide (encS (num4 zs 0) (zs.getD 6 0) (num4 zs 8) (num4 zs 12)=zs))
def decV (zs:List Int):Value:=bif decB zs then fOk (num4 zs 0) (zs.getD 6 0) (num4 zs 8) (num4 zs 12) else fNo
theorem decV_no {zs:List Int} (h:decB zs=false):decV zs=fNo:=by unfold decV;rw[h];rfl
theorem decV_yes {zs:List Int} (h:decB zs=true):decV zs=fOk (num4 zs 0) (zs.getD 6 0) (num4 zs 8) (num4 zs 12):=by unfold decV;rw[h];rfl
theorem all5 (x:Bool) (s k a b:Int):(#[Value.bool x,.int .u32 s,.int .i64 k,.int .u32 a,.int .u32 b].all (fun v=>v.oneCell'))=true:=by simp[Value.oneCell']
theorem all4 (s k a b:Int):(#[Value.int .u32 s,.int .i64 k,.int .u32 a,.int .u32 b].all (fun v=>v.oneCell'))=true:=by simp[Value.oneCell']
structure Dst (w w':World) (gc:Nat) (zs:List Int):Prop where
 below:Below w.heap.size w w'
 lt:w.heap.size<gc
 row:Row w' gc 65 zs
 res:w'.heap[w.heap.size]?=some (.cells #[.bool false,.int .u32 0,.int .i64 0,.int .u32 0,.int .u32 0] 137 (0,0))
theorem Dst.drewN {w w':World} {gc:Nat} {zs:List Int} (h:Dst w w' gc zs) (n:Nat):Dst w (w'.drewN n) gc zs:=
 ⟨⟨h.below.os,h.below.tape,h.below.output,h.below.size,h.below.block⟩,h.lt,h.row,h.res⟩
theorem Dst.grow {w w' w'':World} {gc:Nat} {zs:List Int} (h:Dst w w' gc zs) (hb:Below w'.heap.size w' w''):Dst w w'' gc zs:=by
 have hl:=h.row.lt;have:=h.lt;exact⟨h.below.trans (hb.mono (by omega)),h.lt,by unfold Row;rw[hb.block gc hl];exact h.row,by rw[hb.block _ (by omega)];exact h.res⟩
def G6 (gc:Nat) (s k a b:Int) (H:Nat):Nat→World→(Nat→Value)→Prop
 |0,_,u=>u 0=.int .u32 s
 |1,_,u=>u 1=.pointer (some ⟨gc,6,none⟩)
 |2,_,u=>u 2=.int .u8 k
 |3,_,u=>u 3=.int .i64 k
 |4,_,u=>u 4=.int .u32 a
 |5,_,u=>u 5=.int .u32 b
 |6,_,u=>u 6=.agg #[.int .u32 s,.int .i64 k,.int .u32 a,.int .u32 b]
 |7,w,u=>∃ g cs,u 7=.pointer (some ⟨g,0,none⟩)∧H≤g∧w.heap[g]?=some (Obj.cells cs 92 (0,0))∧cs.size=4
 |_,w,u=>∃ g,u 7=.pointer (some ⟨g,0,none⟩)∧H≤g∧w.heap[g]?=some (Obj.cells #[.int .u32 s,.int .i64 k,.int .u32 a,.int .u32 b] 92 (0,0))
def M6 (i:Nat) (w w':World):Prop:=
 (i≠8→Below w.heap.size w w')∧w.heap.size≤w'.heap.size∧∀(b:Nat) (cs:Array Value) (t:TypeId) (fr:Nat×Nat),w.heap[b]?=some (Obj.cells cs t fr)→∃ cs':Array Value,w'.heap[b]?=some (Obj.cells cs' t fr)∧cs'.size=cs.size
theorem M6.of_below {i:Nat} {w w':World} (h:Below w.heap.size w w'):M6 i w w':=
 ⟨fun _=>h,h.size,fun b cs t fr hb=>⟨cs,by rw[h.block b (Array.getElem?_eq_some_iff.1 hb).1];exact hb,rfl⟩⟩
theorem M6.refl (i:Nat) (w:World):M6 i w w:=M6.of_below (Below.refl _ _)
theorem below_drewN' {B:Nat} {a w:World} (h:Below B a w) (n:Nat):Below B a (w.drewN n):=⟨h.os,h.tape,h.output,h.size,h.block⟩
theorem upd_ne {u:Nat→Value} {i j:Nat} {v:Value} (h:i≠j):upd u i v j=u j:=by unfold upd;rw[if_neg (Ne.symm h)]
theorem G6_stab (gc:Nat) (s k a b:Int) (H j:Nat) (w w':World) (u:Nat→Value) (i:Nat) (v:Value) (hM:M6 i w w') (hij:i≠j) (h7:j≥8→7≠i) (hj:j≤8) (h:G6 gc s k a b H j w u):G6 gc s k a b H j w' (upd u i v):=by
 obtain rfl|rfl|rfl|rfl|rfl|rfl|rfl|rfl|rfl:j=0∨j=1∨j=2∨j=3∨j=4∨j=5∨j=6∨j=7∨j=8:=by omega
 all_goals simp only[G6] at h ⊢
 iterate 7 (· rw[upd_ne hij];exact h)
 ·obtain⟨g,cs,h1,h2,h3,h4⟩:=h;obtain⟨cs',h5,h6⟩:=hM.2.2 g _ _ _ h3;exact⟨g,cs',by rw[upd_ne hij];exact h1,h2,h5,by omega⟩
 ·obtain⟨g,h1,h2,h3⟩:=h;refine⟨g,by rw[upd_ne (Ne.symm (h7 (by omega)))];exact h1,h2,?_⟩;rw[(hM.1 hij).block g (Array.getElem?_eq_some_iff.1 h3).1];exact h3
def G7 (hk:Bool) (zs e:List Int):Nat→World→(Nat→Value)→Prop
 |0,_,u=>u 0=.bool hk
 |1,_,u=>u 1=.bool (!hk)
 |2,_,u=>u 2=.bool (!hk)
 |3,_,u=>hk=true→u 3=.agg (e.map (Value.int .u8)).toArray
 |4,_,u=>hk=true→u 4=.agg (zs.map (Value.int .u8)).toArray
 |5,_,u=>hk=true→u 5=.bool (!decide (e=zs))
 |_,_,u=>u 6=.bool (!hk || !decide (e=zs))
theorem G7_stab (hk:Bool) (zs e:List Int) (j:Nat) (w w':World) (u:Nat→Value) (i:Nat) (v:Value) (hij:i≠j) (hj:j≤6) (h:G7 hk zs e j w u):G7 hk zs e j w' (upd u i v):=by
 obtain rfl|rfl|rfl|rfl|rfl|rfl|rfl:j=0∨j=1∨j=2∨j=3∨j=4∨j=5∨j=6:=by omega
 all_goals simp only[G7] at h ⊢
 all_goals(rw[upd_ne hij];exact h)
set_option maxHeartbeats 1000000 in
set_option maxRecDepth 100000 in
theorem idec_64 (a:Option Addr) (cap:Nat) (zs:List Int) (w:World) (hn:zs.length=64) (hz:Byte zs) (ha:At .u8 w a zs) :
  Calls Tryz.prog 74 #[.slice a 64 cap] w fun e w'=>e=.returned (decV zs)∧Below w.heap.size w w':=by
 have htk:zs.take 64=zs:=List.take_of_length_le (by omega);have HD:Hid (num4 zs 0≠num4 zs 60→decV zs=fNo):=fun hne=>decV_no (by
  unfold decB;have:decide (encS (num4 zs 0) (zs.getD 6 0) (num4 zs 8) (num4 zs 12)=zs)=false:=by
   simp only[decide_eq_false_iff_not];intro h;have:=encS_tail (num4 zs 0) (zs.getD 6 0) (num4 zs 8) (num4 zs 12) (num4_u32 zs hz 0);rw[h] at this;exact hne this.symm
  rw[this];simp)
 go_enter Tryz.func74,Tryz.ntmps74;go_wp2_with fail;refine(sectorOf_any a 64 cap zs _ hn (Nat.le_refl _) (ha.below (below_new _ _))).mono ?_;rintro e w2 ⟨rfl,hb2⟩;rw[htk];have hs2:w.heap.size+1≤w2.heap.size:=by have:=hb2.size;simp at this;exact this
 have hr2:w2.heap[w.heap.size]?=some (.cells #[.bool false,.int .u32 0,.int .i64 0,.int .u32 0,.int .u32 0] 137 (0,0)):=by
  rw[hb2.block w.heap.size (by simp)];exact heap_alloc_new w _
 have hb2':Below w.heap.size w w2:=(below_new w _).trans (hb2.mono (by simp));have hs1:(Tryz.prog.info? 65).map (·.size)=some ((zs.map (Value.int .u8)).toArray).size:=by rw[Tryz.sizeSec];simp[hn]
 have HS1:Hid _:=hs1;have HST:Hid (Dst w (w2.alloc (.cells ((zs.map (Value.int .u8)).toArray) 65)) w2.heap.size zs):=
  ⟨hb2'.alloc (by omega) _,by omega,heap_alloc_new w2 _,by rw[Below.heap_alloc w2 _ w.heap.size (by omega)];exact hr2⟩
 clear hs1 hb2 hr2 hb2';go_wp2_with (refine wpList_store_row rfl 65 (.tmp 3) (.tmp 10) rfl w2.heap.size ((zs.map (Value.int .u8)).toArray) rfl rfl 65 _ (heap_alloc_new w2 _) HS1.out (by simp[hn]) (all_oneCell_toArray (ints_oneCell _ _)) ?_);rw[World.setRow_alloc_new];have st:=HST.out;clear HST;have hgl:w2.heap.size<(w2.alloc (.cells ((zs.map (Value.int .u8)).toArray) 65)).heap.size:=by simp
 generalize w2.alloc (.cells ((zs.map (Value.int .u8)).toArray) 65)=w3 at *;generalize w2.heap.size=gc at *;refine(num_any gc 65 0 zs _ st.row hz hn (by decide) (by decide)).mono ?_;rintro e w4 ⟨rfl,q4,rfl⟩;have st4:=st.drewN q4;clear st hgl;generalize w3.drewN q4=w4 at *;go_wp2_with fail;refine(num_any gc 65 60 zs _ st4.row hz hn (by decide) (by decide)).mono ?_;rintro e w5 ⟨rfl,q5,rfl⟩;have st5:=st4.drewN q5;clear st4;generalize w4.drewN q5=w5 at *;have hres:=st5.res;have hsF:(Tryz.prog.info? 137).map (·.size)=some 5:=by kernel_rfl
 have HSF:Hid _:=hsF;clear hsF;have HST5:Hid _:=st5;have HRES:Hid _:=hres;clear st5 hres;simp only[show Int.toNat 60=60 from rfl];cases ht:(num4 zs 0 != num4 zs 60)
 ·have HDY:Hid (∀ hk:Bool,hk=decide (1≤zs.getD 6 0∧zs.getD 6 0≤3)→(!hk || !decide (encI (num4 zs 0) (zs.getD 6 0) (num4 zs 8) (num4 zs 12)=zs))=true→decV zs=fNo):=by
   intro hk hhk h;refine decV_no ?_;rw[enc_eq _ _ _ _ (num4_u32 zs hz 0) (num4_u32 zs hz 8) (num4_u32 zs hz 12)] at h;unfold decB;rw[←hhk];cases hk
   ·simp
   ·simp only[Bool.not_true,Bool.false_or,Bool.not_eq_true'] at h;rw[h];simp
  have HDN:Hid (∀ hk:Bool,hk=decide (1≤zs.getD 6 0∧zs.getD 6 0≤3)→(!hk || !decide (encI (num4 zs 0) (zs.getD 6 0) (num4 zs 8) (num4 zs 12)=zs))=false→decV zs=fOk (num4 zs 0) (zs.getD 6 0) (num4 zs 8) (num4 zs 12)):=by
   intro hk hhk h;refine decV_yes ?_;rw[enc_eq _ _ _ _ (num4_u32 zs hz 0) (num4_u32 zs hz 8) (num4_u32 zs hz 12)] at h;unfold decB;rw[←hhk];cases hk
   ·simp at h
   ·simp only[Bool.not_true,Bool.false_or,Bool.not_eq_false'] at h;rw[h];simp[hn]
  have us:=num4_u32 zs hz 0;have ua:=num4_u32 zs hz 8;have ub:=num4_u32 zs hz 12;have hb6:=hz.get 6;have HC6:Hid (∀ w',Row w' gc 65 zs→w'.cell? ⟨gc,6,none⟩=some (.int .u8 (zs.getD 6 0))):=fun w' h=>h.cell 6 (by omega)
  clear HD;generalize hs0:num4 zs 0=s0 at *;generalize ht0:num4 zs 60=t0 at *;generalize ha0:num4 zs 8=a0 at *;generalize hb0:num4 zs 12=b0 at *;generalize zs.getD 6 0=k0 at *;have HS:Hid (num4 zs 0=s0):=hs0;have HA:Hid (num4 zs 8=a0):=ha0;have HBB:Hid (num4 zs 12=b0):=hb0;clear hs0 ht0 ha0 hb0;obtain⟨hb60,hb61⟩:=hb6;have hwr:IntKind.i64.wrap k0=k0:=by rw[IntKind.wrap_i64];omega
  have hs27:(Tryz.prog.info? 92).map (·.size)=some 4:=by kernel_rfl
  have HS27:Hid _:=hs27;clear hs27;have HWR:Hid _:=hwr;clear hwr;go_wp2_with fail;refine wp_region_any (by kernel_rfl) ?_
  refine wpAny_slots2 (frame:=fun u=>{ tmps:=#[.slice a 64 cap,undef,.pointer (some ⟨w.heap.size,0,none⟩),.pointer (some ⟨gc,0,none⟩),u 7,.slice a 64 cap,.int .i64 64,.bool false,undef,.slice a 64 cap,.agg (zs.map (Value.int .u8)).toArray,.int .u32 s0,.int .u32 t0,.bool false,undef,
    u 0,u 1,u 2,u 3,u 4,u 5,u 6,undef,undef,undef,undef,undef,undef,undef,undef,undef,undef],defers:=[] })
   (Ext:=fun w'=>Dst w w' gc zs∧w5.heap.size≤w'.heap.size) (Good:=G6 gc s0 k0 a0 b0 w5.heap.size) (M:=M6) ?hstab (by kernel_rfl) ?hop ?hdone _ _ (fun _=>undef) _ (by simp) ?ext ?start ?clo (by simp)
  case start=>intro i hi h;exact absurd h (by rw[Array.getD_eq_getD_getElem?,Array.getElem?_replicate];split<;>simp)
  case clo=>intro i o ho h;exact absurd h (by rw[Array.getD_eq_getD_getElem?,Array.getElem?_replicate];split<;>simp)
  case ext=>exact⟨HST5.out.drewN 1,Nat.le_refl _⟩
  case hstab=>
   intro j o w1 w2 u i v ho hM hij hd hg;have hj:j<9:=(Array.getElem?_eq_some_iff.1 ho).1;refine G6_stab gc s0 k0 a0 b0 w5.heap.size j w1 w2 u i v hM hij (fun h8=>?_) (by omega) hg;obtain rfl:j=8:=by omega
   simp at ho;subst ho;exact hd ⟨7,.data⟩ (by simp) rfl
  case hdone=>
   intro u w6 hx hg;obtain⟨hx,hsz⟩:=hx;obtain⟨g,h7,hgl,hblk⟩:=hg 8 (by decide);clear hg;have hlt5:w.heap.size<w5.heap.size:=by have:=HST5.out.row.lt;have:=HST5.out.lt;omega
   have hst6:Hid _:=hx;have hblk6:Hid _:=hblk;clear hx hblk;obtain⟨hk,hhk⟩:∃ hk:Bool,hk=decide (1≤k0∧k0≤3):=⟨_,rfl⟩
   have HHK:Hid _:=hhk;clear hhk;go_wp2_with fail;rw[h7];refine wp_region_any (by kernel_rfl) ?_
   refine wpAny_slots2 (frame:=fun t=>{ tmps:=#[.slice a 64 cap,undef,.pointer (some ⟨w.heap.size,0,none⟩),.pointer (some ⟨gc,0,none⟩),.pointer (some ⟨g,0,none⟩),.slice a 64 cap,.int .i64 64,.bool false,undef,.slice a 64 cap,.agg (zs.map (Value.int .u8)).toArray,.int .u32 s0,.int .u32 t0,.bool false,undef,
     u 0,u 1,u 2,u 3,u 4,u 5,u 6,t 0,t 1,t 2,t 3,t 4,t 5,t 6,undef,undef,undef],defers:=[] })
    (Ext:=fun w'=>Dst w w' gc zs∧w'.heap[g]?=some (Obj.cells #[.int .u32 s0,.int .i64 k0,.int .u32 a0,.int .u32 b0] 92 (0,0))) (Good:=G7 hk zs (encI s0 k0 a0 b0)) (M:=fun _ _ _=>True) ?hstab7 (by kernel_rfl) ?hop7 ?hdone7 _ _ (fun _=>undef) _ (by simp) ?ext7 ?start7 ?clo7 (by simp)
   case start7=>intro i hi h;exact absurd h (by rw[Array.getD_eq_getD_getElem?,Array.getElem?_replicate];split<;>simp)
   case clo7=>intro i o ho h;exact absurd h (by rw[Array.getD_eq_getD_getElem?,Array.getElem?_replicate];split<;>simp)
   case ext7=>exact⟨hst6.out.drewN 1,hblk6.out⟩
   case hstab7=>
    intro j o w1 w2 t i v ho hM hij hd hg;have hj:j<7:=(Array.getElem?_eq_some_iff.1 ho).1;exact G7_stab hk zs _ j w1 w2 t i v hij (by omega) hg
   case hdone7=>
    intro t w7 hx hg;obtain⟨hx,hblk⟩:=hx;have h6:t 6=_:=hg 6 (by decide);clear hg;have HN':=HDN.out hk HHK.out;have HY':=HDY.out hk HHK.out;clear HDN HDY;have f0:w7.cell? ⟨g,0,none⟩=some (.int .u32 s0):=cell_of_row _ _ _ _ _ _ hblk;have f1:w7.cell? ⟨g,1,none⟩=some (.int .i64 k0):=cell_of_row _ _ _ _ _ _ hblk;have f2:w7.cell? ⟨g,2,none⟩=some (.int .u32 a0):=cell_of_row _ _ _ _ _ _ hblk;have f3:w7.cell? ⟨g,3,none⟩=some (.int .u32 b0):=cell_of_row _ _ _ _ _ _ hblk;have HR7:Hid _:=hx.res;have HB7:Hid (Below w.heap.size w w7):=hx.below;clear hx hblk;generalize hfin:(!hk || !decide (encI s0 k0 a0 b0=zs))=fin at *;rw[h6];clear h6;cases fin
    ·have HV:Hid (decV zs=fOk s0 k0 a0 b0):=HN' rfl;clear HN' HY' hfin;go_wp2_with (refine wpList_store_row rfl 137 (.tmp 2) (.tmp 31) rfl w.heap.size #[.bool true,.int .u32 s0,.int .i64 k0,.int .u32 a0,.int .u32 b0] rfl rfl 137 _ HR7.out HSF.out rfl (all5 _ _ _ _ _) ?_)
     (try simp only[Exit.inBlock,Exit.then])
     refine bodyPost_ret (v:=fOk s0 k0 a0 b0) (results_cell_row rfl _ _ w.heap.size 137 _ (0,0) _ rfl (setRow_heap _ _ _ _ _ _ HR7.out) Tryz.underlying137 rfl HSF.out) rfl ⟨by rw[HV.out],?_⟩;exact HB7.out.trans ((Wr.setRow _ _ _).below (Nat.le_refl _))
    ·have HV:Hid (decV zs=fNo):=HY' rfl;clear HN' HY' hfin;go_wp2_with (refine wpList_store_row rfl 137 (.tmp 2) (.tmp 29) rfl w.heap.size #[.bool false,.int .u32 0,.int .i64 0,.int .u32 0,.int .u32 0] rfl rfl 137 _ HR7.out HSF.out rfl (all5 _ _ _ _ _) ?_)
     (try simp only[Exit.inBlock,Exit.then])
     refine bodyPost_ret (v:=fNo) (results_cell_row rfl _ _ w.heap.size 137 _ (0,0) _ rfl (setRow_heap _ _ _ _ _ _ HR7.out) Tryz.underlying137 rfl HSF.out) rfl ⟨by rw[HV.out],?_⟩;exact HB7.out.trans ((Wr.setRow _ _ _).below (Nat.le_refl _))
   case hop7=>
    intro i o t w7 ho hx hdep K hK;obtain⟨hx,hblk⟩:=hx;have hi:i<7:=(Array.getElem?_eq_some_iff.1 ho).1;have f0:w7.cell? ⟨g,0,none⟩=some (.int .u32 s0):=cell_of_row _ _ _ _ _ _ hblk;have f1:w7.cell? ⟨g,1,none⟩=some (.int .i64 k0):=cell_of_row _ _ _ _ _ _ hblk;have f2:w7.cell? ⟨g,2,none⟩=some (.int .u32 a0):=cell_of_row _ _ _ _ _ _ hblk;have f3:w7.cell? ⟨g,3,none⟩=some (.int .u32 b0):=cell_of_row _ _ _ _ _ _ hblk;have hgl7:g<w7.heap.size:=(Array.getElem?_eq_some_iff.1 hblk).1;have hel:=encI_len s0 k0 a0 b0;obtain rfl|rfl|rfl|rfl|rfl|rfl|rfl:i=0∨i=1∨i=2∨i=3∨i=4∨i=5∨i=6:=by omega
    all_goals(simp at ho;subst ho)
    ·clear hdep;go_simp;refine(hasKind_any g k0 _ f1).mono ?_;rintro e w8 ⟨rfl,rfl⟩;rw[←HHK.out];go_simp;exact hK w8 (.bool hk) rfl ⟨hx,hblk⟩ trivial
    ·have d:t 0=_:=hdep ⟨0,.data⟩ (by simp) rfl;clear hdep;go_simp;simpa[upd,d] using hK w7 (.bool (!hk)) rfl ⟨hx,hblk⟩ trivial
    ·have d:t 1=_:=hdep ⟨1,.data⟩ (by simp) rfl;clear hdep;go_simp;simpa[upd,d] using hK w7 (.bool (!hk)) rfl ⟨hx,hblk⟩ trivial
    ·have d:t 2=_:=hdep ⟨2,.guard⟩ (by simp) rfl;clear hdep;cases hk
     ·go_simp;simpa[upd,d] using hK w7 undef (by intro h;cases h) ⟨hx,hblk⟩ trivial
     ·go_simp;refine(encoded_any g s0 k0 a0 b0 _ hgl7 f0 f1 f2 f3 us ua ub).mono ?_;rintro e w8 ⟨rfl,hb8⟩;have hx8:=hx.grow hb8;have hblk8:w8.heap[g]?=some (Obj.cells #[.int .u32 s0,.int .i64 k0,.int .u32 a0,.int .u32 b0] 92 (0,0)):=by rw[hb8.block g hgl7];exact hblk
      go_simp;simpa[upd,d] using hK w8 (.agg ((encI s0 k0 a0 b0).map (Value.int .u8)).toArray) (fun _=>rfl) ⟨hx8,hblk8⟩ trivial
    ·have d:t 2=_:=hdep ⟨2,.guard⟩ (by simp) rfl;clear hdep;cases hk
     ·go_simp;simpa[upd,d] using hK w7 undef (by intro h;cases h) ⟨hx,hblk⟩ trivial
     ·rw[if_pos (by simp[Region.wanted,yielded,d])];refine wp_load_row 65 (.tmp 3) rfl gc rfl 65 _ (0,0) _ hx.row Tryz.underlying65 rfl HS1.out ?_;exact hK w7 (.agg (zs.map (Value.int .u8)).toArray) (fun _=>rfl) ⟨hx,hblk⟩ trivial
    ·have d:t 2=_:=hdep ⟨2,.guard⟩ (by simp) rfl;have d3:hk=true→t 3=_:=hdep ⟨3,.data⟩ (by simp) rfl;have d4:hk=true→t 4=_:=hdep ⟨4,.data⟩ (by simp) rfl;clear hdep;cases hk
     ·clear d3 d4;go_simp;simpa[upd,d] using hK w7 undef (by intro h;cases h) ⟨hx,hblk⟩ trivial
     ·have e3:=d3 rfl;have e4:=d4 rfl;clear d3 d4;have r1:(Op.equalIn 10000 65 (.agg ((encI s0 k0 a0 b0).map (Value.int .u8)).toArray) (.agg (zs.map (Value.int .u8)).toArray)).run Tryz.prog w7=.ok (decide (encI s0 k0 a0 b0=zs)) w7:=run_eqArr w7 9998 (encI s0 k0 a0 b0) zs hel hn;have r2:=run_neqGuard w7 (.tmp 25) (.tmp 26) ((encI s0 k0 a0 b0).map (Value.int .u8)).toArray (zs.map (Value.int .u8)).toArray;generalize hv:decide (encI s0 k0 a0 b0=zs)=bv at *;go_simp;simpa[upd,d,e3,e4] using hK w7 (.bool !bv) (fun _=>by simp[upd,hv]) ⟨hx,hblk⟩ trivial
    ·have d:t 2=_:=hdep ⟨2,.data⟩ (by simp) rfl;have d5:hk=true→t 5=_:=hdep ⟨5,.data⟩ (by simp) rfl;clear hdep;cases hk
     ·clear d5;go_simp;simpa[upd,d] using hK w7 (.bool true) (by simp[G7,upd]) ⟨hx,hblk⟩ trivial
     ·have e5:=d5 rfl;clear d5;generalize hv:(!decide (encI s0 k0 a0 b0=zs))=bv at *;go_simp;simpa[upd,d,e5] using hK w7 (.bool bv) (by simp[G7,upd,hv]) ⟨hx,hblk⟩ trivial
  case hop=>
   intro i o u w6 ho hx hdep K hK;obtain⟨hx,hsz⟩:=hx;have hi:i<9:=(Array.getElem?_eq_some_iff.1 ho).1;have hc6:=HC6.out w6 hx.row;obtain rfl|rfl|rfl|rfl|rfl|rfl|rfl|rfl|rfl:i=0∨i=1∨i=2∨i=3∨i=4∨i=5∨i=6∨i=7∨i=8:=by omega
   all_goals(simp at ho;subst ho)
   ·clear hdep;go_simp;refine(num_any gc 65 0 zs _ hx.row hz hn (by decide) (by decide)).mono ?_;rintro e w7 ⟨rfl,q,rfl⟩;have hv:num4 zs (Int.toNat 0)=s0:=HS.out;rw[hv];go_simp;exact hK _ (.int .u32 s0) rfl ⟨hx.drewN q,hsz⟩ (M6.of_below (below_drewN' (Below.refl _ _) q))
   ·clear hdep;go_simp;exact hK w6 _ rfl ⟨hx,hsz⟩ (M6.refl _ _)
   ·have d:u 1=_:=hdep ⟨1,.data⟩ (by simp) rfl;clear hdep;go_simp;simpa[upd,d] using hK w6 (.int .u8 k0) rfl ⟨hx,hsz⟩ (M6.refl _ _)
   ·have d:u 2=_:=hdep ⟨2,.data⟩ (by simp) rfl;clear hdep;go_simp;simpa[upd,d,HWR.out] using hK w6 (.int .i64 k0) rfl ⟨hx,hsz⟩ (M6.refl _ _)
   ·clear hdep;go_simp;refine(num_any gc 65 8 zs _ hx.row hz hn (by decide) (by decide)).mono ?_;rintro e w7 ⟨rfl,q,rfl⟩;have hv:num4 zs (Int.toNat 8)=a0:=HA.out;rw[hv];go_simp;exact hK _ (.int .u32 a0) rfl ⟨hx.drewN q,hsz⟩ (M6.of_below (below_drewN' (Below.refl _ _) q))
   ·clear hdep;go_simp;refine(num_any gc 65 12 zs _ hx.row hz hn (by decide) (by decide)).mono ?_;rintro e w7 ⟨rfl,q,rfl⟩;have hv:num4 zs (Int.toNat 12)=b0:=HBB.out;rw[hv];go_simp;exact hK _ (.int .u32 b0) rfl ⟨hx.drewN q,hsz⟩ (M6.of_below (below_drewN' (Below.refl _ _) q))
   ·have d0:u 0=_:=hdep ⟨0,.data⟩ (by simp) rfl;have d3:u 3=_:=hdep ⟨3,.data⟩ (by simp) rfl;have d4:u 4=_:=hdep ⟨4,.data⟩ (by simp) rfl;have d5:u 5=_:=hdep ⟨5,.data⟩ (by simp) rfl;clear hdep;go_simp;simpa[upd,d0,d3,d4,d5] using hK w6 (.agg #[.int .u32 s0,.int .i64 k0,.int .u32 a0,.int .u32 b0]) rfl ⟨hx,hsz⟩ (M6.refl _ _)
   ·clear hdep;have hb:=below_new w6 (.cells #[.int .u32 0,.int .i64 0,.int .u32 0,.int .u32 0] 92);go_simp;exact hK _ _ ⟨w6.heap.size,_,rfl,hsz,heap_alloc_new w6 _,rfl⟩ ⟨hx.grow hb,by have:=hb.size;omega⟩ (M6.of_below hb)
   ·have d6:u 6=_:=hdep ⟨6,.data⟩ (by simp) rfl;obtain⟨g,cs,d7,hg,hh,hcs⟩:=hdep ⟨7,.data⟩ (by simp) rfl;rw[if_pos (by rfl)];refine wp_store_row 92 (.tmp 4) (.tmp 21) rfl g _ d7 d6 92 cs hh HS27.out hcs (all4 _ _ _ _) ?_;have hne:gc≠g:=by have:=HST5.out.row.lt;omega
    have hlt5:w.heap.size<w5.heap.size:=by have:=HST5.out.row.lt;have:=HST5.out.lt;omega
    refine hK (w6.setRow g #[.int .u32 s0,.int .i64 k0,.int .u32 a0,.int .u32 b0]) undef ⟨g,?_,hg,setRow_heap _ _ _ _ _ _ hh⟩ ⟨⟨?_,hx.lt,?_,?_⟩,?_⟩ ⟨?_,?_,?_⟩
    ·exact d7
    ·exact hx.below.trans ((Wr.setRow g w6 _).below (by omega))
    ·exact(Wr.setRow g w6 _).row hx.row hne
    ·rw[setRow_other w6 g _ _ (by omega)];exact hx.res
    ·rw[size_setRow];exact hsz
    ·intro h;exact absurd rfl h
    ·rw[size_setRow];exact Nat.le_refl _
    ·intro b2 cs2 t2 fr2 hb2;by_cases hbg:b2=g
     ·subst hbg;rw[hh] at hb2;obtain⟨rfl,rfl,rfl⟩:=(by simpa using hb2:cs=cs2∧_=t2∧_=fr2)
      exact⟨_,setRow_heap _ _ _ _ _ _ hh,by rw[hcs];rfl⟩
     ·exact⟨cs2,by rw[setRow_other w6 g b2 _ hbg];exact hb2,rfl⟩
 ·have HV:=HD.out (by simpa using ht);have HVV:Hid _:=HV;clear HV HD;go_wp2_with (refine wpList_store_row rfl 137 (.tmp 2) (.tmp 14) rfl w.heap.size #[.bool false,.int .u32 0,.int .i64 0,.int .u32 0,.int .u32 0] rfl rfl 137 _ HRES.out HSF.out rfl (all5 _ _ _ _ _) ?_)
  (try simp only[Exit.inBlock,Exit.then])
  refine bodyPost_ret (v:=fNo) (results_cell_row rfl _ _ w.heap.size 137 _ (0,0) _ rfl (setRow_heap _ _ _ _ _ _ HRES.out) Tryz.underlying137 rfl HSF.out) rfl ⟨by rw[HVV.out],?_⟩;exact HST5.out.below.trans ((Wr.setRow _ _ _).below (Nat.le_refl _))
def jrT (zs:List Int) (ps:List PD) (J q:Nat):List Int:=rdV zs ps (4+q%J:Nat)
def fr4 (z:List Int):List Int:=[num4 z 0,z.getD 6 0,num4 z 8,num4 z 12]
def jrOk (zs:List Int) (ps:List PD) (J q:Nat):Bool:=decB (jrT zs ps J q) && decide (num4 (jrT zs ps J q) 0=(q:Int))
def jrF (zs:List Int) (ps:List PD) (J:Nat):Nat→Nat→List Int
 |_,0=>[]
 |q,n+1=>if q<4000000000∧jrOk zs ps J q=true then fr4 (jrT zs ps J q)++jrF zs ps J (q+1) n else []
theorem jrF_no {zs:List Int} {ps:List PD} {J q n:Nat} (h:n=0∨¬ q<4000000000∨jrOk zs ps J q=false):jrF zs ps J q n=[]:=by
 cases n with
 |zero=>rfl
 |succ n=>
  show(if _ then _ else _)=_
  rw[if_neg];rintro⟨h1,h2⟩;rcases h with h|h|h
  ·omega
  ·exact h h1
  ·rw[h] at h2;cases h2
theorem jrF_yes {zs:List Int} {ps:List PD} {J q n:Nat} (h1:q<4000000000) (h2:jrOk zs ps J q=true):jrF zs ps J q (n+1)=fr4 (jrT zs ps J q)++jrF zs ps J (q+1) n:=by
 show(if _ then _ else _)=_
 rw[if_pos ⟨h1,h2⟩]
theorem fr4_len (z:List Int):(fr4 z).length=4:=rfl
theorem jrF_len (zs:List Int) (ps:List PD) (J:Nat):∀ n q,∃ k,k≤n∧(jrF zs ps J q n).length=k*4
 |0,q=>⟨0,Nat.le_refl _,rfl⟩
 |n+1,q=>by
  unfold jrF;split
  ·obtain⟨k,hk,e⟩:=jrF_len zs ps J n (q+1);exact⟨k+1,by omega,by rw[List.length_append,e,fr4_len];omega⟩
  ·exact⟨0,by omega,rfl⟩
theorem DvF.jr {L c m:Nat} {f:Int} {zs:List Int} {ps:List PD} (h:DvF L c m f zs ps) (q:Nat):(jrT zs ps (L/64-4) q).length=64∧Byte (jrT zs ps (L/64-4) q):=by
 obtain⟨b1,b2,b3,b4⟩:=h.base;have:=Nat.mod_lt q (show 0<L/64-4 by omega);exact h.rd _ (by omega)
def FO (B:Nat) (w:World) (v:Value) (F:List Int) (n:Nat):Prop:=w.ownsRow B 92 4 v n (fC F).toList
theorem fC_list (F:List Int):(fC F).toList=(List.range F.length).map (fun i=>Value.int (kF i) (F.getD i 0)):=by simp[fC]
theorem fC_app {F:List Int} (k:Nat) (hl:F.length=k*4) (s m x y:Int):(fC (F++[s,m,x,y])).toList=(fC F).toList++[.int .u32 s,.int .i64 m,.int .u32 x,.int .u32 y]:=by
 apply List.ext_getElem?;intro i;rw[fC_list,fC_list];by_cases h:i<F.length
 ·rw[List.getElem?_append_left (by simpa using h)];simp[h,show i<F.length+4 by omega,List.getD]
 ·rw[List.getElem?_append_right (by simp;omega)];by_cases h4:i<F.length+4
  ·obtain⟨j,rfl⟩:∃ j,i=F.length+j:=⟨i-F.length,by omega⟩
   have hj:j<4:=by omega
   have e:(List.map (fun i=>Value.int (kF i) ((F++[s,m,x,y]).getD i 0)) (List.range (F++[s,m,x,y]).length))[F.length+j]?=some (.int (kF (k*4+j)) (([s,m,x,y]:List Int).getD j 0)):=by
    rw[List.getElem?_map,List.getElem?_range (by simp;omega)];simp only[Option.map_some,List.getD];rw[List.getElem?_append_right (by omega),Nat.add_sub_cancel_left,hl]
   rw[e];simp only[List.length_map,List.length_range,Nat.add_sub_cancel_left];obtain rfl|rfl|rfl|rfl:j=0∨j=1∨j=2∨j=3:=by omega
   ·rw[Nat.add_zero,kF0];rfl
   ·rw[kF1];rfl
   ·rw[kF2];rfl
   ·rw[kF3];rfl
  ·rw[List.getElem?_eq_none (by simp;omega),List.getElem?_eq_none (by simp;omega)]
theorem FO.alloc {B:Nat} {w:World} {v:Value} {F:List Int} {n:Nat} (h:FO B w v F n) (o:Obj):FO B (w.alloc o) v F n:=World.ownsRow.alloc h _
theorem FO.keep {B:Nat} {w w':World} {v:Value} {F:List Int} {n:Nat} (h:FO B w v F n) (hb:∀ k,B≤k→k<w.heap.size→w'.heap[k]?=w.heap[k]?):FO B w' v F n:=by
 refine⟨h.1,?_⟩;rcases h.2 with h'|⟨g,c,cur,h1,h2,h3,h4⟩
 ·exact .inl h'
 ·exact .inr ⟨g,c,cur,h1,h2,by rw[hb g h2 (Array.getElem?_eq_some_iff.1 h3).1];exact h3,h4⟩
theorem FO.below {B:Nat} {w w':World} {v:Value} {F:List Int} {n:Nat} (h:FO B w v F n) (b:Below w.heap.size w w'):FO B w' v F n:=h.keep (fun k _ hk=>b.block k hk)
theorem FO.ownBlock {B:Nat} {w:World} {v:Value} {F:List Int} {n:Nat} (h:FO B w v F n):∀ k,v.ownBlock=some k→B≤k:=fun k hk=>by
 rcases h.2 with⟨h',_⟩|⟨g,c,cur,h',hb,_⟩
 ·rw[h'] at hk;simp[Value.ownBlock] at hk
 ·rw[h'] at hk;simp[Value.ownBlock] at hk;omega
theorem FO.len {B:Nat} {w:World} {v:Value} {F:List Int} {n:Nat} (h:FO B w v F n):F.length=n*4:=by
 have:=h.1;rw[fC_list] at this;simpa using this
theorem FO.form {B:Nat} {w:World} {v:Value} {F:List Int} {n:Nat} (h:FO B w v F n):∃ a c,v=.slice a n c∧FAt w a F∧n≤c∧Lies B w a:=by
 have hl:=h.len;rcases h.2 with⟨rfl,rfl⟩|⟨g,c,cur,rfl,hb,hg,hc,_,hs,ht⟩
 ·exact⟨none,0,rfl,.inl (List.eq_nil_of_length_eq_zero (by omega)),Nat.le_refl _,fun _ e=>(by cases e)⟩
 ·have hlt:=(Array.getElem?_eq_some_iff.1 hg).1;refine⟨_,c,rfl,.inr ⟨g,0,rfl,hlt,fun i hi=>?_⟩,hc,fun ad e=>(by cases e;exact⟨hb,hlt⟩)⟩;rw[Nat.zero_add,cell_of_row w g i _ _ _ hg];have e:(cur.toList.take (n*4))[i]?=(fC F).toList[i]?:=by rw[ht]
  rw[List.getElem?_take_of_lt (by omega),fC_list] at e;rw[List.getElem?_map,List.getElem?_range hi] at e;rw[←Array.getElem?_toList,e];rfl
theorem wpList_appF (w:World) {ops:Array Oper} {rest:List Oper} {o:Oper} {a:Act} {Q:Exit→Act→World→Prop} (hg:o.guard=none) (sx x:Operand)
  (hop:o.op=Op.call { callee:=Callee.builtin Builtin.append,args:=#[sx,x],argTypes:=#[31,31] }) (B:Nat) (v:Value) (F:List Int) (n:Nat) (hs:a.eval sx=v) (hown:FO B w v F n)
  (wb:World) (s m p y:Int) (hw:w=wb.alloc (.cells #[.int .u32 s,.int .i64 m,.int .u32 p,.int .u32 y] 92)) (hx:a.eval x=.slice (some ⟨wb.heap.size,0,none⟩) 1 1) (hm:n≤1048576) (hB:B≤w.heap.size)
  (hK:∀ v' w',FO B w' v' (F++[s,m,p,y]) (n+1)→Below B w w'→wpList Tryz.prog ops Q rest (a.put o.dst v') w') :
  wpList Tryz.prog ops Q (o::rest) a w:=by
 obtain⟨i0,hi,hz0,hz1,hz2⟩:=info_parts Tryz.infoFr;have hl:=hown.len;refine wpList_append_own_at w hg sx x 31 hop B 92 i0 (.agg #[.int .u32 0,.int .i64 0,.int .u32 0,.int .u32 0]) 4 24 Tryz.underlying31 hi hz0 hz1 hz2 rfl (by decide) v n _ hs hown ⟨wb.heap.size,0,none⟩ 1 1 [.int .u32 s,.int .i64 m,.int .u32 p,.int .u32 y] hx rfl ?_ (by simp[Value.oneCell']) (by unfold maxLen;omega) (by omega) hB ?_
 ·intro j z hz;have hj:j<4:=by have:=(List.getElem?_eq_some_iff.1 hz).1;simpa using this
  rw[Addr.add_lit,hw,cell_of_row _ _ _ _ _ _ (heap_alloc_new wb _),Nat.zero_add];obtain rfl|rfl|rfl|rfl:j=0∨j=1∨j=2∨j=3:=by omega
  all_goals simpa using hz
 intro v' w' h1 h2 _ h5;refine hK v' w' ?_ ((Below.refl _ _).grown h2 hB hown.ownBlock);unfold FO;rw[fC_app n hl];exact h1
theorem run_sliceS (w:World) (g:Nat):(Instr.sliceAt 65 (.pointer (some ⟨g,0,none⟩)) none none none).run Tryz.prog w=.ok (.slice (some ⟨g,0,none⟩) 64 64) w:=by
 unfold Instr.sliceAt;simp[run_underlying Tryz.underlying65,go_sem,Instr.sliceBounds,Addr.add]
structure JX (w:World) (zs:List Int) (ps:List PD) (J tl k:Nat) (v:Value) (wr:World):Prop where
 bel:Below w.heap.size w wr
 fo:∃ F,FO w.heap.size wr v F k∧F++jrF zs ps J (tl+k) (J-k)=jrF zs ps J tl J
set_option maxRecDepth 100000 in
set_option maxHeartbeats 4000000 in
theorem journal_any {w:World} {g:Nat} {a x:Option Addr} {L c m cx:Nat} {f:Int} {d:Bool} {zs:List Int} {ps:List PD} (h:DvI w g a x L c m cx f d zs ps) (F:DvF L c m f zs ps) (tl:Nat) (ht:tl≤4000000000) :
  Calls Tryz.prog 50 #[.pointer (some ⟨g,0,none⟩),.int .u32 (tl:Int)] w fun e w'=>∃ v n,e=.returned v∧FO w.heap.size w' v (jrF zs ps (L/64-4) tl (L/64-4)) n∧Below w.heap.size w w':=by
 have HD:=hid_ofL h;have hJ1:4≤L/64-4:=by have:=F.base;omega
 have hJ2:L/64-4≤252:=by have:=F.base;omega
 have HJS:=hid_ofL (fun ww (hi:DvI ww g a x L c m cx f d zs ps)=>jsec_any hi F);have HFS:=hid_ofL (fun ww (hi:DvI ww g a x L c m cx f d zs ps) q hq=>fsec_any hi F q hq);have HRD:=hid_ofL (fun ww (hi:DvI ww g a x L c m cx f d zs ps) q (hq:q<L/64-4)=>read_any g a x L c m cx f (4+q) d zs ps ww hi.row (by have:=F.base;omega) F.hc F.hl F.hm (by have:=F.base;omega) (by have:=F.base;omega) hi.at_ hi.pat (fun i hi=>F.len i hi));have HTX:=hid_ofL (fun q=>F.jr q);have HSR:Hid ((Tryz.prog.info? 137).map (·.size)=some 5):=by show _=_;kernel_rfl
 have HSF:Hid ((Tryz.prog.info? 92).map (·.size)=some 4):=by show _=_;kernel_rfl
 have hsl:=fun w=>run_sliceS w
 clear h F;generalize L/64-4=J at *;have hJ3:(J:Int)≤252:=by omega
 obtain⟨ti,hti⟩:∃ t:Int,(tl:Int)=t:=⟨_,rfl⟩
 have ht0:0≤ti:=by omega
 have ht1:ti≤4000000000:=by omega
 rw[hti];have HTI:=hid_ofL hti;clear hti ht;go_enter Tryz.func50,Tryz.ntmps50;go_wp2
 go_step3
 go_wp2
 go_step3
 go_wp2
 go_loopw [5,6] (fun v i wr=>∃(k:Nat) (qi:Int),k≤J∧qi=ti+k∧i=.int .u32 qi∧JX w zs ps J tl k v wr) (fun _ i _=>4294967296-(intOf i).toNat)
 case atStart=>exact⟨0,ti,Nat.zero_le _,by simp,rfl,Below.refl _ _,[],⟨rfl,.inl ⟨rfl,rfl⟩⟩,rfl⟩
 case round=>
  obtain⟨k,qi,hk,hqi,rfl,hX⟩:=hrel;have HX:=hid_ofL hX;have hq0:0≤qi:=by omega
  have hq1:qi≤4000000252:=by omega
  have hsub:(qi-ti)%4294967296=(k:Int):=by omega
  have HQN:Hid (((tl+k:Nat):Int)=qi):=by show _=_;have:=HTI.out;omega
  have HQI:=hid_ofL hqi;clear hX hqi;have HD1:=hid_ofL (HD.out.below HX.out.bel);by_cases hlt':qi<4000000000
  ·have HLT:Hid (tl+k<4000000000):=by show _<_;have:=HQN.out;omega
   go_wp2_with fail;refine(HJS.out _ HD1.out).mono ?_;rintro e w9 ⟨rfl,h9⟩;obtain rfl:wr=w9:=h9.symm;by_cases hkJ:k<J
   ·have hkJ':(k:Int)<(J:Int):=by omega
    go_wp2_with fail;obtain⟨sN,hsN⟩:∃ s:Nat,4+(tl+k)%J=s:=⟨_,rfl⟩
    have B:=hid_ofL (HFS.out _ HD1.out (tl+k) (by have:=HLT.out;omega));have A:=hid_ofL (HRD.out _ HD1.out ((tl+k)%J) (Nat.mod_lt _ (by omega)));rw[HQN.out,hsN] at B;rw[hsN] at A;have HSN:=hid_ofL hsN;clear hsN;refine B.out.mono ?_;rintro e w9 ⟨rfl,h9⟩;obtain rfl:wr=w9:=h9.symm;clear B;go_wp2_with fail;refine A.out.mono ?_;rintro e w1 ⟨rfl,b1⟩;have HTK:=hid_ofL (HTX.out (tl+k));have HE:Hid (rdV zs ps (sN:Nat)=jrT zs ps J (tl+k)):=by show _=_;rw[←HSN.out];rfl
    rw[HE.out];have HYS:=hid_ofL (fun (h1:decB (jrT zs ps J (tl+k))=true) (h2:num4 (jrT zs ps J (tl+k)) 0=qi)=>jrF_yes (n:=J-(k+1)) HLT.out (show jrOk zs ps J (tl+k)=true by unfold jrOk;rw[h1,HQN.out,decide_eq_true h2];rfl));have HNO:=hid_ofL (fun (h1:decB (jrT zs ps J (tl+k))=false∨¬ num4 (jrT zs ps J (tl+k)) 0=qi)=>jrF_no (n:=J-k) (.inr (.inr (show jrOk zs ps J (tl+k)=false by unfold jrOk;rw[HQN.out];rcases h1 with h|h<;>simp[h]))));have HXF:=hid_ofL (And.intro (HX.out.bel.trans (b1.mono HX.out.bel.size)) HX.out.fo);have HB1:=hid_ofL b1;clear A b1 HE HX;generalize jrT zs ps J (tl+k)=z at *;have hsz:(z.map (Value.int .u8)).toArray.size=64:=by rw[List.size_toArray,List.length_map];exact HTK.out.1
    have HSS:Hid ((Tryz.prog.info? 65).map (·.size)=some (z.map (Value.int .u8)).toArray.size):=by show _=_;rw[hsz];kernel_rfl
    have HOK:Hid ((z.map (Value.int .u8)).toArray.all (fun x=>x.oneCell')=true):=by show _=_;simp[Value.oneCell']
    have HB2:Hid (Below w1.heap.size w1 (w1.alloc (.cells (z.map (Value.int .u8)).toArray 65))):=(Below.refl _ _).alloc (Nat.le_refl _) _;have HR2:Hid ((w1.alloc (.cells (z.map (Value.int .u8)).toArray 65)).heap[w1.heap.size]?=some (.cells (z.map (Value.int .u8)).toArray 65 (0,0))):=heap_alloc_new w1 _;unfold secV;clear hsz;go_wp2_with (first
     |(refine wpList_store_row rfl 65 (.tmp 7) (.tmp 26) rfl w1.heap.size ((z.map (Value.int .u8)).toArray) rfl rfl 65 _ (heap_alloc_new w1 _) HSS.out (by simp[HTK.out.1]) HOK.out ?_)
     |fail)
    rw[World.setRow_alloc_new];have HB3:=hid_ofL (HB1.out.trans (HB2.out.mono HB1.out.size));have HX3:=hid_ofL (And.intro (HXF.out.1.trans (HB2.out.mono HXF.out.1.size)) HXF.out.2);clear HB1 HB2 HXF HSS HOK;generalize w1.alloc (.cells (z.map (Value.int .u8)).toArray 65)=w2 at *;have hlt2:=(Array.getElem?_eq_some_iff.1 HR2.out).1;have A:=hid_ofL (idec_64 (some ⟨w1.heap.size,0,none⟩) 64 z w2 HTK.out.1 HTK.out.2 (.inr ⟨w1.heap.size,0,rfl,hlt2,fun i hi=>by rw[Nat.zero_add,cell_of_row w2 _ i _ _ _ HR2.out];simp[hi]⟩));clear HR2 hlt2;go_wp2_with fail;refine A.out.mono ?_;rintro e w3 ⟨rfl,b3⟩;have HB4:=hid_ofL (HB3.out.trans (b3.mono HB3.out.size));have HX4:=hid_ofL (And.intro (HX3.out.1.trans (b3.mono HX3.out.1.size)) HX3.out.2);clear A b3 HB3 HX3 HTX HFS HRD HJS;cases hdec:decB z with
    |false=>
     rw[decV_no hdec];unfold fNo;have HN:=hid_ofL (HNO.out (.inl hdec));clear HYS HNO;have HB5:Hid (Below w3.heap.size w3 ((w3.alloc (.cells #[.bool false,.int .u32 0,.int .i64 0,.int .u32 0,.int .u32 0] 137)).setRow w3.heap.size #[.bool false,.int .u32 0,.int .i64 0,.int .u32 0,.int .u32 0])):=((Below.refl _ _).alloc (Nat.le_refl _) _).trans ((Wr.setRow _ _ _).below (Nat.le_refl _));have HR5:Hid (((w3.alloc (.cells #[.bool false,.int .u32 0,.int .i64 0,.int .u32 0,.int .u32 0] 137)).setRow w3.heap.size #[.bool false,.int .u32 0,.int .i64 0,.int .u32 0,.int .u32 0]).heap[w3.heap.size]?=some (.cells #[.bool false,.int .u32 0,.int .i64 0,.int .u32 0,.int .u32 0] 137 (0,0))):=setRow_heap _ _ _ _ _ _ (heap_alloc_new w3 _)
     go_upto_region 8 with (first
      |(refine wpList_store_row rfl 137 (.tmp 8) (.tmp 28) rfl w3.heap.size #[.bool false,.int .u32 0,.int .i64 0,.int .u32 0,.int .u32 0] rfl rfl 137 _ (heap_alloc_new w3 _) HSR.out rfl (all5 _ _ _ _ _) ?_)
      |fail)
     have HX5:=hid_ofL (And.intro (HX4.out.1.trans (HB5.out.mono HX4.out.1.size)) HX4.out.2);have HB6:=hid_ofL (HB4.out.trans (HB5.out.mono HB4.out.size));clear HX4 HB4 HB5;generalize (w3.alloc (.cells #[.bool false,.int .u32 0,.int .i64 0,.int .u32 0,.int .u32 0] 137)).setRow w3.heap.size #[.bool false,.int .u32 0,.int .i64 0,.int .u32 0,.int .u32 0]=w4 at *;generalize w3.heap.size=Q at *;have c0:=cell_of_row w4 Q 0 _ _ _ HR5.out;simp at c0;obtain⟨G,hG,hE⟩:=HX5.out.2;rw[HN.out,List.append_nil] at hE;have HF:Hid (FO w.heap.size w4 u5 (jrF zs ps J tl J) k∧Below w.heap.size w w4):=by rw[←hE];exact⟨hG.below HB6.out,HX5.out.1⟩
     clear hG hE HX5 HN HR5 HB6;go_wp2;try rw[Exit.noGoto_ret]
     go_ret
     exact⟨_,_,rfl,HF.out.1,HF.out.2⟩
    |true=>
     rw[decV_yes hdec];unfold fOk;have u0:=num4_u32 z HTK.out.2 0;have HFR:Hid (fr4 z=[num4 z 0,z.getD 6 0,num4 z 8,num4 z 12]):=rfl;have HYS2:=hid_ofL (HYS.out hdec);have HNO2:=hid_ofL (fun h=>HNO.out (.inr h));clear HYS HNO hdec;rw[HFR.out] at HYS2;generalize num4 z 0=s at *;generalize z.getD 6 0=kd at *;generalize num4 z 8=p at *;generalize num4 z 12=y at *;clear HTK HFR;have HB5:Hid (Below w3.heap.size w3 ((w3.alloc (.cells #[.bool false,.int .u32 0,.int .i64 0,.int .u32 0,.int .u32 0] 137)).setRow w3.heap.size #[.bool true,.int .u32 s,.int .i64 kd,.int .u32 p,.int .u32 y])):=((Below.refl _ _).alloc (Nat.le_refl _) _).trans ((Wr.setRow _ _ _).below (Nat.le_refl _));have HR5:Hid (((w3.alloc (.cells #[.bool false,.int .u32 0,.int .i64 0,.int .u32 0,.int .u32 0] 137)).setRow w3.heap.size #[.bool true,.int .u32 s,.int .i64 kd,.int .u32 p,.int .u32 y]).heap[w3.heap.size]?=some (.cells #[.bool true,.int .u32 s,.int .i64 kd,.int .u32 p,.int .u32 y] 137 (0,0))):=setRow_heap _ _ _ _ _ _ (heap_alloc_new w3 _)
     go_upto_region 8 with (first
      |(refine wpList_store_row rfl 137 (.tmp 8) (.tmp 28) rfl w3.heap.size #[.bool true,.int .u32 s,.int .i64 kd,.int .u32 p,.int .u32 y] rfl rfl 137 _ (heap_alloc_new w3 _) HSR.out rfl (all5 _ _ _ _ _) ?_)
      |fail)
     have HX5:=hid_ofL (And.intro (HX4.out.1.trans (HB5.out.mono HX4.out.1.size)) HX4.out.2);have HB6:=hid_ofL (HB4.out.trans (HB5.out.mono HB4.out.size));clear HX4 HB4 HB5;generalize (w3.alloc (.cells #[.bool false,.int .u32 0,.int .i64 0,.int .u32 0,.int .u32 0] 137)).setRow w3.heap.size #[.bool true,.int .u32 s,.int .i64 kd,.int .u32 p,.int .u32 y]=w4 at *;generalize w3.heap.size=Q at *;have c0:=cell_of_row w4 Q 0 _ _ _ HR5.out;have c1:=cell_of_row w4 Q 1 _ _ _ HR5.out;have c2:=cell_of_row w4 Q 2 _ _ _ HR5.out;have c3:=cell_of_row w4 Q 3 _ _ _ HR5.out;have c4:=cell_of_row w4 Q 4 _ _ _ HR5.out;simp at c0 c1 c2 c3 c4;by_cases hs:s=qi
     ·have hs':(s != qi)=false:=by simp[hs]
      obtain⟨G,hG,hE⟩:=HX5.out.2;have HQ:Hid ((G++[s,kd,p,y])++jrF zs ps J (tl+(k+1)) (J-(k+1))=jrF zs ps J tl J):=by
       show _=_
       have e:=HYS2.out hs;rw[show J-(k+1)+1=J-k by omega] at e;rw[←hE,e,List.append_assoc];rfl
      have hGO:=hG.below HB6.out;have hsz6:=HX5.out.1.size;have HA:=hid_ofL (hGO.alloc (.cells #[.int .u32 s,.int .i64 kd,.int .u32 p,.int .u32 y] 92));have HBF:=hid_ofL HX5.out.1;clear hG hE hGO HYS2 HNO2 HX5 HB6;subst hs;clear hs';have hs':(s != s)=false:=by simp
      go_wp2_with (at_builtin;refine wpList_appF _ rfl _ _ rfl w.heap.size _ G k rfl HA.out w4 s kd p y rfl rfl ?f1 ?f2 ?_)
      case f1=>omega
      case f2=>rw[World.size_alloc];omega
      intro v' w5 hO5 hB5;have HJ:Hid (JX w zs ps J tl (k+1) v' w5):=⟨(HBF.out.alloc hsz6 _).trans hB5,_,hO5,HQ.out⟩
      clear hO5 hB5 HA HBF HQ HR5 c0 c1 c2 c3 c4;go_wp2;go_roundw
      case rel=>exact⟨k+1,s+1,by omega,by have:=HQI.out;omega,by go_num,HJ.out⟩
      case measure=>simp[intOf];omega
     ·have hs':(s != qi)=true:=by simp[hs]
      have HN:=hid_ofL (HNO2.out hs);clear HYS2 HNO2;obtain⟨G,hG,hE⟩:=HX5.out.2;rw[HN.out,List.append_nil] at hE;have HF:Hid (FO w.heap.size w4 u5 (jrF zs ps J tl J) k∧Below w.heap.size w w4):=by rw[←hE];exact⟨hG.below HB6.out,HX5.out.1⟩
      clear hG hE HX5 HN HR5 HB6;go_wp2;try rw[Exit.noGoto_ret]
      go_ret
      exact⟨_,_,rfl,HF.out.1,HF.out.2⟩
   ·have hkJ':¬ (k:Int)<(J:Int):=by omega
    obtain rfl:k=J:=by omega
    obtain⟨G,hG,hE⟩:=HX.out.fo;rw[Nat.sub_self,jrF_no (.inl rfl),List.append_nil] at hE;have HF:Hid (FO w.heap.size wr u5 (jrF zs ps k tl k) k∧Below w.heap.size w wr):=by rw[←hE];exact⟨hG,HX.out.bel⟩
    clear hG hE HX HJS HFS HRD HTX;go_wp2;try rw[Exit.noGoto_ret]
    go_ret
    exact⟨_,_,rfl,HF.out.1,HF.out.2⟩
  ·have HNL:Hid (jrF zs ps J (tl+k) (J-k)=[]):=jrF_no (.inr (.inl (by have:=HQN.out;omega)));obtain⟨G,hG,hE⟩:=HX.out.fo;rw[HNL.out,List.append_nil] at hE;have HF:Hid (FO w.heap.size wr u5 (jrF zs ps J tl J) k∧Below w.heap.size w wr):=by rw[←hE];exact⟨hG,HX.out.bel⟩
   clear hG hE HX HJS HFS HRD HTX HNL;go_wp2;try rw[Exit.noGoto_ret]
   go_ret
   exact⟨_,_,rfl,HF.out.1,HF.out.2⟩
open Classical in
theorem SerP.le {U:List Int} (h:SerP U):U.length≤256:=by
 have e:=SerP.eq_upTo h (fun v=>decide ((v:Int)∈U)) (fun v _=>by simp);rw[←e];exact upTo_len _ _
theorem StP.bd {D U:List Int} {k:Int} {T:List Int} {n:Nat} (h:StP D U k T n):0≤k∧k≤256∧n≤256:=by
 have:=h.2.2.1.le;have h4:=h.2.2.2.1;have h5:=h.2.2.2.2.1;omega
structure AX (w:World) (H B g:Nat) (r:ApR) (wr:World):Prop where
 bel:Below H w wr
 bk:∃ d u v,Bk wr g d u r.k v∧SetB d (fun x=>(x:Int)∈r.D)∧SetB u (fun x=>(x:Int)∈r.U)∧TapV B wr v r.T r.n∧NeG g v
set_option maxRecDepth 100000 in
set_option maxHeartbeats 4000000 in
theorem applyAll_any (ad:Option Addr) (n c:Nat) (F:List Int) (w:World) (g H B:Nat) (r0:ApR) (ho:r0.ok=true) (hF:FAt w ad F) (hl:F.length=n*4) (hn:n≤1000) (hFB:FrB F) (hlo:∀ x,ad=some x→x.block<H)
  (hX:AX w H B g r0 w) (hst:StP r0.D r0.U r0.k r0.T r0.n) (hT:r0.T.length=r0.n*2) (hH:H≤g) (hHB:H≤B) (hBw:B≤w.heap.size) (hHw:H≤w.heap.size) :
  Calls Tryz.prog 53 #[.pointer (some ⟨g,0,none⟩),.slice ad n c] w (fun e w'=>e=.returned (.bool (apK r0 F n).ok)∧Below H w w'∧((apK r0 F n).ok=true→AX w H B g (apK r0 F n) w')):=by
 have HX0:=hid_ofL hX;have HSF:Hid ((Tryz.prog.info? 92).map (·.size)=some 4):=by show _=_;kernel_rfl
 have HST:=hid_ofL (fun i hi=>apK_st hFB hst hT i hi);have HFB:=hid_ofL hFB;have HFA:=hid_ofL hF;have HLO:=hid_ofL hlo;have HL:=hid_ofL hl;clear hX hFB hst hT hF hlo hl;go_enter Tryz.func53,Tryz.ntmps53;go_wp2
 go_loopw [9] (fun i wr=>∃ q:Nat,q≤n∧i=.int .i64 q∧(apK r0 F q).ok=true∧AX w H B g (apK r0 F q) wr) (fun i _=>n-(intOf i).toNat)
 case atStart=>exact⟨0,Nat.zero_le _,rfl,ho,HX0.out⟩
 case round=>
  clear HX0;obtain⟨q,hq,rfl,hok,hx⟩:=hrel;have HX:=hid_ofL hx;have HOK:=hid_ofL hok;clear hx hok;by_cases hlt:q<n
  ·have hlt':(q:Int)<(n:Int):=by omega
   obtain⟨b,off,rfl,hb,hc⟩:=HFA.out.get (by rw[HL.out];omega);obtain⟨f0,f1,f2,f3⟩:=FAt.four hc q (by rw[HL.out];omega);obtain⟨⟨p0,p1⟩,y0,y1⟩:=HFB.out q (by rw[HL.out];omega);have hblt:=HLO.out _ rfl;have hbl:b<H:=hblt;have hcl:∀ j,wr.cell? ⟨b,j,none⟩=w.cell? ⟨b,j,none⟩:=fun j=>HX.out.bel.cell (p:=⟨b,j,none⟩) hbl
   have s0:wr.cell? ⟨b,off+q*4,none⟩=_:=(hcl _).trans f0;have s1:wr.cell? ⟨b,off+q*4+1,none⟩=_:=(hcl _).trans f1;have s2:wr.cell? ⟨b,off+q*4+2,none⟩=_:=(hcl _).trans f2;have s3:wr.cell? ⟨b,off+q*4+3,none⟩=_:=(hcl _).trans f3;obtain⟨hstq,hTq⟩:=HST.out q (by rw[HL.out];omega) HOK.out;have HGO:=hid_ofL (apK_go HOK.out);clear f0 f1 f2 f3 hc hcl hblt;generalize F.getD (q*4) 0=s at *;generalize F.getD (q*4+1) 0=kd at *;generalize F.getD (q*4+2) 0=p at *;generalize F.getD (q*4+3) 0=y at *;have HSTQ:=hid_ofL hstq;clear hstq hTq;have hsz:=HX.out.bel.size;have hb1:Below wr.heap.size wr (wr.alloc (.cells #[.int .u32 s,.int .i64 kd,.int .u32 p,.int .u32 y] 92)):=(Below.refl _ _).alloc (Nat.le_refl _) _;have HR1:Hid ((wr.alloc (.cells #[.int .u32 s,.int .i64 kd,.int .u32 p,.int .u32 y] 92)).heap[wr.heap.size]?=some (.cells #[.int .u32 s,.int .i64 kd,.int .u32 p,.int .u32 y] 92 (0,0))):=heap_alloc_new wr _;have A:Hid (Calls Tryz.prog 77 #[.pointer (some ⟨g,0,none⟩),.agg #[.int .u32 s,.int .i64 kd,.int .u32 p,.int .u32 y]] (wr.alloc (.cells #[.int .u32 s,.int .i64 kd,.int .u32 p,.int .u32 y] 92)) (apPost H B g (wr.alloc (.cells #[.int .u32 s,.int .i64 kd,.int .u32 p,.int .u32 y] 92)) (apK r0 F (q+1)))):=by
    obtain⟨d,u,v,k1,k2,k3,k4,k5⟩:=HX.out.bk;obtain⟨z0,z1,z2⟩:=HSTQ.out.bd;rw[HGO.out];have:=apply_any s kd p.toNat y.toNat (by omega) (by omega) (k1.below hb1 k1.lt) k2 k3 (k4.alloc (.cells #[.int .u32 s,.int .i64 kd,.int .u32 p,.int .u32 y] 92)) HSTQ.out.1 z0 (by omega) (by omega) hH hHB k5 (by rw[World.size_alloc];omega);rw[Int.toNat_of_nonneg p0,Int.toNat_of_nonneg y0] at this;exact this
   have HB1:Hid (Below H w (wr.alloc (.cells #[.int .u32 s,.int .i64 kd,.int .u32 p,.int .u32 y] 92))):=HX.out.bel.trans (hb1.mono (by omega));clear hb1 HX HGO HSTQ
   go_upto_region 4 with (first
    |(refine wpList_store_row rfl 92 (.tmp 6) (.tmp 12) rfl wr.heap.size #[.int .u32 s,.int .i64 kd,.int .u32 p,.int .u32 y] rfl rfl 92 _ (heap_alloc_new wr _) HSF.out rfl (all4 _ _ _ _) ?_)
    |fail)
   rw[World.setRow_alloc_new];generalize wr.alloc (.cells #[.int .u32 s,.int .i64 kd,.int .u32 p,.int .u32 y] 92)=w1 at *;generalize wr.heap.size=Q at *;clear s0 s1 s2 s3;go_wp2_with (first
    |(refine wpList_load_row rfl 92 (.tmp 6) rfl Q rfl 92 _ (0,0) _ HR1.out Tryz.underlying92 rfl HSF.out ?_)
    |fail)
   refine A.out.mono ?_;rintro e w2 ⟨rfl,b2,hok2⟩;clear A HR1;cases hk:(apK r0 F (q+1)).ok with
   |false=>
    have HE:Hid ((apK r0 F n).ok=false):=by
     show _=_
     by_cases e:q+1=n
     ·rw[←e];exact hk
     ·have:=apK_end hk (n-(q+2));rw[show q+1+1+(n-(q+2))=n by omega] at this;rw[this];rfl
    have HF:=hid_ofL (HB1.out.trans b2);clear b2 hok2 HB1;go_wp2
    go_ret
    exact⟨by rw[HE.out];rfl,HF.out,fun h=>by rw[HE.out] at h;cases h⟩
   |true=>
    have HF:Hid (AX w H B g (apK r0 F (q+1)) w2):=⟨HB1.out.trans b2,hok2 hk⟩
    have HK:=hid_ofL hk;clear b2 hok2 HB1 hk;go_wp2;go_roundw
    case rel=>exact⟨q+1,by omega,by go_num,HK.out,HF.out⟩
    case measure=>simp[intOf];omega
  ·obtain rfl:q=n:=by omega
   go_wp2
   go_ret
   exact⟨by rw[HOK.out];rfl,HX.out.bel,fun _=>HX.out⟩
section
variable (ok:Bool) (gn tl:Int) (aD aU:Option Addr) (nD cD nU cU:Nat) (k:Int) (w:World)
end
structure YR (D g:Nat) (w w':World):Prop where
 os:w'.os=w.os
 tape:w'.tape=w.tape
 output:w'.output=w.output
 size:w.heap.size≤w'.heap.size
 block:∀ k,k<w.heap.size→k≠D→k≠g→w'.heap[k]?=w.heap[k]?
theorem YR.trans {D g:Nat} {a b c:World} (h:YR D g a b) (k:YR D g b c):YR D g a c:=
 ⟨k.os.trans h.os,k.tape.trans h.tape,k.output.trans h.output,Nat.le_trans h.size k.size,fun i hi h1 h2=>(k.block i (by have:=h.size;omega) h1 h2).trans (h.block i hi h1 h2)⟩
theorem YR.of_wr {D g:Nat} {a b:World} (h:Wr D a b):YR D g a b:=⟨h.os,h.tape,h.output,by rw[h.size];exact Nat.le_refl _,fun k _ h1 _=>h.block k h1⟩
theorem YR.of_below {D g:Nat} {a b:World} (h:Below a.heap.size a b):YR D g a b:=⟨h.os,h.tape,h.output,h.size,fun k hk _ _=>h.block k hk⟩
theorem YR.of_ch {D g:Nat} {a b:World} (h:Ch g (g+1) a b):YR D g a b:=⟨h.os,h.tape,h.output,h.size,fun k hk _ h2=>h.block k hk (by omega)⟩
structure YS (X:List Value) (T:TypeId) (w wr:World) (D g L gc B:Nat) (cv:Value) (F:Int) (y:List Int):Prop where
 yr:YR D g w wr
 row:wr.heap[D]?=some (.cells (DC (.slice (some ⟨g,0,none⟩) L gc) cv F false X) T (0,0))
 own:Own wr B (.slice (some ⟨g,0,none⟩) L gc) y
theorem YS.grow {X:List Value} {T:TypeId} {w wr w':World} {D g L gc B:Nat} {cv:Value} {F:Int} {y:List Int} (h:YS X T w wr D g L gc B cv F y) (hb:Below wr.heap.size wr w'):YS X T w w' D g L gc B cv F y:=
 ⟨h.yr.trans (YR.of_below hb),by rw[hb.block _ (Array.getElem?_eq_some_iff.1 h.row).1];exact h.row,h.own.grow hb⟩
theorem YS.turn {X:List Value} {T:TypeId} {w wr w':World} {D g L gc B:Nat} {cv:Value} {F:Int} {y z:List Int} (h:YS X T w wr D g L gc B cv F y) (hc:Ch g (g+1) wr w') (hD:D≠g) (ho:Own w' B (.slice (some ⟨g,0,none⟩) L gc) z):YS X T w w' D g L gc B cv F z:=
 ⟨h.yr.trans (YR.of_ch hc),by rw[hc.block _ (Array.getElem?_eq_some_iff.1 h.row).1 (by omega)];exact h.row,ho⟩
structure YX (X:List Value) (T:TypeId) (w w':World) (D g L gc B:Nat) (cv:Value) (F:Int) (P s:Nat) (pc:Array Value) (y0:List Int):Prop where
 st:∃ y,YS X T w w' D g L gc B cv F y∧y.length=L∧y.take (s*64)=y0.take (s*64)∧y.drop (s*64+64)=y0.drop (s*64+64)
 pbx:w'.heap[P]?=some (.cells pc 63 (0,0))
 gp:g<P
theorem YX.grow {X:List Value} {T:TypeId} {w wr w':World} {D g L gc B:Nat} {cv:Value} {F:Int} {P s:Nat} {pc:Array Value} {y0:List Int} (h:YX X T w wr D g L gc B cv F P s pc y0) (hb:Below wr.heap.size wr w'):YX X T w w' D g L gc B cv F P s pc y0:=by
 obtain⟨y,h1,h2⟩:=h.st;exact⟨⟨y,h1.grow hb,h2⟩,by rw[hb.block _ (Array.getElem?_eq_some_iff.1 h.pbx).1];exact h.pbx,h.gp⟩
def GZ (X:List Value) (T:TypeId) (w:World) (D g L gc B:Nat) (cv:Value) (F:Int) (P s b6 o6 c6:Nat) (dz Y:List Int):Nat→World→(Nat→Value)→Prop
 |0,_,u=>u 0=.pointer (some ⟨D,0,none⟩)
 |1,_,u=>u 1=.pointer (some ⟨P,0,none⟩)
 |2,_,u=>u 2=.int .i64 s
 |3,_,u=>u 3=.pointer (some ⟨P,1,none⟩)
 |4,_,u=>u 4=.slice (some ⟨b6,o6,none⟩) 64 c6
 |5,_,u=>u 5=secV dz
 |_,w',_=>YS X T w w' D g L gc B cv F Y
set_option maxHeartbeats 400000 in
set_option maxRecDepth 100000 in
theorem sync_no (D:Nat) (a b:Value) (w:World) {X:List Value} {T:TypeId} (h:w.heap[D]?=some (.cells (DC a b 0 false X) T (0,0))) :
  Calls Tryz.prog 28 #[.pointer (some ⟨D,0,none⟩)] w fun e w'=>e=.panicked [{ v:=lossV,recovered:=false }]∧w'.heap[D]?=some (.cells (DC a b 0 true X) T (0,0))∧Wr D w w':=by
 go_enter Tryz.func28,Tryz.ntmps28;go_wp2_with fail;refine(burn_no D a b false w h).mono ?_;rintro e w1 ⟨rfl,h1,h2⟩;exact⟨rfl,rfl,h1,h2⟩
set_option maxHeartbeats 2000000 in
set_option maxRecDepth 100000 in
theorem sync_yes (D g L gc B:Nat) (ca:Option Addr) (m cc:Nat) (f:Int) (zs:List Int) (ps:List PD) (B1 U:Nat) (w:World) {X:List Value} {T:TypeId} (h:w.heap[D]?=some (.cells (DC (.slice (some ⟨g,0,none⟩) L gc) (.slice ca m cc) f false X) T (0,0)))
  (hO:Own w B (.slice (some ⟨g,0,none⟩) L gc) zs) (hP:PMine B1 U w ca ps) (hgB:g<B1) (hUD:U≤D∨(D<B1∧U≤w.heap.size)) (hL:zs.length=L) (hm:ps.length=m) (hz:L≤1048576) (hn:m≤1048576) (v1:L%64=0) (hok:PsOk L ps) (hf:f=-1∨0<f) (hf2:f≤9223372036854775807) (hT:T≠5:=by decide) :
  Calls Tryz.prog 28 #[.pointer (some ⟨D,0,none⟩)] w fun e w'=>e=.returned (.tuple #[])∧w'.heap[D]?=some (.cells (DC (.slice (some ⟨g,0,none⟩) L gc) (.slice none 0 0) (stF f) false X) T (0,0))∧Own w' B (.slice (some ⟨g,0,none⟩) L gc) (syL zs ps m)∧YR D g w w':=by
 have HSP:Hid _:=Tryz.sizePd;have hDg:D≠g:=by
  intro e;obtain⟨_,_,cur,h3⟩:=ownsRow_lt hO.1 g rfl;rw[←e,h] at h3;simp at h3;exact hT h3.2
 have hgw:=(ownsRow_lt hO.1 g rfl).2.1;have hDw:=(Array.getElem?_eq_some_iff.1 h).1;have HP:Hid (PMine B1 U w ca ps):=hP;have HOK:Hid (PsOk L ps):=hok;have HHL:Hid (zs.length=L∧ps.length=m):=⟨hL,hm⟩
 have HLN:Hid (∀ k,k≤m→(syL zs ps k).length=L):=fun k hk=>by rw[syL_len (by rw[hL];exact hok) (by rw[hL];exact v1) k (by rw[hm];exact hk),hL]
 have HROW:Hid _:=h;have HOWN:Hid (Own w B (.slice (some ⟨g,0,none⟩) L gc) zs):=hO;have HBURN:=burn_yes D _ _ f false w h hf hf2;clear h hO hP hok hL hm;go_enter Tryz.func28,Tryz.ntmps28;go_wp2_with fail;refine HBURN.mono ?_;clear HBURN HROW;rintro e w1 ⟨rfl,hr1,hw1⟩;obtain⟨F,hF⟩:∃ F,stF f=F:=⟨_,rfl⟩
 rw[hF] at hr1;have HF:Hid (stF f=F):=hF;clear hF;have st1:YS X T w w1 D g L gc B (.slice ca m cc) F (syL zs ps 0):=⟨YR.of_wr hw1,hr1,Own.keep HOWN.out (fun k e=>hw1.block k (by simp[Value.ownBlock] at e;omega))⟩
 obtain⟨c0,c1,c2,c3⟩:=row4x st1.row;have HS1:Hid (YS X T w w1 D g L gc B (.slice ca m cc) F (syL zs ps 0)):=st1;clear st1 hr1 hw1 HOWN;go_wp2;have st1:=HS1.out;clear HS1 c0 c1 c2 c3
 go_loopw [11] (fun i wr=>∃ k:Nat,k≤m∧i=.int .i64 k∧YS X T w wr D g L gc B (.slice ca m cc) F (syL zs ps k)) (fun i _=>m-(intOf i).toNat)
 case atStart=>exact⟨0,Nat.zero_le _,rfl,st1⟩
 case round=>
  obtain⟨k,hk,rfl,st⟩:=hrel;clear st1;have hlen:=HLN.out k hk;by_cases hlt:k<m
  ·obtain⟨s,hs,hsl,hd⟩:=PsOk.at_ HOK.out v1 (i:=k) (by rw[HHL.out.2];exact hlt);have hPr:PMine B1 U wr ca ps:=PMine.keep HP.out (fun j hj hj'=>st.yr.block j (by omega) (by omega) (by omega)) st.yr.size;obtain⟨b5,o5,b6,o6,c6,rfl,hb5,q1,q2,q3,q4⟩:=hPr.entry (i:=k) (by rw[HHL.out.2];exact hlt) (by rw[hd];decide);have hnew:=syL_succ (zs:=zs) (by rw[HHL.out.2];exact hlt) hs hd;rw[hs] at q1;rw[hd] at q2;have hb6:PMine B1 U wr (some ⟨b5,o5,none⟩) ps:=hPr;have hlt':(k:Int)<m:=by omega
   have HST:Hid (YS X T w wr D g L gc B (.slice (some ⟨b5,o5,none⟩) m cc) F (syL zs ps k)):=st;have HNEW:Hid (syL zs ps (k+1)=overL (syL zs ps k) s (ps.getD k (0,[])).2):=hnew;have HD:Hid ((ps.getD k (0,[])).2.length=64):=hd;have HLK:Hid ((syL zs ps k).length=L):=hlen;have HPR:Hid (PMine B1 U wr (some ⟨b5,o5,none⟩) ps):=hPr;have HSEC:Hid (∀ ww:World,At .u8 ww (some ⟨b6,o6,none⟩) (ps.getD k (0,[])).2→Calls Tryz.prog 23 #[.slice (some ⟨b6,o6,none⟩) 64 c6] ww fun e w'=>e=.returned (secV ((ps.getD k (0,[])).2.take 64))∧Below ww.heap.size ww w'):=fun ww h1=>sectorOf_any (some ⟨b6,o6,none⟩) 64 c6 (ps.getD k (0,[])).2 ww hd (Nat.le_refl _) h1
   have HQ4:Hid (At .u8 wr (some ⟨b6,o6,none⟩) (ps.getD k (0,[])).2):=q4;have hgw':g<wr.heap.size:=by have:=st.yr.size;omega
   have hb6b:∃ j6,j6=b6∧b6≠g:=by
    refine⟨b6,rfl,?_⟩;rcases hPr with h|⟨gg,oo,X,C,e1,e2,e3,e4,e5,e6⟩
    ·have:=HHL.out.2;rw[h] at this;simp at this;omega
    ·obtain⟨p1,p2,p3,p4,p5,p6,p7⟩:=e5 k (by rw[HHL.out.2];exact hlt);cases e1;rw[p3,hd] at q2;simp at q2;have:=p6 ⟨b6,o6,none⟩ q2.1;have h1:B1≤b6:=this.1;omega
   obtain⟨_,_,hb6g⟩:=hb6b;clear st hnew hd hlen q4 hPr hb6 hs;go_wp2_with (refine wpList_storeW rfl 63 (.tmp 3) (.tmp 14) rfl wr.heap.size #[.int .i64 s,.slice (some ⟨b6,o6,none⟩) 64 c6] rfl rfl 63 _ (heap_alloc_new wr _) HSP.out rfl (all2p _ _ _ _) ?_);intro w3 hr3 hw3;have hb3:Below wr.heap.size wr w3:=((Below.refl _ _).alloc (Nat.le_refl _) _).trans (hw3.below (Nat.le_refl _));have hPl:wr.heap.size<w3.heap.size:=(Array.getElem?_eq_some_iff.1 hr3).1;have HX3:Hid (YX X T w w3 D g L gc B (.slice (some ⟨b5,o5,none⟩) m cc) F wr.heap.size s #[.int .i64 s,.slice (some ⟨b6,o6,none⟩) 64 c6] (syL zs ps k)):=
    ⟨⟨_,YS.grow HST.out hb3,HLK.out,rfl,rfl⟩,hr3,hgw'⟩
   have HA3:Hid (At .u8 w3 (some ⟨b6,o6,none⟩) (ps.getD k (0,[])).2):=At.below HQ4.out hb3;clear hr3 hw3 hb3 HST HQ4 q1 q2 hb5;generalize wr.heap.size=P at *;have hdl:((ps.getD k (0,[])).2.take 64).length=64:=by rw[List.length_take,HD.out];rfl
   have HDL:Hid (((ps.getD k (0,[])).2.take 64).length=64):=hdl;have HMIX:Hid (∀ yy:List Int,yy.length=L→yy.take (s*64)=(syL zs ps k).take (s*64)→yy.drop (s*64+64)=(syL zs ps k).drop (s*64+64)→overL yy s ((ps.getD k (0,[])).2.take 64)=syL zs ps (k+1)):=by
    intro yy h1 h2 h3;have hdt:(ps.getD k (0,[])).2.take 64=(ps.getD k (0,[])).2:=List.take_of_length_le (by rw[HD.out];exact Nat.le_refl _);rw[HNEW.out,hdt];unfold overL;rw[HD.out,h2,h3]
   obtain⟨Y,hY⟩:∃ Y,syL zs ps (k+1)=Y:=⟨_,rfl⟩
   obtain⟨dz,hdz⟩:∃ dz,(ps.getD k (0,[])).2.take 64=dz:=⟨_,rfl⟩
   rw[hdz] at HDL HSEC;rw[hdz,hY] at HMIX;have HY:Hid (syL zs ps (k+1)=Y):=hY;clear hlt' HNEW hdl hY hdz HLK;go_wp2_with fail;refine wp_region_any (by kernel_rfl) ?_;refine wpAny_slots2 (frame:=(fun (a b c d e f g h i j k l m n o p q r s:Value)=>fun (t:Nat→Value)=>({ tmps:=List.toArray [a,b,c,d,e,f,g,h,i,j,k,l,m,n,o,t 0,t 1,t 2,t 3,t 4,t 5,t 6,p,q,r,s],defers:=[] }:Act)) _ _ _ _ _ _ _ _ _ _ _ _ _ _ _ _ _ _ _)
    (Ext:=fun w'=>YX X T w w' D g L gc B (.slice (some ⟨b5,o5,none⟩) m cc) F P s #[.int .i64 s,.slice (some ⟨b6,o6,none⟩) 64 c6] (syL zs ps k)∧At .u8 w' (some ⟨b6,o6,none⟩) (ps.getD k (0,[])).2) (Good:=GZ X T w D g L gc B (.slice (some ⟨b5,o5,none⟩) m cc) F P s b6 o6 c6 dz Y) (M:=fun i w w'=>i≠6→Below w.heap.size w w') ?hstab (by kernel_rfl) ?hop ?hdone _ _ ((fun (x0 x1 x2 x3 x4 x5 x6:Value)=>fun (i:Nat)=>if i=0 then x0 else if i=1 then x1 else if i=2 then x2 else if i=3 then x3 else if i=4 then x4 else if i=5 then x5 else if i=6 then x6 else undef) _ _ _ _ _ _ _) _ (by simp) ?ext ?start ?clo (by simp)
   case start=>intro i hi h;exact absurd h (by rw[Array.getD_eq_getD_getElem?,Array.getElem?_replicate];split<;>simp)
   case clo=>intro i o ho h;exact absurd h (by rw[Array.getD_eq_getD_getElem?,Array.getElem?_replicate];split<;>simp)
   case ext=>exact⟨YX.grow HX3.out (Below.refl _ _).drew,At.below HA3.out (Below.refl _ _).drew⟩
   case hstab=>
    intro j o w1 w2 u i v ho hM hij _ hg;have hj:j<7:=(Array.getElem?_eq_some_iff.1 ho).1;obtain rfl|rfl|rfl|rfl|rfl|rfl|rfl:j=0∨j=1∨j=2∨j=3∨j=4∨j=5∨j=6:=by omega
    all_goals simp only[GZ] at hg ⊢
    all_goals first
     |(rw[upd_ne2 hij];exact hg)
     |exact hg.grow (hM hij)
   case hdone=>
    intro t w2 hx hg;have h9:=hg 6 (by decide);have H9:Hid _:=h9;clear hg hx h9;dsimp only;generalize t 0=t0;generalize t 1=t1;generalize t 2=t2;generalize t 3=t3;generalize t 4=t4;generalize t 5=t5;generalize t 6=t6;go_wp2;go_roundw
    case rel=>exact⟨k+1,by omega,by go_num,by rw[HY.out];exact H9.out⟩
    case measure=>simp[intOf];omega
   case hop=>
    intro i o t w' ho hx hdep K hK;obtain⟨hx,hAx⟩:=hx;have hi:i<7:=(Array.getElem?_eq_some_iff.1 ho).1;obtain⟨p0,p1⟩:=row2 hx.pbx;obtain⟨yy,hil,hyl,hy1,hy2⟩:=hx.st;have HIL:Hid (YS X T w w' D g L gc B (.slice (some ⟨b5,o5,none⟩) m cc) F yy):=hil;clear hil;obtain rfl|rfl|rfl|rfl|rfl|rfl|rfl:i=0∨i=1∨i=2∨i=3∨i=4∨i=5∨i=6:=by omega
    all_goals(simp at ho;subst ho)
    ·clear hdep;go_simp;exact hK w' (.pointer (some ⟨D,0,none⟩)) rfl ⟨hx,hAx⟩ (fun _=>Below.refl _ _)
    ·clear hdep;go_simp;exact hK w' (.pointer (some ⟨P,0,none⟩)) rfl ⟨hx,hAx⟩ (fun _=>Below.refl _ _)
    ·have d1:t 1=_:=hdep ⟨1,.data⟩ (by simp) rfl;clear hdep;go_simp;simpa[upd,d1] using hK w' (.int .i64 s) rfl ⟨hx,hAx⟩ (fun _=>Below.refl _ _)
    ·clear hdep;go_simp;exact hK w' (.pointer (some ⟨P,1,none⟩)) rfl ⟨hx,hAx⟩ (fun _=>Below.refl _ _)
    ·have d3:t 3=_:=hdep ⟨3,.data⟩ (by simp) rfl;clear hdep;go_simp;simpa[upd,d3] using hK w' (.slice (some ⟨b6,o6,none⟩) 64 c6) rfl ⟨hx,hAx⟩ (fun _=>Below.refl _ _)
    ·have d4:t 4=_:=hdep ⟨4,.data⟩ (by simp) rfl;clear hdep;have e:=HSEC.out w' hAx;go_simp;refine e.mono ?_;rintro e w9 ⟨rfl,hb9⟩;have hK':=hK w9 (secV dz) rfl ⟨hx.grow hb9,hAx.below hb9⟩ (fun _=>hb9);clear hK;go_simp;simpa[upd,d4] using hK'
    ·have d0:t 0=_:=hdep ⟨0,.data⟩ (by simp) rfl;have d2:t 2=_:=hdep ⟨2,.data⟩ (by simp) rfl;have d5:t 5=_:=hdep ⟨5,.data⟩ (by simp) rfl;clear hdep;have hmix:=HMIX.out yy hyl hy1 hy2;have hdl:=HDL.out;have hst:=store_any D g L gc (some ⟨b5,o5,none⟩) m cc F false s B yy dz w' HIL.out.row HIL.out.own hyl hz hdl hsl hT;have hov:(overL yy s dz).length=L:=by rw[overL_len _ _ _ (by omega)];exact hyl
     have htk:(overL yy s dz).take (s*64)=yy.take (s*64):=by
      unfold overL;rw[List.take_append_of_le_length (by simp;omega),List.take_take,Nat.min_self]
     have hdr:(overL yy s dz).drop (s*64+64)=yy.drop (s*64+64):=by
      unfold overL;rw[hdl,←List.append_assoc,List.drop_append_of_le_length (by rw[List.length_append,hdl,List.length_take];omega),List.drop_eq_nil_of_le (by rw[List.length_append,hdl,List.length_take];omega)];simp
     rw[hmix] at hst hov htk hdr;rw[hy1] at htk;rw[hy2] at hdr;have HFIN:Hid _:=And.intro hov (And.intro htk hdr);clear hov htk hdr hmix hdl hy1 hy2;go_simp;refine hst.mono ?_;rintro e w9 ⟨rfl,ho9,hc9⟩;have st9:=YS.turn HIL.out hc9 hDg ho9;have hPl':P<w'.heap.size:=(Array.getElem?_eq_some_iff.1 hx.pbx).1;have hgp:=hx.gp;have hX9:YX X T w w9 D g L gc B (.slice (some ⟨b5,o5,none⟩) m cc) F P s #[.int .i64 s,.slice (some ⟨b6,o6,none⟩) 64 c6] (syL zs ps k):=
      ⟨⟨_,st9,HFIN.out.1,HFIN.out.2.1,HFIN.out.2.2⟩,by rw[hc9.block _ hPl' (.inr (by omega))];exact hx.pbx,hgp⟩
     have hA9:At .u8 w9 (some ⟨b6,o6,none⟩) (ps.getD k (0,[])).2:=hAx.keep (fun ad e=>by
      cases e;rcases hAx with h|⟨bb,oo,e1,e2,_⟩
      ·have:=HD.out;rw[h] at this;simp at this
      ·cases e1;exact hc9.block b6 e2 (by omega)) hc9.size
     have hK':=hK w9 (.tuple #[]) st9 ⟨hX9,hA9⟩ (fun h=>absurd rfl h);clear hK;go_simp;simpa[upd,d0,d2,d5] using hK'
  ·have hkm:k=m:=by omega
   subst hkm;have hlt':¬ (k:Int)<k:=by omega
   obtain⟨c0,c1,c2,c3⟩:=row4x st.row;have f1:=frozen_of_row wr D 1 _ _ st.row;have HR:Hid ((wr.setCell ⟨D,1,none⟩ (.slice none 0 0)).heap[D]?=some (.cells (DC (.slice (some ⟨g,0,none⟩) L gc) (.slice none 0 0) F false X) T (0,0))):=row_setCell (i:=1) _ st.row DC.s1;have hwr:Wr D wr (wr.setCell ⟨D,1,none⟩ (.slice none 0 0)):=(Wr.refl D wr).setCell 1 _;have HO:Hid (Own (wr.setCell ⟨D,1,none⟩ (.slice none 0 0)) B (.slice (some ⟨g,0,none⟩) L gc) (syL zs ps k)):=st.own.keep (fun j e=>hwr.block j (by simp[Value.ownBlock] at e;omega));have HY:Hid (YR D g w (wr.setCell ⟨D,1,none⟩ (.slice none 0 0))):=st.yr.trans (YR.of_wr hwr);clear st hwr hlen;go_wp2
   first|go_end0|go_ret
   exact⟨rfl,by rw[HF.out];exact HR.out,HO.out,HY.out⟩
structure WR (D:Nat) (r:Option Nat) (w w':World):Prop where
 os:w'.os=w.os
 tape:w'.tape=w.tape
 output:w'.output=w.output
 size:w.heap.size≤w'.heap.size
 block:∀ k,k<w.heap.size→k≠D→some k≠r→w'.heap[k]?=w.heap[k]?
theorem WR.trans {D:Nat} {r:Option Nat} {a b c:World} (h:WR D r a b) (k:WR D r b c):WR D r a c:=
 ⟨k.os.trans h.os,k.tape.trans h.tape,k.output.trans h.output,Nat.le_trans h.size k.size,fun i hi h1 h2=>(k.block i (by have:=h.size;omega) h1 h2).trans (h.block i hi h1 h2)⟩
theorem WR.of_wr {D:Nat} {r:Option Nat} {a b:World} (h:Wr D a b):WR D r a b:=⟨h.os,h.tape,h.output,by rw[h.size];exact Nat.le_refl _,fun k _ h1 _=>h.block k h1⟩
theorem WR.of_below {D:Nat} {r:Option Nat} {a b:World} (h:Below a.heap.size a b):WR D r a b:=⟨h.os,h.tape,h.output,h.size,fun k hk _ _=>h.block k hk⟩
theorem WR.of_grown {D:Nat} {r:Option Nat} {a b:World} (h:a.grownBy b r):WR D r a b:=⟨h.os,h.tape,h.output,h.size,fun k hk _ hr=>h.block k hk hr⟩
theorem QOk.ty {w:World} {B:Nat} {q:Q1} (h:QOk w B q):∀ k,q.v.ownBlock=some k→∃ cur t,w.heap[k]?=some (.cells cur t (0,0))∧(t=5∨t=65):=by
 intro k e;rcases h with h|⟨k',hv,hb,hl,hr⟩
 ·obtain⟨h1,h2,cur,h3⟩:=h.lt k e;exact⟨cur,_,h3,.inl rfl⟩
 ·rw[hv] at e;cases e;exact⟨_,_,hr,.inr rfl⟩
theorem POwn.keepD {T:TypeId} {w w':World} {B:Nat} {v:Value} {qs:List Q1} (h:POwn w B v qs) (hk:∀(k:Nat) (cur:Array Value) (t:TypeId),w.heap[k]?=some (Obj.cells cur t (0,0))→t≠T→w'.heap[k]?=w.heap[k]?) (hT:T=27∨T=38):POwn w' B v qs:=by
 refine⟨ownsRow_keep h.row (fun k e=>?_),fun i q hi=>(h.each i q hi).keep (fun k e=>?_),h.ord⟩
 ·obtain⟨_,_,cur,h2⟩:=ownsRow_lt h.row k e;exact hk k cur _ h2 (by rcases hT with rfl|rfl<;>decide)
 ·obtain⟨cur,t,h2,h3⟩:=(h.each i q hi).ty k e;exact hk k cur t h2 (by rcases hT with rfl|rfl<;>rcases h3 with rfl|rfl<;>decide)
set_option maxHeartbeats 400000 in
set_option maxRecDepth 100000 in
theorem write_no (D:Nat) (a b:Value) (s:Int) (z:List Int) (w:World) {X:List Value} {T:TypeId} (h:w.heap[D]?=some (.cells (DC a b 0 false X) T (0,0))) :
  Calls Tryz.prog 27 #[.pointer (some ⟨D,0,none⟩),.int .i64 s,secV z] w fun e w'=>e=.panicked [{ v:=lossV,recovered:=false }]∧w'.heap[D]?=some (.cells (DC a b 0 true X) T (0,0))∧WR D none w w':=by
 unfold secV;have hb:=(Below.refl w.heap.size w).alloc (Nat.le_refl _) (.cells (z.map (Value.int .u8)).toArray 65);have hD:=(Array.getElem?_eq_some_iff.1 h).1;have HB:Hid _:=burn_no D a b false (w.alloc (.cells (z.map (Value.int .u8)).toArray 65)) (by rw[hb.block _ hD];exact h);have HBB:Hid (Below w.heap.size w (w.alloc (.cells (z.map (Value.int .u8)).toArray 65))):=hb;clear hb h;go_enter Tryz.func27,Tryz.ntmps27;go_wp2_with fail;refine(show Calls _ _ _ _ _ from HB.out).mono ?_;rintro e w1 ⟨rfl,h1,h2⟩;exact⟨rfl,rfl,h1,(WR.of_below HBB.out).trans (WR.of_wr h2)⟩
def GV (D S E bx:Nat) (cv:Value) (qs:List Q1) (s:Int) (z:List Int):Nat→(Nat→Bool)→World→Value→Prop
 |0,_,_,v=>v=.pointer (some ⟨D,0,none⟩)
 |1,_,_,v=>v=.pointer (some ⟨D,0,none⟩)
 |2,_,_,v=>v=.pointer (some ⟨D,0,none⟩)
 |3,_,_,v=>v=.pointer (some ⟨D,1,none⟩)
 |4,_,_,v=>v=cv
 |5,_,_,v=>v=.int .i64 s
 |6,_,_,v=>v=.slice (some ⟨bx,0,none⟩) 64 64
 |7,_,_,v=>v=.agg #[.int .i64 s,.slice (some ⟨bx,0,none⟩) 64 64]
 |8,_,w,v=>∃ K,v=.slice (some ⟨K,0,none⟩) 1 1∧S≤K∧w.heap[K]?=some (.cells #[.int .i64 s,.slice (some ⟨bx,0,none⟩) 64 64] 63 (0,0))
 |9,_,w,v=>∃ q:Q1,q.s=s∧q.z=z∧POwn w E v (qs++[q])
 |10,_,_,v=>v=.pointer (some ⟨D,0,none⟩)
 |_,_,_,v=>v=.pointer (some ⟨D,1,none⟩)
theorem GV_stab (D S E bx:Nat) (cv:Value) (qs:List Q1) (s:Int) (z:List Int) (hr:∀ k,cv.ownBlock=some k→k<S) (j:Nat) (L:Nat→Bool) (w w':World) (i:Nat) (v:Value)
  (hM:(i≠9→Below w.heap.size w w')∧w.grownBy w' cv.ownBlock) (hij:i≠j) (hL:L i=false) (h:GV D S E bx cv qs s z j L w v):GV D S E bx cv qs s z j (updK L i) w' v:=by
 have hg:=hM.2;unfold GV at *;split at h;all_goals first
  |exact h
  |(obtain⟨K,e,h1,h2⟩:=h;exact⟨K,e,h1,by rw[hg.block _ (Array.getElem?_eq_some_iff.1 h2).1 (fun er=>by have:=hr K er.symm;omega)];exact h2⟩)
  |(obtain⟨q,e1,e2,h⟩:=h;exact⟨q,e1,e2,h.below (hM.1 hij)⟩)
def WrPost (X:List Value) (T:TypeId) (w w':World) (D E:Nat) (dv cv:Value) (qs:List Q1) (f s:Int) (z:List Int):Prop:=
 ∃ cv' q,q.s=s∧q.z=z∧w'.heap[D]?=some (.cells (DC dv cv' (stF f) false X) T (0,0))∧POwn w' E cv' (qs++[q])∧WR D cv.ownBlock w w'
set_option maxHeartbeats 1000000 in
set_option maxRecDepth 100000 in
theorem write_yes (D E:Nat) (dv cv:Value) (qs:List Q1) (f s:Int) (z:List Int) (w:World) {X:List Value} {T:TypeId} (h:w.heap[D]?=some (.cells (DC dv cv f false X) T (0,0))) (hP:POwn w E cv qs) (hE:E≤w.heap.size) (hz:z.length=64) (hf:f=-1∨0<f) (hf2:f≤9223372036854775807) (hql:qs.length≤1048576) (hT:T=27∨T=38:=by decide) :
  Calls Tryz.prog 27 #[.pointer (some ⟨D,0,none⟩),.int .i64 s,secV z] w fun e w'=>e=.returned (.tuple #[])∧WrPost X T w w' D E dv cv qs f s z:=by
 unfold secV;have hb:=(Below.refl w.heap.size w).alloc (Nat.le_refl _) (.cells (z.map (Value.int .u8)).toArray 65);have hD:=(Array.getElem?_eq_some_iff.1 h).1;have HB:Hid _:=burn_yes D dv cv f false (w.alloc (.cells (z.map (Value.int .u8)).toArray 65)) (by rw[hb.block _ hD];exact h) hf hf2;have hrow:Row (w.alloc (.cells (z.map (Value.int .u8)).toArray 65)) w.heap.size 65 z:=heap_alloc_new w _;have HROW:Hid (Row (w.alloc (.cells (z.map (Value.int .u8)).toArray 65)) w.heap.size 65 z):=hrow;have HP1:Hid (POwn (w.alloc (.cells (z.map (Value.int .u8)).toArray 65)) E cv qs):=hP.below hb;have HD1:Hid ((w.alloc (.cells (z.map (Value.int .u8)).toArray 65)).heap[D]?=some (.cells (DC dv cv f false X) T (0,0))):=by unfold Hid;rw[hb.block _ hD];exact h
 have HLT:Hid (∀(i:Nat) (p:Q1) (k:Nat),qs[i]?=some p→p.v.ownBlock=some k→k<w.heap.size):=fun i p k hp e=>((hP.each i p hp).lt k e).2.1
 have hcS:∀ k,cv.ownBlock=some k→k<w.heap.size:=fun k e=>(ownsRow_lt hP.row k e).2.1
 have HCS:Hid _:=hcS;have HBB:Hid (Below w.heap.size w (w.alloc (.cells (z.map (Value.int .u8)).toArray 65))):=hb;have HZ:Hid (z.length=64):=hz;clear hb h hP hz hrow hcS;go_enter Tryz.func27,Tryz.ntmps27;go_wp2_with fail;refine(show Calls _ _ _ _ _ from HB.out).mono ?_;clear HB;rintro e w1 ⟨rfl,hr1,hw1⟩;obtain⟨F,hF⟩:∃ F,stF f=F:=⟨_,rfl⟩
 rw[hF] at hr1;have HF:Hid (stF f=F):=hF;clear hF;have hsz1:w.heap.size<w1.heap.size:=by rw[hw1.size];exact HROW.out.lt
 have HR1:Hid (w1.heap[D]?=some (.cells (DC dv cv F false X) T (0,0))):=hr1;have HROW1:Hid (Row w1 w.heap.size 65 z):=by unfold Hid Row;rw[hw1.block _ (by omega)];exact HROW.out
 have HP2:Hid (POwn w1 E cv qs):=POwn.keepD HP1.out (fun k cur t hh ht=>hw1.block k (fun e=>by rw[e,HD1.out] at hh;simp at hh;exact ht hh.2.symm)) hT;have HW1:Hid (WR D cv.ownBlock w w1):=(WR.of_below HBB.out).trans (WR.of_wr hw1);clear hr1 hw1 HROW HP1 HD1 HBB;have hDc:∀ k,cv.ownBlock=some k→k≠D:=fun k e ek=>by
  obtain⟨_,_,cur,h3⟩:=ownsRow_lt (POwn.row HP2.out) k e;rw[ek,HR1.out] at h3;simp at h3;rcases hT with rfl|rfl<;>exact absurd h3.2 (by decide)
 have HDC:Hid _:=hDc;clear hDc;have hD1:D<w1.heap.size:=by omega
 go_wp2_with fail;refine wp_region_any (by kernel_rfl) ?_;refine wpAny_slotsJ 12 (fun i w w'=>(i≠9→Below w.heap.size w w')∧w.grownBy w' cv.ownBlock) (frame:=(fun (a b c d e f g h:Value)=>fun (t:Nat→Value)=>({ tmps:=List.toArray [a,b,c,d,e,f,g,h,t 0,t 1,t 2,t 3,t 4,t 5,t 6,t 7,t 8,t 9,t 10,t 11],defers:=[] }:Act)) _ _ _ _ _ _ _ _)
  (Ext:=fun Ls w'=>w1.grownBy w' cv.ownBlock∧(Ls 9=false→Below w1.heap.size w1 w')) (Good:=GV D w.heap.size E w.heap.size cv qs s z) (by rfl) (by kernel_rfl) (GV_stab _ _ _ _ _ _ _ _ HCS.out) (by kernel_rfl) (by kernel_rfl) ?hop ?hend _ _ ((fun (x0 x1 x2 x3 x4 x5 x6 x7 x8 x9 x10 x11:Value)=>fun (i:Nat)=>if i=0 then x0 else if i=1 then x1 else if i=2 then x2 else if i=3 then x3 else if i=4 then x4 else if i=5 then x5 else if i=6 then x6 else if i=7 then x7 else if i=8 then x8 else if i=9 then x9 else if i=10 then x10 else if i=11 then x11 else undef) _ _ _ _ _ _ _ _ _ _ _ _) _ (by simp) (by simp) ?ext ?start ?clo (by simp)
 case clo=>intro i o ho h;exact absurd h (by rw[Array.getD_eq_getD_getElem?,Array.getElem?_replicate];split<;>simp)
 case start=>intro i hi h;exact absurd h (by rw[Array.getD_eq_getD_getElem?,Array.getElem?_replicate];split<;>simp)
 case ext=>exact⟨grown_of_below (Below.refl _ _).drew,fun _=>(Below.refl _ _).drew⟩
 case hop=>
  intro i o Ls t w' hil ho hLi hx hdep K hK;obtain⟨hxg,hx9⟩:=hx;have h9:∀(j:Nat) (ww:World),j≠9→Below w'.heap.size w' ww→updK Ls j 9=false→Below w1.heap.size w1 ww:=fun j ww hj hb hL=>by
   have hL':Ls 9=false:=by simpa[updK,Ne.symm hj] using hL
   exact(hx9 hL').trans (hb.mono hxg.size)
  have haf:w'.heap[D]?=some (.cells (DC dv cv F false X) T (0,0)):=by
   rw[hxg.block D hD1 (fun e=>HDC.out D e.symm rfl)];exact HR1.out
  obtain⟨a0,a1,a2,a3⟩:=row4x haf;have REF:Hid (∀ j,j≠9→(w1.grownBy w' cv.ownBlock∧(updK Ls j 9=false→Below w1.heap.size w1 w'))):=fun j hj=>⟨hxg,h9 j w' hj (Below.refl _ _)⟩
  have RM:Hid (∀ j,(j≠9→Below w'.heap.size w' w')∧w'.grownBy w' cv.ownBlock):=fun j=>⟨fun _=>Below.refl _ _,grown_of_below (Below.refl _ _)⟩
  have hs9:=hxg.size;have H9:Hid _:=h9;have HX9:Hid _:=hx9;have HXG:Hid _:=hxg;clear h9 hx9 hxg haf;obtain rfl|rfl|rfl|rfl|rfl|rfl|rfl|rfl|rfl|rfl|rfl|rfl:i=0∨i=1∨i=2∨i=3∨i=4∨i=5∨i=6∨i=7∨i=8∨i=9∨i=10∨i=11:=by omega
  all_goals(simp at ho;subst ho)
  ·clear hdep;go_simp;exact hK w' (.pointer (some ⟨D,0,none⟩)) rfl (REF.out 0 (by decide)) (RM.out 0)
  ·clear hdep;go_simp;exact hK w' (.pointer (some ⟨D,0,none⟩)) rfl (REF.out 1 (by decide)) (RM.out 1)
  ·have d1:t 1=_:=hdep ⟨1,.data⟩ (by simp) rfl;clear hdep;go_simp;simpa[upd,d1] using hK w' (.pointer (some ⟨D,0,none⟩)) rfl (REF.out 2 (by decide)) (RM.out 2)
  ·have d2:t 2=_:=hdep ⟨2,.data⟩ (by simp) rfl;clear hdep;go_simp;simpa[upd,d2] using hK w' (.pointer (some ⟨D,1,none⟩)) rfl (REF.out 3 (by decide)) (RM.out 3)
  ·have d3:t 3=_:=hdep ⟨3,.data⟩ (by simp) rfl;clear hdep;go_simp;simpa[upd,d3] using hK w' (cv) rfl (REF.out 4 (by decide)) (RM.out 4)
  ·clear hdep;go_simp;exact hK w' (.int .i64 s) rfl (REF.out 5 (by decide)) (RM.out 5)
  ·clear hdep;go_simp;exact hK w' (.slice (some ⟨w.heap.size,0,none⟩) 64 64) rfl (REF.out 6 (by decide)) (RM.out 6)
  ·have d5:t 5=_:=hdep ⟨5,.data⟩ (by simp) rfl;have d6:t 6=_:=hdep ⟨6,.data⟩ (by simp) rfl;clear hdep;go_simp;simpa[upd,d5,d6] using hK w' (.agg #[.int .i64 s,.slice (some ⟨w.heap.size,0,none⟩) 64 64]) rfl (REF.out 7 (by decide)) (RM.out 7)
  ·have d7:t 7=_:=hdep ⟨7,.data⟩ (by simp) rfl;clear hdep;have hb9:=(Below.refl w'.heap.size w').alloc (Nat.le_refl _) (.cells #[.int .i64 s,.slice (some ⟨w.heap.size,0,none⟩) 64 64] 63);have hK':=hK (w'.alloc (.cells #[.int .i64 s,.slice (some ⟨w.heap.size,0,none⟩) 64 64] 63)) (.slice (some ⟨w'.heap.size,0,none⟩) 1 1) ⟨w'.heap.size,rfl,by omega,heap_alloc_new w' _⟩ ⟨grown_trans HXG.out (grown_of_below hb9),H9.out 8 _ (by decide) hb9⟩ ⟨fun _=>hb9,grown_of_below hb9⟩;clear hK hb9;go_simp;simpa[upd,d7] using hK'
  ·have d4:t 4=_:=hdep ⟨4,.data⟩ (by simp) rfl;obtain⟨B,e8,hB,hbB⟩:=hdep ⟨8,.data⟩ (by simp) rfl;clear hdep;have hbl:=HX9.out hLi;have hP9:=POwn.below HP2.out hbl;have e64:(Value.slice (some ⟨w.heap.size,0,none⟩) 64 64)=.slice (some ⟨w.heap.size,0,none⟩) z.length 64:=by rw[HZ.out]
   rw[e64] at hbB;have hRw:Row w' w.heap.size 65 z:=by unfold Row;rw[hbl.block _ (by omega)];exact HROW1.out
   refine wp_appP w' (.tmp 12) (.tmp 16) rfl E w.heap.size cv qs ⟨s,some ⟨w.heap.size,0,none⟩,64,z⟩ d4 hP9 HLT.out B e8 hbB (.inr ⟨w.heap.size,by unfold Q1.v;rw[HZ.out],Nat.le_refl _,HZ.out,hRw⟩) hE (by omega) hql ?_;intro v9 w9 hP9' hg9;exact hK w9 v9 ⟨_,rfl,rfl,hP9'⟩ ⟨grown_trans HXG.out hg9,fun h=>by simp[updK] at h⟩ ⟨fun h=>absurd rfl h,hg9⟩
  ·have d0:t 0=_:=hdep ⟨0,.data⟩ (by simp) rfl;clear hdep;go_simp;simpa[upd,d0] using hK w' (.pointer (some ⟨D,0,none⟩)) rfl (REF.out 10 (by decide)) (RM.out 10)
  ·have d10:t 10=_:=hdep ⟨10,.data⟩ (by simp) rfl;clear hdep;go_simp;simpa[upd,d10] using hK w' (.pointer (some ⟨D,1,none⟩)) rfl (REF.out 11 (by decide)) (RM.out 11)
 case hend=>
  intro o Ls t w' ho hx hg K hK;simp at ho;subst ho;obtain⟨hxg,_⟩:=hx;obtain⟨q',hq1,hq2,hP9⟩:=hg 9 (by decide);have h11:t 11=_:=hg 11 (by decide);clear hg;obtain⟨na,nc,e9,_⟩:=hP9.mine;obtain⟨n9,hn9⟩:∃ n9,(qs++[q']).length=n9:=⟨_,rfl⟩
  rw[hn9] at e9;clear hn9;rw[e9] at hP9;have haf:w'.heap[D]?=some (.cells (DC dv cv F false X) T (0,0)):=by
   rw[hxg.block D hD1 (fun e=>HDC.out D e.symm rfl)];exact HR1.out
  obtain⟨a0,a1,a2,a3⟩:=row4x haf;have f1:=frozen_of_row w' D 1 _ _ haf;have hA9:=row_setCell (i:=1) (.slice na n9 nc) haf DC.s1;have hwr:Wr D w' (w'.setCell ⟨D,1,none⟩ (.slice na n9 nc)):=(Wr.refl D w').setCell 1 _;have hPn:POwn (w'.setCell ⟨D,1,none⟩ (.slice na n9 nc)) E (.slice na n9 nc) (qs++[q']):=hP9.keepD (fun k cur t hh ht=>hwr.block k (fun e=>by rw[e,haf] at hh;simp at hh;exact ht hh.2.symm)) hT;have HFIN:Hid (WrPost X T w (w'.setCell ⟨D,1,none⟩ (.slice na n9 nc)) D E dv cv qs f s z):=by
   refine⟨.slice na n9 nc,q',hq1,hq2,by rw[HF.out];exact hA9,hPn,?_⟩;exact((show WR D cv.ownBlock w w1 from HW1.out).trans (WR.of_grown hxg)).trans (WR.of_wr hwr)
  clear hPn hA9 haf hP9 hxg hwr a0 a2 a3 hq1 hq2;go_simp;apply hK;clear e9 h11;go_wp2
  first|go_end0|go_ret
  exact⟨rfl,HFIN.out⟩
end Go.Proofs.YtilpkdnoaldfmaaGreatDoor
