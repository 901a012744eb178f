import Derived.Test.YthmeoilbmfdhfaaGreatMSwI
import Derived.Test.YthmeoilbmfdhfaaGreatMSwE
import Derived.Deep.Cut
import Derived.Test.YthmeoilbmfdhfaaGreatMSvY
import Derived.Test.YthmeoilbmfdhfaaGreatMReg
import Derived.Test.YthmeoilbmfdhfaaGreatSvK
import Derived.Test.YthmeoilbmfdhfaaGreatMDevRd
namespace Go.Proofs.YthmeoilbmfdhfaaGreat
open Go.ChangeShapes Go.WideShapes Go.ChangeAt Go.RowKit
set_option linter.unusedVariables false
theorem apR_no {D U:List Int} {k:Int} {T:List Int} {n:Nat} {kind:Int} {a b:Nat} (h:(apR D U k T n kind a b).ok=false):apR D U k T n kind a b=apNo:=by
 unfold apR at h ⊢;split
 ·split
  ·rename_i h1 h2;rw[if_pos h1,if_pos h2] at h;cases h
  ·rfl
 ·split
  ·rename_i h1 h2
   rw[if_neg h1,if_pos h2] at h;split
   ·rename_i h3;rw[if_pos h3] at h;cases h
   ·rename_i h3
    rw[if_neg h3] at h;split
    ·rename_i h4;rw[if_pos h4] at h;cases h
    ·rfl
  ·rename_i h1 h2
   rw[if_neg h1,if_neg h2] at h;split
   ·rename_i h3
    rw[if_pos h3] at h;split
    ·rename_i h4;rw[if_pos h4] at h;cases h
    ·rfl
   ·rfl
theorem withS_ser (xs:List Int) (a:Nat):SerP (withS xs a):=upTo_ser _
theorem apR_ser {D U:List Int} {k:Int} {T:List Int} {n:Nat} {kind:Int} {a b:Nat} (hD:SerP D) (hU:SerP U):SerP (apR D U k T n kind a b).D∧SerP (apR D U k T n kind a b).U:=by
 have hn:SerP ([]:List Int):=fun i hi=>by simp at hi
 unfold apR;split
 ·split
  ·exact⟨hD,withS_ser _ _⟩
  ·exact⟨hn,hn⟩
 ·split
  ·split
   ·exact⟨withS_ser _ _,hU⟩
   ·split
    ·exact⟨without_ser hD _,hU⟩
    ·exact⟨hn,hn⟩
  ·split
   ·split
    ·exact⟨hD,hU⟩
    ·exact⟨hn,hn⟩
   ·exact⟨hn,hn⟩
open Classical in
noncomputable def apF (D U:List Int) (k:Int) (T:List Int) (n:Nat) (kind:Int) (a b:Nat):ApR:=if stB D U k T n=true then apR D U k T n kind a b else apNo
theorem stP_of {D U:List Int} {k:Int} {T:List Int} {n:Nat} (h:stB D U k T n=true):StP D U k T n:=by
 unfold stB at h;simpa using h
theorem IO.sat {B:Nat} {w:World} {a:Option Addr} {n c:Nat} {xs:List Int} (h:IO B w (.slice a n c) xs):SAt w a xs∧xs.length=n∧Lies B w a:=by
 rcases h.2 with⟨h',h0⟩|⟨g,cap,cur,h',hb,hh,hc,hm,hs,ht⟩
 ·cases h';have:xs=[]:=List.eq_nil_of_length_eq_zero h0;exact⟨.inl this,h0,fun _ e=>(by cases e)⟩
 ·cases h';have hlt:=(Array.getElem?_eq_some_iff.1 hh).1;refine⟨.inr ⟨g,0,rfl,hlt,fun i hi=>?_⟩,rfl,fun ad e=>(by cases e;exact⟨hb,hlt⟩)⟩;rw[Nat.zero_add];refine⟨?_,frozen_of_row _ _ _ _ _ hh⟩;have:=World.ownsRow.cellAt h i (by omega);rw[this];simp[hi]
theorem TapV.sat {B:Nat} {w:World} {a:Option Addr} {n c:Nat} {T:List Int} (h:TapV B w (.slice a n c) T n):SAt w a T∧T.length=n*2∧Lies B w a:=by
 obtain⟨hl,⟨h1,h2⟩|⟨t,o,c',h1,hB,ht,hc,hm,hx⟩⟩:=h
 ·cases h1;exact⟨.inl (List.eq_nil_of_length_eq_zero (by omega)),hl,fun _ e=>(by cases e)⟩
 ·cases h1;exact⟨.inr ⟨t,o,rfl,ht,fun i hi=>hx.1 i (by omega)⟩,hl,fun ad e=>(by cases e;exact⟨hB,ht⟩)⟩
structure IX (w:World) (fr:Array Value) (wr:World):Prop where
 below:Below w.heap.size w wr
 fb:wr.heap[w.heap.size+1]?=some (.cells fr 112 (0,0))
 rb:wr.heap[w.heap.size+2]?=some (.cells #[.bool false,.slice none 0 0,.slice none 0 0,.int .i64 0,.slice none 0 0] 68 (0,0))
theorem IX.start (w:World) (sc fr:Array Value):IX w fr (((w.alloc (.cells sc 34)).alloc (.cells fr 112)).alloc (.cells #[.bool false,.slice none 0 0,.slice none 0 0,.int .i64 0,.slice none 0 0] 68)):=by
 refine⟨(((Below.refl _ _).alloc (Nat.le_refl _) _).alloc (by simp) _).alloc (by simp;omega) _,?_,?_⟩
 ·rw[Below.heap_alloc _ _ (w.heap.size+1) (by simp)];have:=heap_alloc_new (w.alloc (.cells sc 34)) (.cells fr 112)
  rwa [show(w.alloc (.cells sc 34)).heap.size=w.heap.size+1 by simp] at this
 ·have:=heap_alloc_new ((w.alloc (.cells sc 34)).alloc (.cells fr 112)) (.cells #[.bool false,.slice none 0 0,.slice none 0 0,.int .i64 0,.slice none 0 0] 68)
  rwa [show((w.alloc (.cells sc 34)).alloc (.cells fr 112)).heap.size=w.heap.size+2 by simp] at this
section
variable {P:Program} {ops:Array Oper} {Q:Exit→Act→World→Prop} {md:Region.Mode}
theorem wpAny_slotsF (last:Nat) (M:Nat→World→World→Prop) (frame:(Nat→Value)→Act) (Ext:(Nat→Bool)→(Nat→Value)→World→Prop) (Good:Nat→(Nat→Bool)→World→Value→Prop) (Fin:(Nat→Value)→World→Prop)
  (hlast:ops.size=last+1)
  (hwait:((ops[last]?).map (fun o=>(List.range last).all (fun j=>o.after.any (fun e=>Region.binds md e && decide (e.on=j))))).getD false=true)
  (hstab:∀ j L w w' i v,i<last→M i w w'→i≠j→L i=false→Good j L w v→Good j (updK L i) w' v)
  (hback:(List.range ops.size).all (fun i=>((ops[i]?).map (fun o=>o.after.all (fun e=>decide (e.on<i)))).getD false)=true)
  (hop:∀(i:Nat) (o:Oper) (L:Nat→Bool) (u:Nat→Value) (w:World),i<last→ops[i]?=some o→L i=false→Ext L u w→(∀ e∈o.after,Region.binds md e=true→L e.on=true∧Good e.on L w (u e.on))→
   ∀ K:Act→World→Prop,(∀ w' v,Good i (updK L i) w' v→Ext (updK L i) (upd u i v) w'→M i w w'→K (frame (upd u i v)) w')→(if Region.wanted o (yielded ops (frame u).tmps)=true then Oper.wp P o (frame u) w K Q else K ((frame u).put o.dst undef) w))
  (hend:∀(o:Oper) (L:Nat→Bool) (u:Nat→Value) (w:World),ops[last]?=some o→Ext L u w→(∀ j,j<last→L j=true∧Good j L w (u j))→
   ∀ K:Act→World→Prop,(∀ w' v,Fin (upd u last v) w'→K (frame (upd u last v)) w')→(if Region.wanted o (yielded ops (frame u).tmps)=true then Oper.wp P o (frame u) w K Q else K ((frame u).put o.dst undef) w))
  (hdone:∀ u w,Fin u w→Q .normal (frame u) w) :
  ∀(fuel:Nat) (listed:Array Bool) (u:Nat→Value) (w:World),listed.size=ops.size→(∀ i,listed.getD i false=false)→Ext (fun n=>listed.getD n false) u w→
   (listed.toList.filter (!·)).length≤fuel→wpAny P md ops Q fuel listed (frame u) w:=by
 have hb:∀(i:Nat) (o:Oper),ops[i]?=some o→∀ e∈o.after,e.on<i:=fun i o ho e he=>by
  have hi:i<ops.size:=(Array.getElem?_eq_some_iff.1 ho).1;have:=List.all_eq_true.1 hback i (List.mem_range.2 hi);rw[ho] at this;simp at this;obtain⟨k,hk,rfl⟩:=Array.mem_iff_getElem.1 he;exact this k hk
 have hw:∀ o,ops[last]?=some o→∀ j,j<last→∃ e∈o.after,Region.binds md e=true∧e.on=j:=fun o ho j hj=>by
  rw[ho] at hwait;have h1:(List.range last).all (fun j=>o.after.any (fun e=>Region.binds md e && decide (e.on=j)))=true:=by simpa using hwait
  have h2:=List.all_eq_true.1 h1 j (List.mem_range.2 hj);obtain⟨e,he,h3⟩:=Array.any_eq_true'.1 h2;simp at h3;exact⟨e,he,h3⟩
 intro fuel listed u w hs hnone hext hc;refine wpAny_slotsU (fun i a b=>i=last∨(i<last∧M i a b)) frame (fun L u w=>(L last=false∧Ext L u w)∨(L last=true∧(∀ j,j<last→L j=true)∧Fin u w))
  (fun j L w v=>if j=last then L last=true else(L last=true∨Good j L w v)) ?_ hback ?_ ?_ fuel listed u w hs (.inl ⟨hnone last,hext⟩) (fun i _ hl=>by rw[hnone i] at hl;cases hl) hc
 ·intro j L w w' i v hM hij hLi h;have hu:∀ k,L k=true→updK L i k=true:=fun k hk=>by unfold updK;split<;>simp[hk]
  by_cases hj:j=last
  ·rw[if_pos hj] at h ⊢;exact hu _ h
  ·rw[if_neg hj] at h ⊢;rcases h with h|h
   ·exact .inl (hu _ h)
   ·rcases hM with hil|⟨hi',hM⟩
    ·left;unfold updK;rw[if_pos hil.symm]
    ·exact .inr (hstab j L w w' i v hi' hM hij hLi h)
 ·intro i o L u w ho hLi hx hdep K hK;have hi:i<last+1:=by rw[←hlast];exact(Array.getElem?_eq_some_iff.1 ho).1
  rcases hx with⟨hl,hx⟩|⟨hl,hall,_⟩
  ·by_cases hil:i=last
   ·subst hil;refine hend o L u w ho hx (fun j hj=>?_) K (fun w' v hf=>hK w' v ?_ ?_ (.inl rfl))
    ·obtain⟨e,he,hbd,rfl⟩:=hw o ho j hj;obtain⟨h1,h2⟩:=hdep e he hbd;rw[if_neg (by omega)] at h2;refine⟨h1,h2.resolve_left (by rw[hl];simp)⟩
    ·rw[if_pos rfl];unfold updK;simp
    ·refine .inr ⟨by unfold updK;simp,fun j hj=>?_,hf⟩;obtain⟨e,he,hbd,rfl⟩:=hw o ho j hj;have:=(hdep e he hbd).1;unfold updK;split<;>simp[this]
   ·have hi':i<last:=by omega
    refine hop i o L u w hi' ho hLi hx (fun e he hbd=>?_) K (fun w' v hg hext hm=>hK w' v ?_ ?_ (.inr ⟨hi',hm⟩))
    ·obtain⟨h1,h2⟩:=hdep e he hbd;have hlt:=hb i o ho e he;rw[if_neg (by omega)] at h2;exact⟨h1,h2.resolve_left (by rw[hl];simp)⟩
    ·rw[if_neg hil];exact .inr hg
    ·refine .inl ⟨?_,hext⟩;unfold updK;rw[if_neg (by omega)];exact hl
  ·exfalso
   by_cases hil:i=last
   ·subst hil;rw[hl] at hLi;cases hLi
   ·rw[hall i (by omega)] at hLi;cases hLi
 ·intro L u w hx hg;have h1:=hg last (by omega);rw[if_pos rfl] at h1;rcases hx with⟨hl,_⟩|⟨_,_,hf⟩
  ·rw[hl] at h1;cases h1
  ·exact hdone u w hf
end
def Value.adr:Value→Option Addr
 |.slice a _ _=>a
 |.pointer a=>a
 |_=>none
def Value.has (v:Value) (k:Nat):Prop:=(∃ a,Value.adr v=some a∧a.block=k)∨∃ cs,v=.agg cs∧∃ c,c∈cs.toList∧∃ a,Value.adr c=some a∧a.block=k
def FreshH (w w':World) (v:Value):Prop:=∀ k,Value.has v k→w.heap.size≤k∧k<w'.heap.size
def ApVH (x y:Value):Prop:=∀ k,Value.has x k→¬ Value.has y k
structure ApH (W:World) (ps:List Nat) (L:Nat→Bool) (u:Nat→Value) (w:World):Prop where
 below:Below W.heap.size W w
 blt:∀ p,p∈ps→L p=true→∀ k,Value.has (u p) k→k<w.heap.size
 ap:∀ p,p∈ps→∀ q,q∈ps→p≠q→L p=true→L q=true→ApVH (u p) (u q)
theorem ApH.start (W:World) (ps:List Nat) (L:Nat→Bool) (u:Nat→Value) (h:∀ i,L i=false) {w:World} (b:Below W.heap.size W w):ApH W ps L u w:=
 ⟨b,fun p _ hp=>(by rw[h] at hp;cases hp),fun p _ q _ _ hp=>(by rw[h] at hp;cases hp)⟩
theorem ApH.step {W:World} {ps:List Nat} {L:Nat→Bool} {u:Nat→Value} {w w':World} (h:ApH W ps L u w) (i:Nat) (v:Value) (b:Below w.heap.size w w') (hv:i∈ps→FreshH w w' v):ApH W ps (updK L i) (upd u i v) w':=by
 refine⟨h.below.trans (b.mono h.below.size),fun p hp hl=>?_,fun p hp q hq hne hlp hlq=>?_⟩
 ·by_cases e:p=i
  ·subst e;simp only[upd,if_true];exact fun k hk=>(hv hp k hk).2
  ·simp only[updK,if_neg e] at hl;simp only[upd,if_neg e];exact fun k hk=>Nat.lt_of_lt_of_le (h.blt p hp hl k hk) b.size
 ·by_cases e:p=i
  ·subst e;have e2:¬ q=p:=fun h=>hne h.symm
   simp only[updK,if_neg e2] at hlq;simp only[upd,if_true,if_neg e2];intro k hk hk';have h1:=(hv hp k hk).1;have h2:=h.blt q hq hlq k hk';omega
  ·by_cases e2:q=i
   ·subst e2;simp only[updK,if_neg e] at hlp;simp only[upd,if_true,if_neg e];intro k hk hk';have h1:=(hv hq k hk').1;have h2:=h.blt p hp hlp k hk;omega
   ·simp only[updK,if_neg e,if_neg e2] at hlp hlq;simp only[upd,if_neg e,if_neg e2];exact h.ap p hp q hq hne hlp hlq
theorem has_agg {cs:Array Value} {k:Nat}:Value.has (.agg cs) k↔∃ c,c∈cs.toList∧∃ a,Value.adr c=some a∧a.block=k:=by
 constructor
 ·rintro (⟨a,h,_⟩|⟨cs',h,h2⟩)
  ·cases h
  ·cases h;exact h2
 ·intro h;exact .inr ⟨_,rfl,h⟩
theorem has_ptr {g o:Nat} {k:Nat}:Value.has (.pointer (some ⟨g,o,none⟩)) k↔k=g:=by
 constructor
 ·rintro (⟨a,h,rfl⟩|⟨cs',h,h2⟩)
  ·cases h;rfl
  ·cases h
 ·rintro rfl;exact .inl ⟨_,rfl,rfl⟩
theorem hid_ofV {p:Prop} (h:p):Hid p:=h
theorem belD {B:Nat} {a w:World} (h:Below B a w) (n:Nat):Below B a (w.drewN n):=h.trans ⟨rfl,rfl,rfl,Nat.le_refl _,fun _ _=>rfl⟩
structure BE (w:World) (t:TypeId) (sa sb:Array Value) (wr:World):Prop where
 below:Below w.heap.size w wr
 b0:wr.heap[w.heap.size]?=some (.cells sa t (0,0))
 b1:wr.heap[w.heap.size+1]?=some (.cells sb t (0,0))
theorem BE.start (w:World) (t:TypeId) (sa sb:Array Value):BE w t sa sb ((w.alloc (.cells sa t)).alloc (.cells sb t)):=by
 refine⟨((Below.refl _ _).alloc (Nat.le_refl _) _).alloc (by simp) _,?_,?_⟩
 ·rw[Below.heap_alloc _ _ w.heap.size (by simp)];exact heap_alloc_new w _
 ·have:=heap_alloc_new (w.alloc (.cells sa t)) (.cells sb t)
  rwa [show(w.alloc (.cells sa t)).heap.size=w.heap.size+1 by simp] at this
theorem BE.call {w wr w':World} {t:TypeId} {sa sb:Array Value} (h:BE w t sa sb wr) (b:Below wr.heap.size wr w'):BE w t sa sb w':=by
 have:=(Array.getElem?_eq_some_iff.1 h.b1).1;exact⟨h.below.trans (b.mono h.below.size),by rw[b.block _ (by omega)];exact h.b0,by rw[b.block _ (by omega)];exact h.b1⟩
structure OE (w:World) (t:TypeId) (sa:Array Value) (wr:World):Prop where
 below:Below w.heap.size w wr
 b0:wr.heap[w.heap.size]?=some (.cells sa t (0,0))
theorem OE.start (w:World) (t:TypeId) (sa:Array Value):OE w t sa (w.alloc (.cells sa t)):=⟨(Below.refl _ _).alloc (Nat.le_refl _) _,heap_alloc_new w _⟩
theorem OE.lt {w wr:World} {t:TypeId} {sa:Array Value} (h:OE w t sa wr):w.heap.size<wr.heap.size:=(Array.getElem?_eq_some_iff.1 h.b0).1
theorem OE.call {w wr w':World} {t:TypeId} {sa:Array Value} (h:OE w t sa wr) (b:Below wr.heap.size wr w'):OE w t sa w':=by
 have:=(Array.getElem?_eq_some_iff.1 h.b0).1;exact⟨h.below.trans (b.mono h.below.size),by rw[b.block _ (by omega)];exact h.b0⟩
set_option maxRecDepth 100000 in
set_option maxHeartbeats 2000000 in
theorem ivs_any (aD aU aT:Option Addr) (nD cD nU cU nT cT:Nat) (D U:List Int) (k:Int) (T:List Int) (w:World) (hD:D.length=nD) (hU:U.length=nU) (hT:T.length=nT*2) (mD:nD≤1048576) (mU:nU≤1048576) (mT:nT≤1048576)
  (haD:At .i64 w aD D) (haU:At .i64 w aU U) (haT:At .i64 w aT T) (hnil:aT=none→nT=0∧cT=0) (hk0:-9223372036854775808≤k) (hk1:k<9223372036854775808) :
  Calls Tryz.prog 156 #[.agg #[.slice aD nD cD,.slice aU nU cU,.int .i64 k,.slice aT nT cT]] w fun e w'=>e=.returned (.bool (stB D U k T nT))∧Below w.heap.size w w':=by
 have b0:Below w.heap.size w (w.alloc (.cells #[.slice aD nD cD,.slice aU nU cU,.int .i64 k,.slice aT nT cT] 34)):=(Below.refl _ _).alloc (Nat.le_refl _) _;have HC:=openBook_any aD aU aT nD cD nU cU nT cT D U k T _ hD hU hT mD mU mT (haD.below b0) (haU.below b0) (haT.below b0) hnil hk0 hk1;have HB0:Hid (Below w.heap.size w (w.alloc (.cells #[.slice aD nD cD,.slice aU nU cU,.int .i64 k,.slice aT nT cT] 34))):=b0;clear haD haU haT hnil hk0 hk1 hD hU hT b0;go_enter Tryz.func156,Tryz.ntmps156;go_wp2_with fail;refine HC.mono ?_;rintro e w1 ⟨bk,rfl,hs,ho,hb,_⟩;have HB1:Hid (Below w.heap.size w w1):=HB0.out.trans (hb.mono HB0.out.size);have HN:Hid ((w1.alloc (.cells Tryz.zeroCells77 77)).heap[w1.heap.size]?=some (.cells Tryz.zeroCells77 77 (0,0))):=heap_alloc_new w1 _;have HSZ:Hid ((Tryz.prog.info? 77).map (·.size)=some bk.size):=by show _=_;rw[hs];exact Tryz.sizeBook
 have HEQ:Hid ((Tryz.zeroCells77).size=bk.size):=by show _=_;rw[hs];exact zc_size
 have HOK:Hid (bk.all (fun x=>x.oneCell')=true):=ho;have HB2:Hid (∀ cs,Below w.heap.size w ((w1.alloc (.cells Tryz.zeroCells77 77)).setRow w1.heap.size cs)):=fun cs=>HB1.out.trans ((((Below.refl _ _).alloc (Nat.le_refl _) _).trans ((Wr.setRow _ _ _).below (Nat.le_refl _))).mono HB1.out.size)
 clear hs ho hb HC HB0;generalize hq:stB D U k T nT=q at *;have HQ:Hid (stB D U k T nT=q):=hq;clear hq;go_wp2_with (first
  |(refine wpList_store_row rfl 77 (.tmp 3) (.tmp 8) rfl w1.heap.size bk rfl rfl 77 _ HN.out HSZ.out HEQ.out HOK.out ?_)
  |fail)
 go_ret
 exact⟨by rw[HQ.out];rfl,HB2.out _⟩
set_option maxHeartbeats 1000000 in
theorem setNo_any (g o:Nat) (t:TypeId) (p:Nat) (v:Int) (zs:List Int) (w:World) (hr:Row w g t zs) (hl:o+64≤zs.length) (hp:p≤60) (hv:U32 v) :
  Calls Tryz.prog 146 #[.pointer (some ⟨g,o,none⟩),.int .i64 p,.int .u32 v] w fun e w'=>e=.returned (.tuple #[])∧Row w' g t (putK zs (o+p) v 4)∧Wr g w w':=by
 obtain⟨hv0,hv1⟩:=hv;go_enter Tryz.func146,Tryz.ntmps146;go_wp2
 go_loopw [7] (fun i wr=>∃ k:Nat,k≤4∧i=.int .i64 k∧Row wr g t (putK zs (o+p) v k)∧Wr g w wr) (fun i _=>4-(intOf i).toNat)
 case atStart=>exact⟨0,by omega,rfl,hr,Wr.refl _ _⟩
 case round=>
  obtain⟨k,hk,rfl,hrow,hwr⟩:=hrel;by_cases hlt:k<4
  ·have hlen:=putK_len zs (o+p) v k;have hc:=hrow.cell (o+p+k) (by omega);have hf:=hrow.frozen (o+p+k);have hc':wr.cell? ⟨g,o+(p+k),none⟩=some (.int .u8 ((putK zs (o+p) v k).getD (o+p+k) 0)):=by rw[←Nat.add_assoc];exact hc
   have hf':wr.frozen? ⟨g,o+(p+k),none⟩=false:=by rw[←Nat.add_assoc];exact hf
   have HN:Hid (∀ x,Row (wr.setCell ⟨g,o+(p+k),none⟩ (.int .u8 x)) g t ((putK zs (o+p) v k).set (o+p+k) x)∧Wr g w (wr.setCell ⟨g,o+(p+k),none⟩ (.int .u8 x))):=fun x=>by rw[←Nat.add_assoc];exact⟨hrow.set _ _,hwr.setCell _ _⟩
   clear hc hf;go_wp2
   go_region
   go_wp2;go_roundw
   case rel=>exact⟨k+1,by omega,by go_num,(HN.out _).1.drew,(HN.out _).2.drew⟩
   case measure=>simp[intOf];omega
  ·have hk4:k=4:=by omega
   subst hk4;go_wp2
   go_end0
   exact⟨rfl,hrow,hwr⟩
theorem hid_ofSn {p:Prop} (h:p):Hid p:=h
set_option maxRecDepth 100000 in
set_option maxHeartbeats 2000000 in
theorem snstO_any (h o:Nat) (aD aU:Option Addr) (nD cD nU cU:Nat) (w:World) (hh:h<w.heap.size) (c2:w.cell? ⟨h,o+2,none⟩=some (.slice aD nD cD)) (c3:w.cell? ⟨h,o+3,none⟩=some (.slice aU nU cU)) :
  Calls Tryz.prog 38 #[.pointer (some ⟨h,o,none⟩)] w fun e w'=>e=.returned (.agg #[.slice aD nD cD,.slice aU nU cU,.int .i64 nU,.slice none 0 0])∧Below w.heap.size w w':=by
 have HSZ:Hid ((Tryz.prog.info? 34).map (·.size)=some 4):=by show _=_;kernel_rfl
 have HO0:Hid (OE w 34 #[.slice none 0 0,.slice none 0 0,.int .i64 0,.slice none 0 0] (w.alloc (.cells #[.slice none 0 0,.slice none 0 0,.int .i64 0,.slice none 0 0] 34))):=OE.start _ _ _;have bl:=HO0.out.below.block h hh;have HC:Hid (h<(w.alloc (.cells #[.slice none 0 0,.slice none 0 0,.int .i64 0,.slice none 0 0] 34)).heap.size∧(w.alloc (.cells #[.slice none 0 0,.slice none 0 0,.int .i64 0,.slice none 0 0] 34)).cell? ⟨h,o+2,none⟩=some (.slice aD nD cD)∧(w.alloc (.cells #[.slice none 0 0,.slice none 0 0,.int .i64 0,.slice none 0 0] 34)).cell? ⟨h,o+3,none⟩=some (.slice aU nU cU)):=⟨Nat.lt_of_lt_of_le hh HO0.out.below.size,by rw[World.cell?_of_block (a:=⟨h,o+2,none⟩) (w:=w) bl];exact c2,by rw[World.cell?_of_block (a:=⟨h,o+3,none⟩) (w:=w) bl];exact c3⟩
 clear hh c2 c3 bl;go_enter Tryz.func38,Tryz.ntmps38;go_wp2_with fail;generalize w.alloc (.cells #[.slice none 0 0,.slice none 0 0,.int .i64 0,.slice none 0 0] 34)=w1 at *;refine wp_region_any (by kernel_rfl) ?_;refine wpAny_slotsF 14 (fun _ a b=>Below a.heap.size a b) (frame:=(fun (a b c:Value)=>fun (t:Nat→Value)=>({ tmps:=List.toArray [a,b,c,t 0,t 1,t 2,t 3,t 4,t 5,t 6,t 7,t 8,t 9,t 10,t 11,t 12,t 13],defers:=[] }:Act)) _ _ _)
  (Ext:=fun L u w'=>ApH w1 [] L u w') (Good:=fun i L w' v=>if i=0 then v=.pointer (some ⟨h,o,none⟩) else if i=1 then v=.pointer (some ⟨h,o,none⟩) else if i=2 then v=.pointer (some ⟨h,o+2,none⟩) else if i=3 then v=.slice aD nD cD else if i=4 then v=.pointer (some ⟨h,o,none⟩) else if i=5 then v=.pointer (some ⟨h,o,none⟩) else if i=6 then v=.pointer (some ⟨h,o+3,none⟩) else if i=7 then v=.slice aU nU cU else if i=8 then v=.pointer (some ⟨h,o,none⟩) else if i=9 then v=.pointer (some ⟨h,o,none⟩) else if i=10 then v=.pointer (some ⟨h,o+3,none⟩) else if i=11 then v=.slice aU nU cU else if i=12 then v=.int .i64 nU else if i=13 then v=.agg #[.slice aD nD cD,.slice aU nU cU,.int .i64 nU,.slice none 0 0] else True) (Fin:=fun _ ww=>ww.heap[w.heap.size]?=some (.cells #[.slice aD nD cD,.slice aU nU cU,.int .i64 nU,.slice none 0 0] 34 (0,0))∧Below w.heap.size w ww) rfl (by kernel_rfl) ?hstab (by kernel_rfl) ?hop ?hend ?hdone _ _ ((fun (x0 x1 x2 x3 x4 x5 x6 x7 x8 x9 x10 x11 x12 x13:Value)=>fun (i:Nat)=>if i=0 then x0 else if i=1 then x1 else if i=2 then x2 else if i=3 then x3 else if i=4 then x4 else if i=5 then x5 else if i=6 then x6 else if i=7 then x7 else if i=8 then x8 else if i=9 then x9 else if i=10 then x10 else if i=11 then x11 else if i=12 then x12 else if i=13 then x13 else undef) _ _ _ _ _ _ _ _ _ _ _ _ _ _) _ (by simp) ?none ?ext (by simp)
 case none=>intro i;rw[Array.getD_eq_getD_getElem?,Array.getElem?_replicate];split<;>rfl
 case ext=>exact ApH.start w1 [] _ _ (fun i=>by rw[Array.getD_eq_getD_getElem?,Array.getElem?_replicate];split<;>rfl) ⟨rfl,rfl,rfl,Nat.le_refl _,fun _ _=>rfl⟩
 case hstab=>
  intro j L w9 w' i v _ hM _ _ h;exact h
 case hop=>
  intro i oo L t w' hi ho hLi hx hdep K hK;have k2:w'.cell? ⟨h,o+2,none⟩=some (.slice aD nD cD):=by rw[World.cell?_of_block (a:=⟨h,o+2,none⟩) (w:=w1) (hx.below.block _ HC.out.1)];exact HC.out.2.1
  have k3:w'.cell? ⟨h,o+3,none⟩=some (.slice aU nU cU):=by rw[World.cell?_of_block (a:=⟨h,o+3,none⟩) (w:=w1) (hx.below.block _ HC.out.1)];exact HC.out.2.2
  obtain rfl|rfl|rfl|rfl|rfl|rfl|rfl|rfl|rfl|rfl|rfl|rfl|rfl|rfl:i=0∨i=1∨i=2∨i=3∨i=4∨i=5∨i=6∨i=7∨i=8∨i=9∨i=10∨i=11∨i=12∨i=13:=by omega
  all_goals(simp at ho;subst ho)
  all_goals try(have hK':=hK w' _ rfl (hx.step _ _ (Below.refl _ _) (fun h=>absurd h (by decide))) (Below.refl _ _);clear hK;simp[Region.binds] at hdep;rw[if_pos (by rfl)];go_simp;simpa[upd,hdep] using hK')
 case hend=>
  intro oo L t w' ho hx hg K hK;simp at ho;subst ho;have d13:t 13=.agg #[.slice aD nD cD,.slice aU nU cU,.int .i64 nU,.slice none 0 0]:=by simpa using(hg 13 (by decide)).2
  clear hg;have hrs:=(hx.below.block _ (Array.getElem?_eq_some_iff.1 HO0.out.b0).1).trans HO0.out.b0;have hK':∀ ww,Wr w.heap.size w' ww→ww.heap[w.heap.size]?=some (.cells #[.slice aD nD cD,.slice aU nU cU,.int .i64 nU,.slice none 0 0] 34 (0,0))→K _ ww:=fun ww hw hr=>hK ww undef ⟨hr,(HO0.out.below.trans (hx.below.mono HO0.out.below.size)).trans (hw.below (Nat.le_refl _))⟩
  clear hK;rw[if_pos (by rfl)];refine wp_store_row 34 (.tmp 2) (.tmp 16) rfl w.heap.size #[.slice aD nD cD,.slice aU nU cU,.int .i64 nU,.slice none 0 0] rfl d13 34 _ hrs HSZ.out rfl (by simp[Value.oneCell']) ?_;have hK2:=hK' _ (Wr.setRow _ _ _) (setRow_heap _ _ _ _ _ _ hrs);clear hK';simpa[upd,Act.put] using hK2
 case hdone=>
  intro t w9 hf;have HF:=hid_ofSn hf;clear hf;go_wp2_with fail;exact bodyPost_ret (v:=.agg #[.slice aD nD cD,.slice aU nU cU,.int .i64 nU,.slice none 0 0]) (results_cell_row rfl _ _ w.heap.size 34 _ (0,0) _ rfl HF.out.1 Tryz.underlying34 rfl HSZ.out) rfl ⟨rfl,HF.out.2⟩
theorem snst_any (h:Nat) (aD aU:Option Addr) (nD cD nU cU:Nat) (w:World) (hh:h<w.heap.size) (c2:w.cell? ⟨h,2,none⟩=some (.slice aD nD cD)) (c3:w.cell? ⟨h,3,none⟩=some (.slice aU nU cU)) :
  Calls Tryz.prog 38 #[.pointer (some ⟨h,0,none⟩)] w fun e w'=>e=.returned (.agg #[.slice aD nD cD,.slice aU nU cU,.int .i64 nU,.slice none 0 0])∧Below w.heap.size w w':=snstO_any h 0 aD aU nD cD nU cU w hh (by simpa using c2) (by simpa using c3)
def SnP (gn tl:Int) (D U:List Int):Prop:=gn≤4000000000∧1≤tl∧tl≤4000000000∧SerP D∧D.length≤16∧SerP U
open Classical in
noncomputable def snB (gn tl:Int) (D U:List Int):Bool:=decide (SnP gn tl D U)
theorem snB_no {gn tl:Int} {D U:List Int} (h:¬ SnP gn tl D U):snB gn tl D U=false:=by unfold snB;simp[h]
theorem snB_yes {gn tl:Int} {D U:List Int} (h:SnP gn tl D U):snB gn tl D U=true:=by unfold snB;simp[h]
theorem stB_sn {gn tl:Int} {D U:List Int} {nU:Nat} (hU:U.length=nU) (h1:gn≤4000000000) (h2:1≤tl) (h3:tl≤4000000000):stB D U nU [] 0=snB gn tl D U:=by
 by_cases h:StP D U nU [] 0
 ·rw[stB_yes h,snB_yes ⟨h1,h2,h3,h.1,h.2.1,h.2.2.1⟩]
 ·rw[stB_no h,snB_no (fun q=>h ⟨q.2.2.2.1,q.2.2.2.2.1,q.2.2.2.2.2,by omega,by rw[hU];omega,fun i hi=>by omega⟩)]
set_option maxRecDepth 100000 in
set_option maxHeartbeats 2000000 in
theorem snv_any (h:Nat) (gn tl:Int) (aD aU:Option Addr) (nD cD nU cU:Nat) (D U:List Int) (w:World) (hh:h<w.heap.size) (c0:w.cell? ⟨h,0,none⟩=some (.int .u32 gn)) (c1:w.cell? ⟨h,1,none⟩=some (.int .u32 tl)) (c2:w.cell? ⟨h,2,none⟩=some (.slice aD nD cD)) (c3:w.cell? ⟨h,3,none⟩=some (.slice aU nU cU))
  (hD:D.length=nD) (hU:U.length=nU) (mD:nD≤1048576) (mU:nU≤1048576) (haD:At .i64 w aD D) (haU:At .i64 w aU U) :
  Calls Tryz.prog 130 #[.pointer (some ⟨h,0,none⟩)] w fun e w'=>e=.returned (.bool (snB gn tl D U))∧Below w.heap.size w w':=by
 by_cases h1:gn≤4000000000
 ·by_cases h2:1≤tl
  ·by_cases h3:tl≤4000000000
   ·have HE:Hid (stB D U nU [] 0=snB gn tl D U):=stB_sn hU h1 h2 h3;have HC1:=snst_any h aD aU nD cD nU cU w hh c2 c3;have HC2:Hid (∀ w',Below w.heap.size w w'→Calls Tryz.prog 156 #[.agg #[.slice aD nD cD,.slice aU nU cU,.int .i64 nU,.slice none 0 0]] w' fun e w''=>e=.returned (.bool (stB D U nU [] 0))∧Below w'.heap.size w' w''):=fun w' b=>ivs_any aD aU none nD cD nU cU 0 0 D U nU [] w' hD hU rfl mD mU (by omega) (haD.below b) (haU.below b) (.inl rfl) (fun _=>⟨rfl,rfl⟩) (by omega) (by omega)
    have h2':tl≥1:=h2;clear haD haU hD hU;go_enter Tryz.func130,Tryz.ntmps130;go_wp2_with fail;refine HC1.mono ?_;rintro e w1 ⟨rfl,hb1⟩;have HC:=HC2.out w1 hb1;have HB1:Hid (Below w.heap.size w w1):=hb1;clear HC1 HC2 hb1;go_wp2_with fail;refine HC.mono ?_;rintro e w2 ⟨rfl,hb2⟩;have HF:Hid (Below w.heap.size w w2):=HB1.out.trans (hb2.mono HB1.out.size);rw[HE.out];clear HC HB1 hb2;generalize hq:snB gn tl D U=q at *;have HQ:Hid (snB gn tl D U=q):=hq;clear hq;go_wp2
    go_ret
    exact⟨by rw[HQ.out];rfl,HF.out⟩
   ·have HE:Hid (snB gn tl D U=false):=snB_no (fun q=>h3 q.2.2.1);have h2':tl≥1:=h2;clear haD haU hD hU;go_enter Tryz.func130,Tryz.ntmps130;go_wp2
    go_ret
    exact⟨by rw[HE.out];rfl,Below.refl _ _⟩
  ·have HE:Hid (snB gn tl D U=false):=snB_no (fun q=>h2 q.2.1);have h2':¬ (tl≥1):=h2;clear haD haU hD hU;go_enter Tryz.func130,Tryz.ntmps130;go_wp2
   go_ret
   exact⟨by rw[HE.out];rfl,Below.refl _ _⟩
 ·have HE:Hid (snB gn tl D U=false):=snB_no (fun q=>h1 q.1);clear haD haU hD hU;go_enter Tryz.func130,Tryz.ntmps130;go_wp2
  go_ret
  exact⟨by rw[HE.out];rfl,Below.refl _ _⟩
end Go.Proofs.YthmeoilbmfdhfaaGreat
