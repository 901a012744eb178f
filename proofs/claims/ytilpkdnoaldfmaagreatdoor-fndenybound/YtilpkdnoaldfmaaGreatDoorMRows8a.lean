import Derived.Test.YtilpkdnoaldfmaaGreatDoorMBase
import Derived.Test.YtilpkdnoaldfmaaGreatDoorMRegU
import Derived.Test.YtilpkdnoaldfmaaGreatDoorSvK
import Derived.Test.YtilpkdnoaldfmaaGreatDoorMArgDev
import Derived.Test.YtilpkdnoaldfmaaGreatDoorMCatC
namespace Go.Proofs.YtilpkdnoaldfmaaGreatDoor
open Go.ChangeShapes Go.WideShapes Go.ChangeAt Go.RowKit
set_option linter.unusedVariables false
def putK (zs:List Int) (p:Nat) (v:Int):Nat→List Int
 |0=>zs
 |k+1=>(putK zs p v k).set (p+k) (v/2^(8*k)%256)
theorem putK_len (zs:List Int) (p:Nat) (v:Int) (k:Nat):(putK zs p v k).length=zs.length:=by
 induction k with
 |zero=>rfl
 |succ k ih=>simp[putK,ih]
set_option maxHeartbeats 400000 in
theorem setN_any (g:Nat) (t:TypeId) (p:Int) (v:Int) (zs:List Int) (w:World) (hr:Row w g t zs) (hl:zs.length=64) (hp:0≤p) (hp':p≤60) (hv:U32 v) :
  Calls Tryz.prog 44 #[.pointer (some ⟨g,0,none⟩),.int .i64 p,.int .u32 v] w fun e w'=>e=.returned (.tuple #[])∧Row w' g t (putK zs p.toNat v 4)∧Wr g w w':=by
 obtain⟨hv0,hv1⟩:=hv;obtain⟨p,rfl⟩:=Int.eq_ofNat_of_zero_le hp;go_enter Tryz.func44,Tryz.ntmps44;go_wp2
 go_loopw [7] (fun i wr=>∃ k:Nat,k≤4∧i=.int .i64 k∧Row wr g t (putK zs p v k)∧Wr g w wr) (fun i _=>4-(intOf i).toNat)
 case atStart=>exact⟨0,by omega,rfl,hr,Wr.refl _ _⟩
 case round=>
  obtain⟨k,hk,rfl,hrow,hwr⟩:=hrel;by_cases hlt:k<4
  ·have hlen:=putK_len zs p v k;have hc:=hrow.cell (p+k) (by omega);have hf:=hrow.frozen (p+k);go_wp2
   go_region
   go_wp2;go_roundw
   case rel=>exact⟨k+1,by omega,by go_num,(hrow.set (p+k) _).drew,(hwr.setCell (p+k) _).drew⟩
   case measure=>simp[intOf];omega
  ·have hk4:k=4:=by omega
   subst hk4;go_wp2
   go_end0
   exact⟨rfl,hrow,hwr⟩
section
variable {P:Program} {ops:Array Oper} {Q:Exit→Act→World→Prop} {md:Region.Mode}
theorem wpAny_slotsF (last:Nat) (M:Nat→World→World→Prop) (frame:(Nat→Value)→Act) (Ext:(Nat→Bool)→(Nat→Value)→World→Prop) (Good:Nat→(Nat→Bool)→World→Value→Prop) (Fin:(Nat→Value)→World→Prop)
  (hlast:ops.size=last+1)
  (hwait:((ops[last]?).map (fun o=>(List.range last).all (fun j=>o.after.any (fun e=>Region.binds md e && decide (e.on=j))))).getD false=true)
  (hstab:∀ j L w w' i v,i<last→M i w w'→i≠j→L i=false→Good j L w v→Good j (updK L i) w' v)
  (hback:(List.range ops.size).all (fun i=>((ops[i]?).map (fun o=>o.after.all (fun e=>decide (e.on<i)))).getD false)=true)
  (hop:∀(i:Nat) (o:Oper) (L:Nat→Bool) (u:Nat→Value) (w:World),i<last→ops[i]?=some o→L i=false→Ext L u w→(∀ e∈o.after,Region.binds md e=true→L e.on=true∧Good e.on L w (u e.on))→
   ∀ K:Act→World→Prop,(∀ w' v,Good i (updK L i) w' v→Ext (updK L i) (upd u i v) w'→M i w w'→K (frame (upd u i v)) w')→(if Region.wanted o (yielded ops (frame u).tmps)=true then Oper.wp P o (frame u) w K Q else K ((frame u).put o.dst undef) w))
  (hend:∀(o:Oper) (L:Nat→Bool) (u:Nat→Value) (w:World),ops[last]?=some o→Ext L u w→(∀ j,j<last→L j=true∧Good j L w (u j))→
   ∀ K:Act→World→Prop,(∀ w' v,Fin (upd u last v) w'→K (frame (upd u last v)) w')→(if Region.wanted o (yielded ops (frame u).tmps)=true then Oper.wp P o (frame u) w K Q else K ((frame u).put o.dst undef) w))
  (hdone:∀ u w,Fin u w→Q .normal (frame u) w) :
  ∀(fuel:Nat) (listed:Array Bool) (u:Nat→Value) (w:World),listed.size=ops.size→(∀ i,listed.getD i false=false)→Ext (fun n=>listed.getD n false) u w→
   (listed.toList.filter (!·)).length≤fuel→wpAny P md ops Q fuel listed (frame u) w:=by
 have hb:∀(i:Nat) (o:Oper),ops[i]?=some o→∀ e∈o.after,e.on<i:=fun i o ho e he=>by
  have hi:i<ops.size:=(Array.getElem?_eq_some_iff.1 ho).1;have:=List.all_eq_true.1 hback i (List.mem_range.2 hi);rw[ho] at this;simp at this;obtain⟨k,hk,rfl⟩:=Array.mem_iff_getElem.1 he;exact this k hk
 have hw:∀ o,ops[last]?=some o→∀ j,j<last→∃ e∈o.after,Region.binds md e=true∧e.on=j:=fun o ho j hj=>by
  rw[ho] at hwait;have h1:(List.range last).all (fun j=>o.after.any (fun e=>Region.binds md e && decide (e.on=j)))=true:=by simpa using hwait
  have h2:=List.all_eq_true.1 h1 j (List.mem_range.2 hj);obtain⟨e,he,h3⟩:=Array.any_eq_true'.1 h2;simp at h3;exact⟨e,he,h3⟩
 intro fuel listed u w hs hnone hext hc;refine wpAny_slotsU (fun i a b=>i=last∨(i<last∧M i a b)) frame (fun L u w=>(L last=false∧Ext L u w)∨(L last=true∧(∀ j,j<last→L j=true)∧Fin u w))
  (fun j L w v=>if j=last then L last=true else(L last=true∨Good j L w v)) ?_ hback ?_ ?_ fuel listed u w hs (.inl ⟨hnone last,hext⟩) (fun i _ hl=>by rw[hnone i] at hl;cases hl) hc
 ·intro j L w w' i v hM hij hLi h;have hu:∀ k,L k=true→updK L i k=true:=fun k hk=>by unfold updK;split<;>simp[hk]
  by_cases hj:j=last
  ·rw[if_pos hj] at h ⊢;exact hu _ h
  ·rw[if_neg hj] at h ⊢;rcases h with h|h
   ·exact .inl (hu _ h)
   ·rcases hM with hil|⟨hi',hM⟩
    ·left;unfold updK;rw[if_pos hil.symm]
    ·exact .inr (hstab j L w w' i v hi' hM hij hLi h)
 ·intro i o L u w ho hLi hx hdep K hK;have hi:i<last+1:=by rw[←hlast];exact(Array.getElem?_eq_some_iff.1 ho).1
  rcases hx with⟨hl,hx⟩|⟨hl,hall,_⟩
  ·by_cases hil:i=last
   ·subst hil;refine hend o L u w ho hx (fun j hj=>?_) K (fun w' v hf=>hK w' v ?_ ?_ (.inl rfl))
    ·obtain⟨e,he,hbd,rfl⟩:=hw o ho j hj;obtain⟨h1,h2⟩:=hdep e he hbd;rw[if_neg (by omega)] at h2;refine⟨h1,h2.resolve_left (by rw[hl];simp)⟩
    ·rw[if_pos rfl];unfold updK;simp
    ·refine .inr ⟨by unfold updK;simp,fun j hj=>?_,hf⟩;obtain⟨e,he,hbd,rfl⟩:=hw o ho j hj;have:=(hdep e he hbd).1;unfold updK;split<;>simp[this]
   ·have hi':i<last:=by omega
    refine hop i o L u w hi' ho hLi hx (fun e he hbd=>?_) K (fun w' v hg hext hm=>hK w' v ?_ ?_ (.inr ⟨hi',hm⟩))
    ·obtain⟨h1,h2⟩:=hdep e he hbd;have hlt:=hb i o ho e he;rw[if_neg (by omega)] at h2;exact⟨h1,h2.resolve_left (by rw[hl];simp)⟩
    ·rw[if_neg hil];exact .inr hg
    ·refine .inl ⟨?_,hext⟩;unfold updK;rw[if_neg (by omega)];exact hl
  ·exfalso
   by_cases hil:i=last
   ·subst hil;rw[hl] at hLi;cases hLi
   ·rw[hall i (by omega)] at hLi;cases hLi
 ·intro L u w hx hg;have h1:=hg last (by omega);rw[if_pos rfl] at h1;rcases hx with⟨hl,_⟩|⟨_,_,hf⟩
  ·rw[hl] at h1;cases h1
  ·exact hdone u w hf
end
def Value.adr:Value→Option Addr
 |.slice a _ _=>a
 |.pointer a=>a
 |_=>none
def Value.has (v:Value) (k:Nat):Prop:=(∃ a,Value.adr v=some a∧a.block=k)∨∃ cs,v=.agg cs∧∃ c,c∈cs.toList∧∃ a,Value.adr c=some a∧a.block=k
def FreshH (w w':World) (v:Value):Prop:=∀ k,Value.has v k→w.heap.size≤k∧k<w'.heap.size
def ApVH (x y:Value):Prop:=∀ k,Value.has x k→¬ Value.has y k
structure ApH (W:World) (ps:List Nat) (L:Nat→Bool) (u:Nat→Value) (w:World):Prop where
 below:Below W.heap.size W w
 blt:∀ p,p∈ps→L p=true→∀ k,Value.has (u p) k→k<w.heap.size
 ap:∀ p,p∈ps→∀ q,q∈ps→p≠q→L p=true→L q=true→ApVH (u p) (u q)
theorem ApH.start (W:World) (ps:List Nat) (L:Nat→Bool) (u:Nat→Value) (h:∀ i,L i=false) {w:World} (b:Below W.heap.size W w):ApH W ps L u w:=
 ⟨b,fun p _ hp=>(by rw[h] at hp;cases hp),fun p _ q _ _ hp=>(by rw[h] at hp;cases hp)⟩
theorem ApH.step {W:World} {ps:List Nat} {L:Nat→Bool} {u:Nat→Value} {w w':World} (h:ApH W ps L u w) (i:Nat) (v:Value) (b:Below w.heap.size w w') (hv:i∈ps→FreshH w w' v):ApH W ps (updK L i) (upd u i v) w':=by
 refine⟨h.below.trans (b.mono h.below.size),fun p hp hl=>?_,fun p hp q hq hne hlp hlq=>?_⟩
 ·by_cases e:p=i
  ·subst e;simp only[upd,if_true];exact fun k hk=>(hv hp k hk).2
  ·simp only[updK,if_neg e] at hl;simp only[upd,if_neg e];exact fun k hk=>Nat.lt_of_lt_of_le (h.blt p hp hl k hk) b.size
 ·by_cases e:p=i
  ·subst e;have e2:¬ q=p:=fun h=>hne h.symm
   simp only[updK,if_neg e2] at hlq;simp only[upd,if_true,if_neg e2];intro k hk hk';have h1:=(hv hp k hk).1;have h2:=h.blt q hq hlq k hk';omega
  ·by_cases e2:q=i
   ·subst e2;simp only[updK,if_neg e] at hlp;simp only[upd,if_true,if_neg e];intro k hk hk';have h1:=(hv hq k hk').1;have h2:=h.blt p hp hlp k hk;omega
   ·simp only[updK,if_neg e,if_neg e2] at hlp hlq;simp only[upd,if_neg e,if_neg e2];exact h.ap p hp q hq hne hlp hlq
theorem has_agg {cs:Array Value} {k:Nat}:Value.has (.agg cs) k↔∃ c,c∈cs.toList∧∃ a,Value.adr c=some a∧a.block=k:=by
 constructor
 ·rintro (⟨a,h,_⟩|⟨cs',h,h2⟩)
  ·cases h
  ·cases h;exact h2
 ·intro h;exact .inr ⟨_,rfl,h⟩
theorem has_ptr {g o:Nat} {k:Nat}:Value.has (.pointer (some ⟨g,o,none⟩)) k↔k=g:=by
 constructor
 ·rintro (⟨a,h,rfl⟩|⟨cs',h,h2⟩)
  ·cases h;rfl
  ·cases h
 ·rintro rfl;exact .inl ⟨_,rfl,rfl⟩
set_option maxRecDepth 100000 in
set_option maxHeartbeats 2000000 in
theorem ivs_any (aD aU aT:Option Addr) (nD cD nU cU nT cT:Nat) (D U:List Int) (k:Int) (T:List Int) (w:World) (hD:D.length=nD) (hU:U.length=nU) (hT:T.length=nT*2) (mD:nD≤1048576) (mU:nU≤1048576) (mT:nT≤1048576)
  (haD:At .i64 w aD D) (haU:At .i64 w aU U) (haT:At .i64 w aT T) (hnil:aT=none→nT=0∧cT=0) (hk0:-9223372036854775808≤k) (hk1:k<9223372036854775808) :
  Calls Tryz.prog 107 #[.agg #[.slice aD nD cD,.slice aU nU cU,.int .i64 k,.slice aT nT cT]] w fun e w'=>e=.returned (.bool (stB D U k T nT))∧Below w.heap.size w w':=by
 have b0:Below w.heap.size w (w.alloc (.cells #[.slice aD nD cD,.slice aU nU cU,.int .i64 k,.slice aT nT cT] 34)):=(Below.refl _ _).alloc (Nat.le_refl _) _;have HC:=openBook_any aD aU aT nD cD nU cU nT cT D U k T _ hD hU hT mD mU mT (haD.below b0) (haU.below b0) (haT.below b0) hnil hk0 hk1;have HB0:Hid (Below w.heap.size w (w.alloc (.cells #[.slice aD nD cD,.slice aU nU cU,.int .i64 k,.slice aT nT cT] 34))):=b0;clear haD haU haT hnil hk0 hk1 hD hU hT b0;go_enter Tryz.func107,Tryz.ntmps107;go_wp2_with fail;refine HC.mono ?_;rintro e w1 ⟨bk,rfl,hs,ho,hb,_⟩;have HB1:Hid (Below w.heap.size w w1):=HB0.out.trans (hb.mono HB0.out.size);have HN:Hid ((w1.alloc (.cells Tryz.zeroCells110 110)).heap[w1.heap.size]?=some (.cells Tryz.zeroCells110 110 (0,0))):=heap_alloc_new w1 _;have HSZ:Hid ((Tryz.prog.info? 110).map (·.size)=some bk.size):=by show _=_;rw[hs];exact Tryz.sizeBook
 have HEQ:Hid ((Tryz.zeroCells110).size=bk.size):=by show _=_;rw[hs];exact zc_size
 have HOK:Hid (bk.all (fun x=>x.oneCell')=true):=ho;have HB2:Hid (∀ cs,Below w.heap.size w ((w1.alloc (.cells Tryz.zeroCells110 110)).setRow w1.heap.size cs)):=fun cs=>HB1.out.trans ((((Below.refl _ _).alloc (Nat.le_refl _) _).trans ((Wr.setRow _ _ _).below (Nat.le_refl _))).mono HB1.out.size)
 clear hs ho hb HC HB0;generalize hq:stB D U k T nT=q at *;have HQ:Hid (stB D U k T nT=q):=hq;clear hq;go_wp2_with (first
  |(refine wpList_store_row rfl 110 (.tmp 3) (.tmp 8) rfl w1.heap.size bk rfl rfl 110 _ HN.out HSZ.out HEQ.out HOK.out ?_)
  |fail)
 go_ret
 exact⟨by rw[HQ.out];rfl,HB2.out _⟩
set_option maxHeartbeats 1000000 in
theorem setNo_any (g o:Nat) (t:TypeId) (p:Nat) (v:Int) (zs:List Int) (w:World) (hr:Row w g t zs) (hl:o+64≤zs.length) (hp:p≤60) (hv:U32 v) :
  Calls Tryz.prog 44 #[.pointer (some ⟨g,o,none⟩),.int .i64 p,.int .u32 v] w fun e w'=>e=.returned (.tuple #[])∧Row w' g t (putK zs (o+p) v 4)∧Wr g w w':=by
 obtain⟨hv0,hv1⟩:=hv;go_enter Tryz.func44,Tryz.ntmps44;go_wp2
 go_loopw [7] (fun i wr=>∃ k:Nat,k≤4∧i=.int .i64 k∧Row wr g t (putK zs (o+p) v k)∧Wr g w wr) (fun i _=>4-(intOf i).toNat)
 case atStart=>exact⟨0,by omega,rfl,hr,Wr.refl _ _⟩
 case round=>
  obtain⟨k,hk,rfl,hrow,hwr⟩:=hrel;by_cases hlt:k<4
  ·have hlen:=putK_len zs (o+p) v k;have hc:=hrow.cell (o+p+k) (by omega);have hf:=hrow.frozen (o+p+k);have hc':wr.cell? ⟨g,o+(p+k),none⟩=some (.int .u8 ((putK zs (o+p) v k).getD (o+p+k) 0)):=by rw[←Nat.add_assoc];exact hc
   have hf':wr.frozen? ⟨g,o+(p+k),none⟩=false:=by rw[←Nat.add_assoc];exact hf
   have HN:Hid (∀ x,Row (wr.setCell ⟨g,o+(p+k),none⟩ (.int .u8 x)) g t ((putK zs (o+p) v k).set (o+p+k) x)∧Wr g w (wr.setCell ⟨g,o+(p+k),none⟩ (.int .u8 x))):=fun x=>by rw[←Nat.add_assoc];exact⟨hrow.set _ _,hwr.setCell _ _⟩
   clear hc hf;go_wp2
   go_region
   go_wp2;go_roundw
   case rel=>exact⟨k+1,by omega,by go_num,(HN.out _).1.drew,(HN.out _).2.drew⟩
   case measure=>simp[intOf];omega
  ·have hk4:k=4:=by omega
   subst hk4;go_wp2
   go_end0
   exact⟨rfl,hrow,hwr⟩
theorem hid_ofSn {p:Prop} (h:p):Hid p:=h
set_option maxRecDepth 100000 in
set_option maxHeartbeats 2000000 in
theorem snstO_any (h o:Nat) (aD aU:Option Addr) (nD cD nU cU:Nat) (w:World) (hh:h<w.heap.size) (c2:w.cell? ⟨h,o+2,none⟩=some (.slice aD nD cD)) (c3:w.cell? ⟨h,o+3,none⟩=some (.slice aU nU cU)) :
  Calls Tryz.prog 52 #[.pointer (some ⟨h,o,none⟩)] w fun e w'=>e=.returned (.agg #[.slice aD nD cD,.slice aU nU cU,.int .i64 nU,.slice none 0 0])∧Below w.heap.size w w':=by
 have HSZ:Hid ((Tryz.prog.info? 34).map (·.size)=some 4):=by show _=_;kernel_rfl
 have HO0:Hid (OE w 34 #[.slice none 0 0,.slice none 0 0,.int .i64 0,.slice none 0 0] (w.alloc (.cells #[.slice none 0 0,.slice none 0 0,.int .i64 0,.slice none 0 0] 34))):=OE.start _ _ _;have bl:=HO0.out.below.block h hh;have HC:Hid (h<(w.alloc (.cells #[.slice none 0 0,.slice none 0 0,.int .i64 0,.slice none 0 0] 34)).heap.size∧(w.alloc (.cells #[.slice none 0 0,.slice none 0 0,.int .i64 0,.slice none 0 0] 34)).cell? ⟨h,o+2,none⟩=some (.slice aD nD cD)∧(w.alloc (.cells #[.slice none 0 0,.slice none 0 0,.int .i64 0,.slice none 0 0] 34)).cell? ⟨h,o+3,none⟩=some (.slice aU nU cU)):=⟨Nat.lt_of_lt_of_le hh HO0.out.below.size,by rw[World.cell?_of_block (a:=⟨h,o+2,none⟩) (w:=w) bl];exact c2,by rw[World.cell?_of_block (a:=⟨h,o+3,none⟩) (w:=w) bl];exact c3⟩
 clear hh c2 c3 bl;go_enter Tryz.func52,Tryz.ntmps52;go_wp2_with fail;generalize w.alloc (.cells #[.slice none 0 0,.slice none 0 0,.int .i64 0,.slice none 0 0] 34)=w1 at *;refine wp_region_any (by kernel_rfl) ?_;refine wpAny_slotsF 14 (fun _ a b=>Below a.heap.size a b) (frame:=(fun (a b c:Value)=>fun (t:Nat→Value)=>({ tmps:=List.toArray [a,b,c,t 0,t 1,t 2,t 3,t 4,t 5,t 6,t 7,t 8,t 9,t 10,t 11,t 12,t 13],defers:=[] }:Act)) _ _ _)
  (Ext:=fun L u w'=>ApH w1 [] L u w') (Good:=fun i L w' v=>if i=0 then v=.pointer (some ⟨h,o,none⟩) else if i=1 then v=.pointer (some ⟨h,o,none⟩) else if i=2 then v=.pointer (some ⟨h,o+2,none⟩) else if i=3 then v=.slice aD nD cD else if i=4 then v=.pointer (some ⟨h,o,none⟩) else if i=5 then v=.pointer (some ⟨h,o,none⟩) else if i=6 then v=.pointer (some ⟨h,o+3,none⟩) else if i=7 then v=.slice aU nU cU else if i=8 then v=.pointer (some ⟨h,o,none⟩) else if i=9 then v=.pointer (some ⟨h,o,none⟩) else if i=10 then v=.pointer (some ⟨h,o+3,none⟩) else if i=11 then v=.slice aU nU cU else if i=12 then v=.int .i64 nU else if i=13 then v=.agg #[.slice aD nD cD,.slice aU nU cU,.int .i64 nU,.slice none 0 0] else True) (Fin:=fun _ ww=>ww.heap[w.heap.size]?=some (.cells #[.slice aD nD cD,.slice aU nU cU,.int .i64 nU,.slice none 0 0] 34 (0,0))∧Below w.heap.size w ww) rfl (by kernel_rfl) ?hstab (by kernel_rfl) ?hop ?hend ?hdone _ _ ((fun (x0 x1 x2 x3 x4 x5 x6 x7 x8 x9 x10 x11 x12 x13:Value)=>fun (i:Nat)=>if i=0 then x0 else if i=1 then x1 else if i=2 then x2 else if i=3 then x3 else if i=4 then x4 else if i=5 then x5 else if i=6 then x6 else if i=7 then x7 else if i=8 then x8 else if i=9 then x9 else if i=10 then x10 else if i=11 then x11 else if i=12 then x12 else if i=13 then x13 else undef) _ _ _ _ _ _ _ _ _ _ _ _ _ _) _ (by simp) ?none ?ext (by simp)
 case none=>intro i;rw[Array.getD_eq_getD_getElem?,Array.getElem?_replicate];split<;>rfl
 case ext=>exact ApH.start w1 [] _ _ (fun i=>by rw[Array.getD_eq_getD_getElem?,Array.getElem?_replicate];split<;>rfl) ⟨rfl,rfl,rfl,Nat.le_refl _,fun _ _=>rfl⟩
 case hstab=>
  intro j L w9 w' i v _ hM _ _ h;exact h
 case hop=>
  intro i oo L t w' hi ho hLi hx hdep K hK;have k2:w'.cell? ⟨h,o+2,none⟩=some (.slice aD nD cD):=by rw[World.cell?_of_block (a:=⟨h,o+2,none⟩) (w:=w1) (hx.below.block _ HC.out.1)];exact HC.out.2.1
  have k3:w'.cell? ⟨h,o+3,none⟩=some (.slice aU nU cU):=by rw[World.cell?_of_block (a:=⟨h,o+3,none⟩) (w:=w1) (hx.below.block _ HC.out.1)];exact HC.out.2.2
  obtain rfl|rfl|rfl|rfl|rfl|rfl|rfl|rfl|rfl|rfl|rfl|rfl|rfl|rfl:i=0∨i=1∨i=2∨i=3∨i=4∨i=5∨i=6∨i=7∨i=8∨i=9∨i=10∨i=11∨i=12∨i=13:=by omega
  all_goals(simp at ho;subst ho)
  all_goals try(have hK':=hK w' _ rfl (hx.step _ _ (Below.refl _ _) (fun h=>absurd h (by decide))) (Below.refl _ _);clear hK;simp[Region.binds] at hdep;rw[if_pos (by rfl)];go_simp;simpa[upd,hdep] using hK')
 case hend=>
  intro oo L t w' ho hx hg K hK;simp at ho;subst ho;have d13:t 13=.agg #[.slice aD nD cD,.slice aU nU cU,.int .i64 nU,.slice none 0 0]:=by simpa using(hg 13 (by decide)).2
  clear hg;have hrs:=(hx.below.block _ (Array.getElem?_eq_some_iff.1 HO0.out.b0).1).trans HO0.out.b0;have hK':∀ ww,Wr w.heap.size w' ww→ww.heap[w.heap.size]?=some (.cells #[.slice aD nD cD,.slice aU nU cU,.int .i64 nU,.slice none 0 0] 34 (0,0))→K _ ww:=fun ww hw hr=>hK ww undef ⟨hr,(HO0.out.below.trans (hx.below.mono HO0.out.below.size)).trans (hw.below (Nat.le_refl _))⟩
  clear hK;rw[if_pos (by rfl)];refine wp_store_row 34 (.tmp 2) (.tmp 16) rfl w.heap.size #[.slice aD nD cD,.slice aU nU cU,.int .i64 nU,.slice none 0 0] rfl d13 34 _ hrs HSZ.out rfl (by simp[Value.oneCell']) ?_;have hK2:=hK' _ (Wr.setRow _ _ _) (setRow_heap _ _ _ _ _ _ hrs);clear hK';simpa[upd,Act.put] using hK2
 case hdone=>
  intro t w9 hf;have HF:=hid_ofSn hf;clear hf;go_wp2_with fail;exact bodyPost_ret (v:=.agg #[.slice aD nD cD,.slice aU nU cU,.int .i64 nU,.slice none 0 0]) (results_cell_row rfl _ _ w.heap.size 34 _ (0,0) _ rfl HF.out.1 Tryz.underlying34 rfl HSZ.out) rfl ⟨rfl,HF.out.2⟩
theorem snst_any (h:Nat) (aD aU:Option Addr) (nD cD nU cU:Nat) (w:World) (hh:h<w.heap.size) (c2:w.cell? ⟨h,2,none⟩=some (.slice aD nD cD)) (c3:w.cell? ⟨h,3,none⟩=some (.slice aU nU cU)) :
  Calls Tryz.prog 52 #[.pointer (some ⟨h,0,none⟩)] w fun e w'=>e=.returned (.agg #[.slice aD nD cD,.slice aU nU cU,.int .i64 nU,.slice none 0 0])∧Below w.heap.size w w':=snstO_any h 0 aD aU nD cD nU cU w hh (by simpa using c2) (by simpa using c3)
def SnP (gn tl:Int) (D U:List Int):Prop:=gn≤4000000000∧1≤tl∧tl≤4000000000∧SerP D∧D.length≤16∧SerP U
open Classical in
noncomputable def snB (gn tl:Int) (D U:List Int):Bool:=decide (SnP gn tl D U)
theorem snB_no {gn tl:Int} {D U:List Int} (h:¬ SnP gn tl D U):snB gn tl D U=false:=by unfold snB;simp[h]
theorem snB_yes {gn tl:Int} {D U:List Int} (h:SnP gn tl D U):snB gn tl D U=true:=by unfold snB;simp[h]
theorem stB_sn {gn tl:Int} {D U:List Int} {nU:Nat} (hU:U.length=nU) (h1:gn≤4000000000) (h2:1≤tl) (h3:tl≤4000000000):stB D U nU [] 0=snB gn tl D U:=by
 by_cases h:StP D U nU [] 0
 ·rw[stB_yes h,snB_yes ⟨h1,h2,h3,h.1,h.2.1,h.2.2.1⟩]
 ·rw[stB_no h,snB_no (fun q=>h ⟨q.2.2.2.1,q.2.2.2.2.1,q.2.2.2.2.2,by omega,by rw[hU];omega,fun i hi=>by omega⟩)]
set_option maxRecDepth 100000 in
set_option maxHeartbeats 2000000 in
theorem snv_any (h:Nat) (gn tl:Int) (aD aU:Option Addr) (nD cD nU cU:Nat) (D U:List Int) (w:World) (hh:h<w.heap.size) (c0:w.cell? ⟨h,0,none⟩=some (.int .u32 gn)) (c1:w.cell? ⟨h,1,none⟩=some (.int .u32 tl)) (c2:w.cell? ⟨h,2,none⟩=some (.slice aD nD cD)) (c3:w.cell? ⟨h,3,none⟩=some (.slice aU nU cU))
  (hD:D.length=nD) (hU:U.length=nU) (mD:nD≤1048576) (mU:nU≤1048576) (haD:At .i64 w aD D) (haU:At .i64 w aU U) :
  Calls Tryz.prog 90 #[.pointer (some ⟨h,0,none⟩)] w fun e w'=>e=.returned (.bool (snB gn tl D U))∧Below w.heap.size w w':=by
 by_cases h1:gn≤4000000000
 ·by_cases h2:1≤tl
  ·by_cases h3:tl≤4000000000
   ·have HE:Hid (stB D U nU [] 0=snB gn tl D U):=stB_sn hU h1 h2 h3;have HC1:=snst_any h aD aU nD cD nU cU w hh c2 c3;have HC2:Hid (∀ w',Below w.heap.size w w'→Calls Tryz.prog 107 #[.agg #[.slice aD nD cD,.slice aU nU cU,.int .i64 nU,.slice none 0 0]] w' fun e w''=>e=.returned (.bool (stB D U nU [] 0))∧Below w'.heap.size w' w''):=fun w' b=>ivs_any aD aU none nD cD nU cU 0 0 D U nU [] w' hD hU rfl mD mU (by omega) (haD.below b) (haU.below b) (.inl rfl) (fun _=>⟨rfl,rfl⟩) (by omega) (by omega)
    have h2':tl≥1:=h2;clear haD haU hD hU;go_enter Tryz.func90,Tryz.ntmps90;go_wp2_with fail;refine HC1.mono ?_;rintro e w1 ⟨rfl,hb1⟩;have HC:=HC2.out w1 hb1;have HB1:Hid (Below w.heap.size w w1):=hb1;clear HC1 HC2 hb1;go_wp2_with fail;refine HC.mono ?_;rintro e w2 ⟨rfl,hb2⟩;have HF:Hid (Below w.heap.size w w2):=HB1.out.trans (hb2.mono HB1.out.size);rw[HE.out];clear HC HB1 hb2;generalize hq:snB gn tl D U=q at *;have HQ:Hid (snB gn tl D U=q):=hq;clear hq;go_wp2
    go_ret
    exact⟨by rw[HQ.out];rfl,HF.out⟩
   ·have HE:Hid (snB gn tl D U=false):=snB_no (fun q=>h3 q.2.2.1);have h2':tl≥1:=h2;clear haD haU hD hU;go_enter Tryz.func90,Tryz.ntmps90;go_wp2
    go_ret
    exact⟨by rw[HE.out];rfl,Below.refl _ _⟩
  ·have HE:Hid (snB gn tl D U=false):=snB_no (fun q=>h2 q.2.1);have h2':¬ (tl≥1):=h2;clear haD haU hD hU;go_enter Tryz.func90,Tryz.ntmps90;go_wp2
   go_ret
   exact⟨by rw[HE.out];rfl,Below.refl _ _⟩
 ·have HE:Hid (snB gn tl D U=false):=snB_no (fun q=>h1 q.1);clear haD haU hD hU;go_enter Tryz.func90,Tryz.ntmps90;go_wp2
  go_ret
  exact⟨by rw[HE.out];rfl,Below.refl _ _⟩
theorem all4e (a a':Option Addr) (l l' c c':Nat) (f:Int) (d:Bool):(#[Value.slice a l c,.slice a' l' c',.int .i64 f,.bool d].all (fun v=>v.oneCell'))=true:=by simp[Value.oneCell']
theorem Tryz.sizeDv:(Tryz.prog.info? 27).map (·.size)=some 4:=by kernel_rfl
theorem PMine.entry {B U:Nat} {w:World} {a:Option Addr} {ps:List PD} (h:PMine B U w a ps) {i:Nat} (hi:i<ps.length) (hz:0<(ps.getD i (0,[])).2.length) :
  ∃ b off b' off' c,a=some ⟨b,off,none⟩∧b<w.heap.size∧w.cell? ⟨b,off+i*2,none⟩=some (.int .i64 (ps.getD i (0,[])).1)∧
   w.cell? ⟨b,off+i*2+1,none⟩=some (.slice (some ⟨b',off',none⟩) (ps.getD i (0,[])).2.length c)∧(ps.getD i (0,[])).2.length≤c∧At .u8 w (some ⟨b',off',none⟩) (ps.getD i (0,[])).2:=by
 rcases h with h|⟨g,o,X,C,ha,hB,hg,hU,h1,h2⟩
 ·subst h;simp at hi
 ·obtain⟨p1,p2,p3,p4,p5,p6,p7⟩:=h1 i hi;obtain⟨b',off',e,_,_⟩:=p4.get hz;rw[e] at p3 p4;exact⟨g,o,b',off',C i,ha,by omega,p1,p3,p7,p4⟩
def DPl (w:World) (B:Nat) (r:Value) (R:List Int) (F:Int):Prop:=∃ dv,r=.agg #[dv,.slice none 0 0,.int .i64 F,.bool false]∧OwnN w B dv R
theorem DPl.mine {w:World} {B:Nat} {r:Value} {R:List Int} {F:Int} (h:DPl w B r R F) (hB:B≤w.heap.size):DMine B w.heap.size w r R [] F false:=by
 obtain⟨dv,rfl,⟨rfl,rfl⟩|h⟩:=h
 ·exact DMine.nil _ _ _ hB (Nat.le_refl _) _ _
 ·exact DMine.plain _ _ h rfl
def GS (D g n c s S B:Nat) (zs z:List Int):Nat→World→(Nat→Value)→Prop
 |0,_,u=>u 0=.pointer (some ⟨D,0,none⟩)
 |1,_,u=>u 1=.pointer (some ⟨D,0,none⟩)
 |2,_,u=>u 2=.pointer (some ⟨D,0,none⟩)
 |3,_,u=>u 3=.slice (some ⟨g,0,none⟩) n c
 |4,_,u=>u 4=.int .i64 s
 |5,_,u=>u 5=.int .i64 ((s*64:Nat):Int)
 |6,_,u=>u 6=.slice (some ⟨g,s*64,none⟩) (n-s*64) (c-s*64)
 |7,_,u=>u 7=.slice (some ⟨S,0,none⟩) 64 64
 |_,w,_=>Own w B (.slice (some ⟨g,0,none⟩) n c) (overL zs s z)
structure XS (w w':World) (g n c s B:Nat) (zs z:List Int):Prop where
 ch:Ch g (g+1) w w'
 own:∃ y,Own w' B (.slice (some ⟨g,0,none⟩) n c) y∧y.length=n∧y.take (s*64)=zs.take (s*64)∧y.drop (s*64+64)=zs.drop (s*64+64)
 z:Row w' w.heap.size 65 z
set_option maxHeartbeats 1000000 in
set_option maxRecDepth 100000 in
theorem store_any (D:Nat) (g n c:Nat) (x:Option Addr) (m cx:Nat) (f:Int) (dd:Bool) (s:Nat) (B:Nat) (zs z:List Int) (w:World) {X:List Value} {T:TypeId} (hD:w.heap[D]?=some (.cells (List.toArray (.slice (some ⟨g,0,none⟩) n c::.slice x m cx::.int .i64 f::.bool dd::X)) T (0,0)))
  (hO:Own w B (.slice (some ⟨g,0,none⟩) n c) zs) (hn:zs.length=n) (hn2:n≤1048576) (hz:z.length=64) (hs:s*64+64≤n) (hT:T≠5:=by decide) :
  Calls Tryz.prog 21 #[.pointer (some ⟨D,0,none⟩),.int .i64 s,secV z] w fun e w'=>e=.returned (.tuple #[])∧Own w' B (.slice (some ⟨g,0,none⟩) n c) (overL zs s z)∧Ch g (g+1) w w':=by
 have c0:w.cell? ⟨D,0,none⟩=some (.slice (some ⟨g,0,none⟩) n c):=by rw[cell_of_row w D 0 _ _ _ hD];rfl
 have hDl:D<w.heap.size:=(Array.getElem?_eq_some_iff.1 hD).1;obtain⟨gg,cc,ee,hBg,hgl,hnc⟩:=hO.base;rw[hn] at ee hnc;cases ee;have hDg:D≠g:=by
  intro e;subst e;obtain⟨h1,⟨h2,_⟩|⟨g',cap,cur,hv,hb,hh,_⟩⟩:=hO.1
  ·cases h2
  ·cases hv;rw[hD] at hh;simp at hh;exact hT hh.2
 have HO:Hid _:=hO;have HZ:Hid _:=hz;have HN:Hid _:=hn;have hcs:¬ (c=s*64):=by omega
 clear hD hO hz hn;unfold secV;have t1:(s:Int)*64≤n:=by omega
 go_enter Tryz.func21,Tryz.ntmps21;go_wp2_with fail;have hb1:=(Below.refl w.heap.size w).alloc (Nat.le_refl _) (.cells (z.map (Value.int .u8)).toArray 65);have st0:XS w (w.alloc (.cells (z.map (Value.int .u8)).toArray 65)) g n c s B zs z:=⟨Ch.of_below hb1,⟨zs,(show Own _ _ _ _ from HO.out).alloc _,HN.out,rfl,rfl⟩,heap_alloc_new w _⟩
 clear hb1;generalize (w.alloc (.cells (z.map (Value.int .u8)).toArray 65))=w1 at *;refine wp_region_any (by kernel_rfl) ?_;refine wpAny_slots2 (frame:=fun t=>{ tmps:=#[Value.pointer (some { block:=D,off:=0 }),Value.int IntKind.i64 ↑s,Value.agg (List.map (Value.int IntKind.u8) z).toArray,undef,undef,Value.pointer (some { block:=w.heap.size,off:=0 }),t 0,t 1,t 2,t 3,t 4,t 5,t 6,t 7,t 8],defers:=[] })
  (Ext:=fun w'=>XS w w' g n c s B zs z) (Good:=GS D g n c s w.heap.size B zs z) (M:=fun i w w'=>i≠8→w'=w) ?hstab (by kernel_rfl) ?hop ?hdone _ _ (fun _=>undef) _ (by simp) ?ext ?start ?clo (by simp)
 case start=>intro i hi h;exact absurd h (by rw[Array.getD_eq_getD_getElem?,Array.getElem?_replicate];split<;>simp)
 case clo=>intro i o ho h;exact absurd h (by rw[Array.getD_eq_getD_getElem?,Array.getElem?_replicate];split<;>simp)
 case ext=>exact⟨⟨st0.ch.os,st0.ch.tape,st0.ch.output,st0.ch.size,st0.ch.block⟩,st0.own,st0.z⟩
 case hstab=>
  intro j o w1 w2 u i v ho hM hij _ hg;have hj:j<9:=(Array.getElem?_eq_some_iff.1 ho).1;obtain rfl|rfl|rfl|rfl|rfl|rfl|rfl|rfl|rfl:j=0∨j=1∨j=2∨j=3∨j=4∨j=5∨j=6∨j=7∨j=8:=by omega
  all_goals simp only[GS] at hg ⊢
  all_goals first
   |(rw[upd_ne2 hij];exact hg)
   |(rw[hM hij];exact hg)
 case hdone=>
  intro t w2 hx hg;have h8:Own w2 B (.slice (some ⟨g,0,none⟩) n c) (overL zs s z):=hg 8 (by decide);have H8:Hid _:=h8;have HC:Hid _:=hx.ch;clear hg hx h8;go_wp2
  go_end0
  exact⟨rfl,H8.out,HC.out⟩
 case hop=>
  intro i o t w' ho hx hdep K hK;have hi:i<9:=(Array.getElem?_eq_some_iff.1 ho).1;have k0:w'.cell? ⟨D,0,none⟩=some (.slice (some ⟨g,0,none⟩) n c):=by
   rw[World.cell?_of_block (a:=⟨D,0,none⟩) (w:=w) (hx.ch.block D hDl (by omega))];exact c0
  obtain rfl|rfl|rfl|rfl|rfl|rfl|rfl|rfl|rfl:i=0∨i=1∨i=2∨i=3∨i=4∨i=5∨i=6∨i=7∨i=8:=by omega
  all_goals(simp at ho;subst ho)
  ·clear hdep;go_simp;exact hK w' _ rfl hx (fun _=>rfl)
  ·have d:t 0=_:=hdep ⟨0,.data⟩ (by simp) rfl;clear hdep;go_simp;simpa[upd,d] using hK w' (.pointer (some ⟨D,0,none⟩)) rfl hx (fun _=>rfl)
  ·have d:t 1=_:=hdep ⟨1,.data⟩ (by simp) rfl;clear hdep;go_simp;simpa[upd,d] using hK w' (.pointer (some ⟨D,0,none⟩)) rfl hx (fun _=>rfl)
  ·have d:t 2=_:=hdep ⟨2,.data⟩ (by simp) rfl;clear hdep;go_simp;simpa[upd,d] using hK w' (.slice (some ⟨g,0,none⟩) n c) rfl hx (fun _=>rfl)
  ·clear hdep;go_simp;exact hK w' _ rfl hx (fun _=>rfl)
  ·have d:t 4=_:=hdep ⟨4,.data⟩ (by simp) rfl;clear hdep;have hwr:IntKind.i64.wrap ((s:Int)*64)=(s:Int)*64:=by rw[IntKind.wrap_i64];omega
   go_simp;simpa[upd,d] using hK w' (.int .i64 ((s*64:Nat):Int)) rfl hx (fun _=>rfl)
  ·have d3:t 3=_:=hdep ⟨3,.data⟩ (by simp) rfl;have d5:t 5=_:=hdep ⟨5,.data⟩ (by simp) rfl;clear hdep;have hnc':(n:Int)≤c:=by omega
   have hsn':((s*64:Nat):Int)≤n:=by omega
   have hfin:=hK w' (.slice (some ⟨g,s*64,none⟩) (n-s*64) (c-s*64)) rfl hx (fun _=>rfl);clear hK hx k0 st0;generalize s*64=s64 at *;go_simp;simpa[upd,d3,d5,hcs] using hfin
  ·clear hdep;go_simp;exact hK w' _ rfl hx (fun _=>rfl)
  ·have d6:t 6=_:=hdep ⟨6,.data⟩ (by simp) rfl;have d7:t 7=_:=hdep ⟨7,.data⟩ (by simp) rfl;obtain⟨y,hy,hyl,hyt,hyd⟩:=hx.own;have hzl:=HZ.out;obtain⟨cur,hcur,hcs2⟩:∃ cur,w'.heap[g]?=some (.cells cur 5 (0,0))∧cur.size=c:=by
    obtain⟨h1,⟨h2,_⟩|⟨g',cap,cur,hv,hb,hh,_,_,hcz,_⟩⟩:=hy.1
    ·cases h2
    ·cases hv;exact⟨cur,hh,by omega⟩
   rw[if_pos (by rfl)];refine wp_copyG (.tmp 12) (.tmp 13) rfl (some ⟨g,s*64,none⟩) (some ⟨w.heap.size,0,none⟩) g (s*64) (n-s*64) (c-s*64) 64 64 d6 d7 cur 5 hcur z (by rw[hzl];exact(Nat.min_eq_left (by omega)).symm) (fun _=>⟨rfl,_,rfl,fun j hj=>?_⟩) (by rw[hzl];omega) ?_
   ·rw[Addr.add_lit,Nat.zero_add,Row.cell hx.z j hj]
   ·intro w2 h2 hw2;have hnew:=hy.splice (s*64) (by omega) hcur h2;rw[hzl] at hnew;have he:y.take (s*64)++(z++y.drop (s*64+64))=overL zs s z:=by unfold overL;rw[hyt,hyd,hzl]
    rw[he] at hnew;have hsl:w.heap.size≠g:=by omega
    refine hK w2 _ hnew ⟨hx.ch.trans ⟨hw2.os,hw2.tape,hw2.output,by rw[hw2.size];exact Nat.le_refl _,fun j _ hj=>hw2.block j (by omega)⟩,⟨_,hnew,by rw[overL_len zs s z (by have:=HN.out;omega)];exact HN.out,?_,?_⟩,hw2.row hx.z hsl⟩ (fun h=>absurd rfl h)
    ·have hn:=HN.out;unfold overL;rw[List.take_append_of_le_length (by simp;omega),List.take_take,Nat.min_self]
    ·have hn:=HN.out;unfold overL;rw[hzl,←List.append_assoc,List.drop_append_of_le_length (by simp;omega),List.drop_eq_nil_of_le (by simp;omega)];simp
def parts6 (s k a b:Int):List (List Int):=[four s,[74,49],[k%256,0],four a,four b,List.replicate 40 0]
def headS (s k a b:Int):List Int:=(parts6 s k a b).flatten
def parts3 (s k a b:Int):List (List Int):=[headS s k a b,four (crc (headS s k a b)),four s]
def encS (s k a b:Int):List Int:=(parts3 s k a b).flatten
theorem headS_len (s k a b:Int):(headS s k a b).length=56:=by simp[headS,parts6,four]
end Go.Proofs.YtilpkdnoaldfmaaGreatDoor
