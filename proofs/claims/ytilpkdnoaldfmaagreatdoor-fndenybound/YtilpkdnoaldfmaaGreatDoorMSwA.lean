import Derived.Test.YtilpkdnoaldfmaaGreatDoorMSvS
import Derived.Deep.AppendSrc
import Derived.Test.YtilpkdnoaldfmaaGreatDoorMRegU
import Derived.Test.YtilpkdnoaldfmaaGreatDoorMMkB
import Derived.Test.YtilpkdnoaldfmaaGreatDoorMArgDev
import Derived.Test.YtilpkdnoaldfmaaGreatDoorMCnC
import Derived.Deep.Cut
import Derived.Test.YtilpkdnoaldfmaaGreatDoorMCatC
import Derived.Test.YtilpkdnoaldfmaaGreatDoorMBase
import Derived.Test.YtilpkdnoaldfmaaGreatDoorMCatF
import Derived.Deep.WholeRow
namespace Go.Proofs.YtilpkdnoaldfmaaGreatDoor
open Go.ChangeShapes Go.WideShapes Go.ChangeAt Go.RowKit
set_option linter.unusedVariables false
variable {w w':World} {g:Nat} {d u:List Int} {k:Int} {v:Value} {D U:Nat→Prop} {T:List Int} {n H B:Nat}
theorem TapO.alloc (h:TapO B w v T n) (o:Obj):TapO B (w.alloc o) v T n:=World.ownsRow.alloc h _
theorem TapV.alloc (h:TapV B w v T n) (o:Obj):TapV B (w.alloc o) v T n:=h.block (by simp) (fun t _ ht=>heap_alloc_old w o ht)
theorem TapV.ownBlock (h:TapV B w v T n):∀ k,v.ownBlock=some k→B≤k:=fun k hk=>by
 obtain⟨_,⟨h',_⟩|⟨t,o,c,h',hb,_⟩⟩:=h
 ·rw[h'] at hk;simp[Value.ownBlock] at hk
 ·rw[h'] at hk;simp[Value.ownBlock] at hk;omega
theorem heap_setC {w:World} {t o:Nat} {cs:Array Value} {T:TypeId} {fr:Nat×Nat} (h:w.heap[t]?=some (.cells cs T fr)) (v:Value):(w.setCell ⟨t,o,none⟩ v).heap[t]?=some (.cells (cs.setIfInBounds o v) T fr):=by
 simp[World.setCell,Array.getElem?_modify,h]
theorem run_appT (w:World) (ty:TypeId) (B:Nat) (v:Value) (T:List Int) (n:Nat) (hown:TapV B w v T n) (wb:World) (s nw:Int) (hw:w=wb.alloc (.cells #[.int .i64 s,.int .i64 nw] 123)) (hm:n≤1048576) (hB:B≤w.heap.size) :
  ∃ v' w',(Builtin.append_ #[32,32] ty #[v,.slice (some ⟨wb.heap.size,0,none⟩) 1 1]).run Tryz.prog w=.ok v' w'∧TapV B w' v' (T++[s,nw]) (n+1)∧w.grownBy w' v.ownBlock∧(v'.ownBlock=v.ownBlock∨v'.ownBlock=some w.heap.size):=by
 obtain⟨i0,hi,hz0,hz1,hz2⟩:=info_parts Tryz.infoTap;have hnews:∀ j u,[Value.int .i64 s,.int .i64 nw][j]?=some u→w.cell? ((⟨wb.heap.size,0,none⟩:Addr).add j)=some u:=by
  intro j z hz;have hj:j<2:=by have:=(List.getElem?_eq_some_iff.1 hz).1;simpa using this
  rw[Addr.add_lit,hw,cell_of_row _ _ _ _ _ _ (heap_alloc_new wb _),Nat.zero_add];have:j=0∨j=1:=by omega
  rcases this with rfl|rfl<;>simpa using hz
 obtain⟨hl,⟨rfl,rfl⟩|⟨t,o,c,rfl,hB0,ht,hc,hmx,hx,cs,hcs,hsz⟩⟩:=hown
 ·have hT:T=[]:=List.eq_nil_of_length_eq_zero (by omega);subst hT;obtain⟨v',w',h1,h2,h3,_,h5⟩:=run_append_own_at (P:=Tryz.prog) w B 32 ty 123 i0 (.agg #[.int .i64 0,.int .i64 0]) 2 16 Tryz.underlying32 hi hz0 hz1 hz2 rfl (by decide) (.slice none 0 0) 0 [] ⟨rfl,.inl ⟨rfl,rfl⟩⟩ ⟨wb.heap.size,0,none⟩ 1 1 [.int .i64 s,.int .i64 nw] rfl hnews (by simp[Value.oneCell']) (by decide) (by decide) hB;exact⟨v',w',h1,TapO.tapV (T:=[]++[s,nw]) h2,h3,h5⟩
 ·have hsrc:Src Tryz.prog i0.size 32 (.slice (some ⟨wb.heap.size,0,none⟩) 1 1) 1 [.int .i64 s,.int .i64 nw] w:=
   Src.ofSlice w Tryz.underlying32 ⟨wb.heap.size,0,none⟩ 1 1 _ (by rw[hz1];rfl) hnews (by simp[Value.oneCell'])
  have hTl:T.length=n*2:=hl;by_cases hr:n+1≤c
  ·have hcell:∀ j,w.cell? ⟨t,j,none⟩=cs[j]?:=fun j=>cell_of_row w t j cs _ _ hcs
   have h1:=run_append_room_src (P:=Tryz.prog) w 32 32 ty 123 i0 Tryz.underlying32 hi t o n c _ 1 [.int .i64 s,.int .i64 nw] hsrc hr
    (fun j hj=>by have hj':j<2:=hj;rw[hcell,hz1,Array.getElem?_eq_getElem (by omega)];rfl) (fun j _=>frozen_of_row w t _ cs _ hcs)
   have e1:w.setCells t (o+n*i0.size) [.int .i64 s,.int .i64 nw]=(w.setCell ⟨t,o+n*2,none⟩ (.int .i64 s)).setCell ⟨t,o+n*2+1,none⟩ (.int .i64 nw):=by rw[hz1];rfl
   rw[e1] at h1;have hc2:((w.setCell ⟨t,o+n*2,none⟩ (.int .i64 s)).setCell ⟨t,o+n*2+1,none⟩ (.int .i64 nw)).heap[t]?=some (.cells ((cs.setIfInBounds (o+n*2) (.int .i64 s)).setIfInBounds (o+n*2+1) (.int .i64 nw)) 123 (0,0)):=heap_setC (heap_setC hcs _) _;have hsz2:((w.setCell ⟨t,o+n*2,none⟩ (.int .i64 s)).setCell ⟨t,o+n*2+1,none⟩ (.int .i64 nw)).heap.size=w.heap.size:=by simp[World.setCell]
   refine⟨_,_,h1,⟨by rw[List.length_append,hTl];simp;omega,.inr ⟨t,o,c,rfl,hB0,by rw[hsz2];exact ht,hr,hmx,fun i hi'=>⟨?_,frozen_of_row _ t _ _ _ hc2⟩,_,hc2,by simpa using hsz⟩⟩,⟨rfl,rfl,rfl,by rw[hsz2];exact Nat.le_refl _,fun k hk hne=>?_⟩,.inl rfl⟩
   ·rw[cell_of_row _ t _ _ _ _ hc2];have hb:o+n*2+1<cs.size:=by omega
    by_cases h1:i<n*2
    ·have hq:=(hx i h1).1;rw[hcell] at hq;rw[Array.getElem?_setIfInBounds_ne (by omega),Array.getElem?_setIfInBounds_ne (by omega),hq];simp[List.getD,List.getElem?_append_left (show i<T.length by omega)]
    ·by_cases h2:i=n*2
     ·subst h2;rw[Array.getElem?_setIfInBounds_ne (by omega),Array.getElem?_setIfInBounds_self_of_lt (by omega)];simp[List.getD,hTl]
     ·obtain rfl:i=n*2+1:=by omega
      rw[←Nat.add_assoc,Array.getElem?_setIfInBounds_self_of_lt (by simp;omega)];simp[List.getD,hTl]
   ·have hkt:k≠t:=fun e=>hne (by simp[Value.ownBlock,e])
    rw[heap_setCell_other _ _ _ _ (by show k≠t;exact hkt),heap_setCell_other _ _ _ _ (by show k≠t;exact hkt)]
  ·obtain rfl:c=n:=by omega
   have hcell:∀ j,w.cell? ⟨t,j,none⟩=cs[j]?:=fun j=>cell_of_row w t j cs _ _ hcs
   have hold:=run_firstCells_some (P:=Tryz.prog) w.drew i0.size c ⟨t,o,none⟩ c c (T.map (Value.int .i64)) (by rw[hz1];simpa using hTl) (fun j u hu=>by
    have hj:j<T.length:=by have:=(List.getElem?_eq_some_iff.1 hu).1;simpa using this
    rw[Addr.add_lit];have:=(hx j (by omega)).1;rw[show w.drew.cell? ⟨t,o+j,none⟩=w.cell? ⟨t,o+j,none⟩ from rfl,this];simp[hj] at hu ⊢;exact hu)
   have hcap:=nextslicecap_le (need:=c+1) (old:=c) (by omega);have h1:=run_append_grow_src (P:=Tryz.prog) w 32 32 ty 123 i0 (.agg #[.int .i64 0,.int .i64 0]) Tryz.underlying32 hi hz0 (some ⟨t,o,none⟩) c c (T.map (Value.int .i64)) hold _ 1 [.int .i64 s,.int .i64 nw] hsrc (by omega) (by omega) (by rw[hz2];omega);have hlen:(T.map (Value.int .i64)++[Value.int .i64 s,Value.int .i64 nw]).length=(c+1)*2:=by rw[List.length_append,List.length_map,hTl];simp;omega
   have hge:=grownCap_ge w (c+1) c 123;have hle:=grownCap_le_maxLen w (c+1) c 123 (by unfold maxLen;omega);refine⟨_,_,h1,TapO.tapV (T:=T++[s,nw]) ⟨by simp[hTl];omega,.inr ⟨_,_,_,rfl,hB,heap_alloc_new w.drew _,hge,hle,?_,?_⟩⟩,⟨rfl,rfl,rfl,by simp,fun k hk _=>heap_alloc_old w.drew _ hk⟩,.inr rfl⟩
   ·rw[Array.size_append,size_zeroCells,List.size_toArray,hlen,show(Value.agg #[Value.int .i64 0,.int .i64 0]).cells.size=2 from rfl];omega
   ·rw[Array.toList_append,List.map_append,List.take_append_of_le_length (by rw[hlen];exact Nat.le_refl _),List.take_of_length_le (by rw[hlen];exact Nat.le_refl _)];rfl
theorem wpList_appT1 (w:World) {ops:Array Oper} {rest:List Oper} {o:Oper} {a:Act} {Q:Exit→Act→World→Prop} (hg:o.guard=none) (sx x:Operand)
  (hop:o.op=Op.call { callee:=Callee.builtin Builtin.append,args:=#[sx,x],argTypes:=#[32,32] }) (B:Nat) (v:Value) (T:List Int) (n:Nat) (hs:a.eval sx=v) (hown:TapV B w v T n)
  (wb:World) (s nw:Int) (hw:w=wb.alloc (.cells #[.int .i64 s,.int .i64 nw] 123)) (hx:a.eval x=.slice (some ⟨wb.heap.size,0,none⟩) 1 1) (hm:n≤1048576) (hB:B≤w.heap.size)
  (hK:∀ v' w',TapV B w' v' (T++[s,nw]) (n+1)→v'.oneCell'=true→Below B w w'→w.grownBy w' v.ownBlock→(v'.ownBlock=v.ownBlock∨v'.ownBlock=some w.heap.size)→wpList Tryz.prog ops Q rest (a.put o.dst v') w') :
  wpList Tryz.prog ops Q (o::rest) a w:=by
 obtain⟨v',w',hr,h1,h2,h5⟩:=run_appT w o.type B v T n hown wb s nw hw hm hB;obtain⟨a',c',e'⟩:=h1.slice;have hk:=hK v' w' h1 (by rw[e'];rfl) ((Below.refl _ _).grown h2 hB hown.ownBlock) h2 h5;refine wpList_plain hg fun K hK'=>?_
 unfold Oper.wp execOp;simp only[hop,resolve,invoke,builtin,Sem.run_bind,Sem.run_pure,Result.andThen_ok,List.map_toArray,List.map_cons,List.map_nil,hs,hx,hr];exact hK' _ _ hk
set_option maxRecDepth 100000 in
set_option maxHeartbeats 1000000 in
theorem admit_any (s:Nat) (nw:Int) (hs:s<256) (hb:Bk w g d u k v) (hd:SetB d D) (hu:SetB u U) (hv:TapV B w v T n) (hn:n≤1048576) (hH:H≤g) (hHB:H≤B) (hgB:NeG g v) (hBw:B≤w.heap.size) :
  Calls Tryz.prog 102 #[.pointer (some ⟨g,0,none⟩),.int .i64 s,.int .i64 nw] w fun e w'=>e=.returned (.tuple #[])∧Below H w w'∧∃ u' v',Bk w' g d u' k v'∧SetB u' (fun x=>U x∨x=s)∧TapV B w' v' (T++[(s:Int),nw]) (n+1)∧NeG g v':=by
 have HB:Hid (Bk w g d u k v):=hb;have HN:∀ q,Hid (Bk ((w.setCell ⟨g,32+s/8,none⟩ (.int .u8 ((addB u s).getD (s/8) 0))).drewN q) g d (addB u s) k v∧TapV B ((w.setCell ⟨g,32+s/8,none⟩ (.int .u8 ((addB u s).getD (s/8) 0))).drewN q) v T n∧Below H w ((w.setCell ⟨g,32+s/8,none⟩ (.int .u8 ((addB u s).getD (s/8) 0))).drewN q)∧B≤((w.setCell ⟨g,32+s/8,none⟩ (.int .u8 ((addB u s).getD (s/8) 0))).drewN q).heap.size):=fun q=>by
  have hw:Wr g w ((w.setCell ⟨g,32+s/8,none⟩ (.int .u8 ((addB u s).getD (s/8) 0))).drewN q):=((Wr.refl _ _).setCell _ _).drewN _;exact⟨(hb.addU s hs).drew q,hv.wr hw hgB,hw.below hH,by rw[hw.size];exact hBw⟩
 have HU:Hid (SetB (addB u s) (fun x=>U x∨x=s)):=hu.add s hs;clear hb hd hu hv hBw;go_enter Tryz.func102,Tryz.ntmps102;go_wp2_with fail;refine(addS_any g 32 s u _ hs HB.out.batu).mono ?_;rintro e w4 ⟨rfl,q,rfl⟩;have H2:=HN q;clear HN HB;generalize (w.setCell ⟨g,32+s/8,none⟩ (.int .u8 ((addB u s).getD (s/8) 0))).drewN q=w4 at *;have c1:=H2.out.1.cv;have HA:Hid (TapV B (w4.alloc (.cells #[.int .i64 (s:Int),.int .i64 nw] 123)) v T n):=H2.out.2.1.alloc _;have HBW:Hid (B≤(w4.alloc (.cells #[.int .i64 (s:Int),.int .i64 nw] 123)).heap.size):=by
  show _≤_
  have:=H2.out.2.2.2;simp;omega
 go_wp2_with (first
  |(refine wpList_appT1 _ rfl (.tmp 15) (.tmp 19) rfl B v T n rfl HA.out w4 s nw rfl rfl hn HBW.out ?_)
  |fail)
 intro v' w5 h1 ho h2 hgr how;obtain⟨a',c',rfl⟩:=h1.slice;have hg4:=H2.out.1.lt;have hb4:Bk (w4.alloc (.cells #[.int .i64 (s:Int),.int .i64 nw] 123)) g d (addB u s) k v:=H2.out.1.below ((Below.refl _ _).alloc (Nat.le_refl _) _) hg4;have hb5:Bk w5 g d (addB u s) k v:=⟨by rw[hgr.block g hb4.lt (fun e=>hgB g e.symm rfl)];exact hb4.row,hb4.ld,hb4.lu,hb4.bd,hb4.bu⟩
 have hne5:NeG g (.slice a' (n+1:Nat) c'):=fun x hx=>by
  rcases how with e|e
  ·exact hgB x (e ▸ hx)
  ·rw[e] at hx;have hx':=Option.some.inj hx;have:=World.size_alloc w4 (.cells #[.int .i64 (s:Int),.int .i64 nw] 123);omega
 have f1:=hb5.fz 65;have c5:=hb5.cv;have HF:Hid (Below H w (w5.setCell ⟨g,65,none⟩ (.slice a' (n+1:Nat) c'))∧∃ u' v'',Bk (w5.setCell ⟨g,65,none⟩ (.slice a' (n+1:Nat) c')) g d u' k v''∧SetB u' (fun x=>U x∨x=s)∧TapV B (w5.setCell ⟨g,65,none⟩ (.slice a' (n+1:Nat) c')) v'' (T++[(s:Int),nw]) (n+1)∧NeG g v''):=by
  have hw:Wr g w5 (w5.setCell ⟨g,65,none⟩ (.slice a' (n+1:Nat) c')):=(Wr.refl _ _).setCell _ _;refine⟨?_,addB u s,_,hb5.setV _,HU.out,h1.wr hw hne5,hne5⟩;have b1:Below H w4 (w4.alloc (.cells #[.int .i64 (s:Int),.int .i64 nw] 123)):=(Below.refl _ _).alloc (by have:=H2.out.1.lt;omega) _;exact((H2.out.2.2.1.trans b1).trans (h2.mono (by omega))).trans (hw.below hH)
 clear h1 h2 hb4 hb5 hne5 hgr how HA HBW H2 HU c1;go_wp2
 go_end0
 exact⟨rfl,HF.out⟩
end Go.Proofs.YtilpkdnoaldfmaaGreatDoor
namespace Go.Proofs.YtilpkdnoaldfmaaGreatDoor
open Go.ChangeShapes Go.WideShapes Go.ChangeAt Go.RowKit
set_option linter.unusedVariables false
structure ApR where
 ok:Bool
 D:List Int
 U:List Int
 k:Int
 T:List Int
 n:Nat
def apNo:ApR:=⟨false,[],[],0,[],0⟩
open Classical in
noncomputable def withS (xs:List Int) (a:Nat):List Int:=upTo (fun v=>decide ((v:Int)∈xs∨v=a)) 256
def lessS (xs:List Int) (a:Nat):List Int:=xs.filter (fun z=>z != (a:Int))
open Classical in
noncomputable def apR (D U:List Int) (k:Int) (T:List Int) (n:Nat) (kind:Int) (a b:Nat):ApR:=
 if kind=1 then(if a<256∧¬ (a:Int)∈U∧¬ (a:Int)∈D then ⟨true,D,withS U a,k,T++[(a:Int),(b:Int)],n+1⟩ else apNo)
 else if kind=2 then(if b=1∧a<256∧¬ (a:Int)∈D∧¬ D.length=16 then ⟨true,withS D a,U,k,T,n⟩ else if b=0∧a<256∧(a:Int)∈D then ⟨true,lessS D a,U,k,T,n⟩ else apNo)
 else if kind=3 then(if b=0∧(a:Int)≤k+n then ⟨true,D,U,max a k,T.drop (ackM k a*2),n-ackM k a⟩ else apNo)
 else apNo
theorem withS_mem {xs:List Int} {a v:Nat} (h:v<256):((v:Int)∈xs∨v=a)↔(v:Int)∈withS xs a:=by
 unfold withS;rw[upTo_mem];constructor
 ·intro hv;exact⟨v,h,decide_eq_true hv,rfl⟩
 ·rintro⟨v',h1,h2,h3⟩;have:v=v':=by omega
  subst this;exact of_decide_eq_true h2
theorem lessS_mem {xs:List Int} {a v:Nat}:((v:Int)∈xs∧v≠a)↔(v:Int)∈lessS xs a:=by
 unfold lessS;rw[List.mem_filter];constructor
 ·rintro⟨h1,h2⟩;exact⟨h1,by rw[bne_iff_ne];omega⟩
 ·rintro⟨h1,h2⟩;exact⟨h1,by rw[bne_iff_ne] at h2;omega⟩
def apPost (H B g:Nat) (w:World) (r:ApR):Ending→World→Prop:=ApP H B g w r.ok (fun v=>(v:Int)∈r.D) (fun v=>(v:Int)∈r.U) r.k r.T r.n
theorem ApP.to {H B g:Nat} {w w1:World} {D D' U U':Nat→Prop} {k:Int} {T:List Int} {n:Nat} {ok:Bool} {e:Ending} {w':World} (h:ApP H B g w ok D U k T n e w') (hb:Below H w1 w) (hD:∀ v,v<256→(D v↔D' v)) (hU:∀ v,v<256→(U v↔U' v)):ApP H B g w1 ok D' U' k T n e w':=by
 obtain⟨h1,h2,h3⟩:=h;refine⟨h1,hb.trans h2,fun ho=>?_⟩;obtain⟨d,u,v,r1,r2,r3,r4,r5⟩:=h3 ho;exact⟨d,u,v,r1,r2.congr hD,r3.congr hU,r4,r5⟩
theorem Iow.mono {B B':Nat} {w:World} {v:Value} {xs:List Int} (h:Iow B' w v xs) (hB:B≤B'):Iow B w v xs:=by
 refine⟨h.1,?_⟩;rcases h.2 with h'|⟨g,c,cur,h1,h2,h3⟩
 ·exact .inl h'
 ·exact .inr ⟨g,c,cur,h1,by omega,h3⟩
theorem Iow.fresh {w w':World} {v:Value} {xs:List Int} (h:Iow w.heap.size w' v xs):Fresh w w' v:=fun k hk=>by
 rcases h.2 with⟨h',_⟩|⟨g,c,cur,h',hb,hh,_⟩
 ·rw[h'] at hk;simp[Value.ownBlock] at hk
 ·rw[h'] at hk;simp[Value.ownBlock] at hk;have:=(Array.getElem?_eq_some_iff.1 hh).1;omega
theorem Iow.form {B:Nat} {w:World} {v:Value} {xs:List Int} (h:Iow B w v xs):∃ a n c,v=.slice a n c:=by
 rcases h.2 with⟨h',_⟩|⟨g,c,cur,h',_⟩
 ·exact⟨_,_,_,h'⟩
 ·exact⟨_,_,_,h'⟩
theorem Iow.keep {B:Nat} {w w':World} {v:Value} {xs:List Int} (h:Iow B w v xs) (hb:∀ k,B≤k→k<w.heap.size→w'.heap[k]?=w.heap[k]?):Iow B w' v xs:=by
 refine⟨h.1,?_⟩;rcases h.2 with h'|⟨g,c,cur,h1,h2,h3,h4⟩
 ·exact .inl h'
 ·exact .inr ⟨g,c,cur,h1,h2,by rw[hb g h2 (Array.getElem?_eq_some_iff.1 h3).1];exact h3,h4⟩
theorem Iow.below {B:Nat} {w w':World} {v:Value} {xs:List Int} (h:Iow B w v xs) (b:Below w.heap.size w w'):Iow B w' v xs:=h.keep (fun k _ hk=>b.block k hk)
theorem Iow.wr {B R:Nat} {w w':World} {v:Value} {xs:List Int} (h:Iow B w v xs) (hw:Wr R w w') (hR:R<B):Iow B w' v xs:=h.keep (fun k hk _=>hw.block k (by omega))
def StFin (lo:Nat) (k:Int) (aT:Option Addr) (nT cT:Nat) (X Y:List Int) (w:World) (cs:Array Value):Prop:=
 ∃ aD nD cD aU nU cU,cs=#[.slice aD nD cD,.slice aU nU cU,.int .i64 k,.slice aT nT cT]∧Iow lo w (.slice aD nD cD) X∧Iow lo w (.slice aU nU cU) Y∧ApV (.slice aD nD cD) (.slice aU nU cU)
theorem StFin.below {lo:Nat} {k:Int} {aT:Option Addr} {nT cT:Nat} {X Y:List Int} {w w':World} {cs:Array Value} (h:StFin lo k aT nT cT X Y w cs) (b:Below w.heap.size w w'):StFin lo k aT nT cT X Y w' cs:=by
 obtain⟨aD,nD,cD,aU,nU,cU,e,h1,h2,h3⟩:=h;exact⟨aD,nD,cD,aU,nU,cU,e,h1.below b,h2.below b,h3⟩
def StBd (lo:Nat) (k:Int) (aT:Option Addr) (nT cT:Nat) (X Y:List Int) (w:World) (v:Value):Prop:=∃ cs,v=.agg cs∧StFin lo k aT nT cT X Y w cs
theorem StBd.below {lo:Nat} {k:Int} {aT:Option Addr} {nT cT:Nat} {X Y:List Int} {w w':World} {v:Value} (h:StBd lo k aT nT cT X Y w v) (b:Below w.heap.size w w'):StBd lo k aT nT cT X Y w' v:=by
 obtain⟨cs,e,h⟩:=h;exact⟨cs,e,h.below b⟩
theorem StBd.wr {lo R:Nat} {k:Int} {aT:Option Addr} {nT cT:Nat} {X Y:List Int} {w w':World} {v:Value} (h:StBd lo k aT nT cT X Y w v) (hw:Wr R w w') (hR:R<lo):StBd lo k aT nT cT X Y w' v:=by
 obtain⟨cs,e,aD,nD,cD,aU,nU,cU,e2,h1,h2,h3⟩:=h;exact⟨cs,e,aD,nD,cD,aU,nU,cU,e2,h1.wr hw hR,h2.wr hw hR,h3⟩
set_option maxRecDepth 100000 in
set_option maxHeartbeats 4000000 in
theorem state_any {w:World} {g:Nat} {d u:List Int} {k:Int} (aT:Option Addr) (nT cT:Nat) (P Q:Nat→Bool) (hb:Bk w g d u k (.slice aT nT cT)) (hd:SetB d (fun v=>P v=true)) (hu:SetB u (fun v=>Q v=true)) :
  Calls Tryz.prog 54 #[.pointer (some ⟨g,0,none⟩)] w fun e w'=>∃ aD nD cD aU nU cU,e=.returned (.agg #[.slice aD nD cD,.slice aU nU cU,.int .i64 k,.slice aT nT cT])∧Iow w.heap.size w' (.slice aD nD cD) (upTo P 256)∧Iow w.heap.size w' (.slice aU nU cU) (upTo Q 256)∧ApV (.slice aD nD cD) (.slice aU nU cU)∧Below w.heap.size w w':=by
 have HBK:Hid (Bk w g d u k (.slice aT nT cT)):=hb;have HGL:Hid (g<w.heap.size):=hb.lt;have HSD:Hid (SetB d (fun v=>P v=true)):=hd;have HSU:Hid (SetB u (fun v=>Q v=true)):=hu;have HSZ:Hid ((Tryz.prog.info? 34).map (·.size)=some 4):=by show _=_;kernel_rfl
 have HW0:Hid (Below w.heap.size w (w.alloc (.cells #[.slice none 0 0,.slice none 0 0,.int .i64 0,.slice none 0 0] 34)).drew):=by
  have h1:Below w.heap.size w (w.alloc (.cells #[.slice none 0 0,.slice none 0 0,.int .i64 0,.slice none 0 0] 34)):=(Below.refl _ _).alloc (Nat.le_refl _) _;exact⟨h1.os,h1.tape,h1.output,h1.size,h1.block⟩
 have HR0:Hid ((w.alloc (.cells #[.slice none 0 0,.slice none 0 0,.int .i64 0,.slice none 0 0] 34)).drew.heap[w.heap.size]?=some (.cells #[.slice none 0 0,.slice none 0 0,.int .i64 0,.slice none 0 0] 34 (0,0))):=heap_alloc_new w _;clear hb hd hu;go_enter Tryz.func54,Tryz.ntmps54;go_wp2_with fail;refine wp_region_any (by kernel_rfl) ?_;refine wpAny_slotsU (fun i a b=>if i=17 then Wr (w.heap.size) a b else Below a.heap.size a b) (frame:=(fun (a b c:Value)=>fun (t:Nat→Value)=>({ tmps:=List.toArray [a,b,c,t 0,t 1,t 2,t 3,t 4,t 5,t 6,t 7,t 8,t 9,t 10,t 11,t 12,t 13,t 14,t 15,t 16],defers:=[] }:Act)) _ _ _)
  (Ext:=fun L u w'=>ApS w (w.heap.size) 17 34 #[.slice none 0 0,.slice none 0 0,.int .i64 0,.slice none 0 0] (StFin (w.heap.size+1) k aT nT cT (upTo P 256) (upTo Q 256)) [3,7] L u w') (Good:=fun i L w' v=>if i=0 then v=.pointer (some ⟨g,0,none⟩) else if i=1 then v=.pointer (some ⟨g,0,none⟩) else if i=2 then v=.pointer (some ⟨g,0,none⟩) else if i=3 then Iow (w.heap.size+1) w' v (upTo P 256) else if i=4 then v=.pointer (some ⟨g,0,none⟩) else if i=5 then v=.pointer (some ⟨g,0,none⟩) else if i=6 then v=.pointer (some ⟨g,32,none⟩) else if i=7 then Iow (w.heap.size+1) w' v (upTo Q 256) else if i=8 then v=.pointer (some ⟨g,0,none⟩) else if i=9 then v=.pointer (some ⟨g,0,none⟩) else if i=10 then v=.pointer (some ⟨g,64,none⟩) else if i=11 then v=.int .i64 k else if i=12 then v=.pointer (some ⟨g,0,none⟩) else if i=13 then v=.pointer (some ⟨g,0,none⟩) else if i=14 then v=.pointer (some ⟨g,65,none⟩) else if i=15 then v=.slice aT nT cT else if i=16 then StBd (w.heap.size+1) k aT nT cT (upTo P 256) (upTo Q 256) w' v else if i=17 then L 17=true else True) ?hstab (by kernel_rfl) ?hop ?hdone _ _ ((fun (x0 x1 x2 x3 x4 x5 x6 x7 x8 x9 x10 x11 x12 x13 x14 x15 x16:Value)=>fun (i:Nat)=>if i=0 then x0 else if i=1 then x1 else if i=2 then x2 else if i=3 then x3 else if i=4 then x4 else if i=5 then x5 else if i=6 then x6 else if i=7 then x7 else if i=8 then x8 else if i=9 then x9 else if i=10 then x10 else if i=11 then x11 else if i=12 then x12 else if i=13 then x13 else if i=14 then x14 else if i=15 then x15 else if i=16 then x16 else undef) _ _ _ _ _ _ _ _ _ _ _ _ _ _ _ _ _) _ (by simp) ?ext ?start (by simp)
 case start=>intro i hi h;exact absurd h (by rw[Array.getD_eq_getD_getElem?,Array.getElem?_replicate];split<;>simp)
 case ext=>exact ApS.start ⟨HW0.out,fun p _ hp=>absurd hp (by rw[Array.getD_eq_getD_getElem?,Array.getElem?_replicate];split<;>simp),fun p _ q _ _ hp=>absurd hp (by rw[Array.getD_eq_getD_getElem?,Array.getElem?_replicate];split<;>simp)⟩ (fun i=>by rw[Array.getD_eq_getD_getElem?,Array.getElem?_replicate];split<;>rfl) HR0.out
 case hstab=>
  intro j L w9 w' i v hM hij hLi h;by_cases h3:j=3
  ·subst h3;by_cases hl:i=17
   ·subst hl;simp at h hM ⊢;exact h.wr hM (by omega)
   ·rw[if_neg hl] at hM;simp at h ⊢;exact h.below hM
  by_cases h7:j=7
  ·subst h7;by_cases hl:i=17
   ·subst hl;simp at h hM ⊢;exact h.wr hM (by omega)
   ·rw[if_neg hl] at hM;simp at h ⊢;exact h.below hM
  by_cases h16:j=16
  ·subst h16;by_cases hl:i=17
   ·subst hl;simp at h hM ⊢;exact h.wr hM (by omega)
   ·rw[if_neg hl] at hM;simp at h ⊢;exact h.below hM
  by_cases hl:j=17
  ·subst hl;simp at h ⊢;unfold updK;simp[h]
  simp only[if_neg h3,if_neg h7,if_neg h16,if_neg hl] at h ⊢;exact h
 case hop=>
  intro i o L t w' ho hLi hx hdep K hK;have hi:i<18:=(Array.getElem?_eq_some_iff.1 ho).1;obtain rfl|rfl|rfl|rfl|rfl|rfl|rfl|rfl|rfl|rfl|rfl|rfl|rfl|rfl|rfl|rfl|rfl|rfl:i=0∨i=1∨i=2∨i=3∨i=4∨i=5∨i=6∨i=7∨i=8∨i=9∨i=10∨i=11∨i=12∨i=13∨i=14∨i=15∨i=16∨i=17:=by omega
  all_goals(simp at ho;subst ho)
  ·clear hdep;have hK':=hK w' (.pointer (some ⟨g,0,none⟩)) (by simp) (hx.step (fun _ _ _ b h=>h.below b) 0 (by decide) _ (Below.refl _ _) (fun h=>absurd h (by decide))) (by rw[if_neg (by decide)];exact(Below.refl _ _));clear hK;rw[if_pos (by rfl)];go_simp;simpa[upd] using hK'
  ·have d0:t 0=.pointer (some ⟨g,0,none⟩):=by simpa using(hdep ⟨0,.data⟩ (by simp) rfl).2
   clear hdep;have hK':=hK w' (.pointer (some ⟨g,0,none⟩)) (by simp) (hx.step (fun _ _ _ b h=>h.below b) 1 (by decide) _ (Below.refl _ _) (fun h=>absurd h (by decide))) (by rw[if_neg (by decide)];exact(Below.refl _ _));clear hK;rw[if_pos (by rfl)];go_simp;simpa[upd,d0] using hK'
  ·have d1:t 1=.pointer (some ⟨g,0,none⟩):=by simpa using(hdep ⟨1,.data⟩ (by simp) rfl).2
   clear hdep;have hK':=hK w' (.pointer (some ⟨g,0,none⟩)) (by simp) (hx.step (fun _ _ _ b h=>h.below b) 2 (by decide) _ (Below.refl _ _) (fun h=>absurd h (by decide))) (by rw[if_neg (by decide)];exact(Below.refl _ _));clear hK;rw[if_pos (by rfl)];go_simp;simpa[upd,d1] using hK'
  ·have d2:t 2=.pointer (some ⟨g,0,none⟩):=by simpa using(hdep ⟨2,.data⟩ (by simp) rfl).2
   clear hdep;have hsz:w.heap.size+1≤w'.heap.size:=hx.lt;have bw:Below w.heap.size w w':=hx.ax.below;have A:=list_any g 0 d P w' (fun ww hb=>(HBK.out.below (bw.trans (hb.mono bw.size)) HGL.out).batd) HSD.out;have hK':∀ ww v,Iow (w.heap.size+1) ww v (upTo P 256)→Fresh w' ww v→Below w'.heap.size w' ww→K _ ww:=fun ww v hv hf hb=>hK ww v (by simpa using hv) (hx.step (fun _ _ _ b h=>h.below b) 3 (by decide) v hb (fun _=>hf)) (by rw[if_neg (by decide)];exact hb)
   clear hK;rw[if_pos (by rfl)];go_simp;try simp only[d2]
   refine A.mono ?_;rintro e w9 ⟨v9,rfl,hv9,hb9⟩;have hK2:=hK' w9 v9 (hv9.mono hsz) hv9.fresh hb9;clear hK' A hv9 bw hb9;go_simp;simpa[upd,d2] using hK2
  ·clear hdep;have hK':=hK w' (.pointer (some ⟨g,0,none⟩)) (by simp) (hx.step (fun _ _ _ b h=>h.below b) 4 (by decide) _ (Below.refl _ _) (fun h=>absurd h (by decide))) (by rw[if_neg (by decide)];exact(Below.refl _ _));clear hK;rw[if_pos (by rfl)];go_simp;simpa[upd] using hK'
  ·have d4:t 4=.pointer (some ⟨g,0,none⟩):=by simpa using(hdep ⟨4,.data⟩ (by simp) rfl).2
   clear hdep;have hK':=hK w' (.pointer (some ⟨g,0,none⟩)) (by simp) (hx.step (fun _ _ _ b h=>h.below b) 5 (by decide) _ (Below.refl _ _) (fun h=>absurd h (by decide))) (by rw[if_neg (by decide)];exact(Below.refl _ _));clear hK;rw[if_pos (by rfl)];go_simp;simpa[upd,d4] using hK'
  ·have d5:t 5=.pointer (some ⟨g,0,none⟩):=by simpa using(hdep ⟨5,.data⟩ (by simp) rfl).2
   clear hdep;have hK':=hK w' (.pointer (some ⟨g,32,none⟩)) (by simp) (hx.step (fun _ _ _ b h=>h.below b) 6 (by decide) _ (Below.refl _ _) (fun h=>absurd h (by decide))) (by rw[if_neg (by decide)];exact(Below.refl _ _));clear hK;rw[if_pos (by rfl)];go_simp;simpa[upd,d5] using hK'
  ·have d6:t 6=.pointer (some ⟨g,32,none⟩):=by simpa using(hdep ⟨6,.data⟩ (by simp) rfl).2
   clear hdep;have hsz:w.heap.size+1≤w'.heap.size:=hx.lt;have bw:Below w.heap.size w w':=hx.ax.below;have A:=list_any g 32 u Q w' (fun ww hb=>(HBK.out.below (bw.trans (hb.mono bw.size)) HGL.out).batu) HSU.out;have hK':∀ ww v,Iow (w.heap.size+1) ww v (upTo Q 256)→Fresh w' ww v→Below w'.heap.size w' ww→K _ ww:=fun ww v hv hf hb=>hK ww v (by simpa using hv) (hx.step (fun _ _ _ b h=>h.below b) 7 (by decide) v hb (fun _=>hf)) (by rw[if_neg (by decide)];exact hb)
   clear hK;rw[if_pos (by rfl)];go_simp;try simp only[d6]
   refine A.mono ?_;rintro e w9 ⟨v9,rfl,hv9,hb9⟩;have hK2:=hK' w9 v9 (hv9.mono hsz) hv9.fresh hb9;clear hK' A hv9 bw hb9;go_simp;simpa[upd,d6] using hK2
  ·clear hdep;have hK':=hK w' (.pointer (some ⟨g,0,none⟩)) (by simp) (hx.step (fun _ _ _ b h=>h.below b) 8 (by decide) _ (Below.refl _ _) (fun h=>absurd h (by decide))) (by rw[if_neg (by decide)];exact(Below.refl _ _));clear hK;rw[if_pos (by rfl)];go_simp;simpa[upd] using hK'
  ·have d8:t 8=.pointer (some ⟨g,0,none⟩):=by simpa using(hdep ⟨8,.data⟩ (by simp) rfl).2
   clear hdep;have hK':=hK w' (.pointer (some ⟨g,0,none⟩)) (by simp) (hx.step (fun _ _ _ b h=>h.below b) 9 (by decide) _ (Below.refl _ _) (fun h=>absurd h (by decide))) (by rw[if_neg (by decide)];exact(Below.refl _ _));clear hK;rw[if_pos (by rfl)];go_simp;simpa[upd,d8] using hK'
  ·have d9:t 9=.pointer (some ⟨g,0,none⟩):=by simpa using(hdep ⟨9,.data⟩ (by simp) rfl).2
   clear hdep;have hK':=hK w' (.pointer (some ⟨g,64,none⟩)) (by simp) (hx.step (fun _ _ _ b h=>h.below b) 10 (by decide) _ (Below.refl _ _) (fun h=>absurd h (by decide))) (by rw[if_neg (by decide)];exact(Below.refl _ _));clear hK;rw[if_pos (by rfl)];go_simp;simpa[upd,d9] using hK'
  ·have d10:t 10=.pointer (some ⟨g,64,none⟩):=by simpa using(hdep ⟨10,.data⟩ (by simp) rfl).2
   clear hdep;have cc:w'.cell? ⟨g,64,none⟩=some (.int .i64 k):=(HBK.out.below hx.ax.below HGL.out).ck;have hK':=hK w' (.int .i64 k) (by simp) (hx.step (fun _ _ _ b h=>h.below b) 11 (by decide) _ (Below.refl _ _) (fun h=>absurd h (by decide))) (by rw[if_neg (by decide)];exact(Below.refl _ _));clear hK;rw[if_pos (by rfl)];go_simp;simpa[upd,d10] using hK'
  ·clear hdep;have hK':=hK w' (.pointer (some ⟨g,0,none⟩)) (by simp) (hx.step (fun _ _ _ b h=>h.below b) 12 (by decide) _ (Below.refl _ _) (fun h=>absurd h (by decide))) (by rw[if_neg (by decide)];exact(Below.refl _ _));clear hK;rw[if_pos (by rfl)];go_simp;simpa[upd] using hK'
  ·have d12:t 12=.pointer (some ⟨g,0,none⟩):=by simpa using(hdep ⟨12,.data⟩ (by simp) rfl).2
   clear hdep;have hK':=hK w' (.pointer (some ⟨g,0,none⟩)) (by simp) (hx.step (fun _ _ _ b h=>h.below b) 13 (by decide) _ (Below.refl _ _) (fun h=>absurd h (by decide))) (by rw[if_neg (by decide)];exact(Below.refl _ _));clear hK;rw[if_pos (by rfl)];go_simp;simpa[upd,d12] using hK'
  ·have d13:t 13=.pointer (some ⟨g,0,none⟩):=by simpa using(hdep ⟨13,.data⟩ (by simp) rfl).2
   clear hdep;have hK':=hK w' (.pointer (some ⟨g,65,none⟩)) (by simp) (hx.step (fun _ _ _ b h=>h.below b) 14 (by decide) _ (Below.refl _ _) (fun h=>absurd h (by decide))) (by rw[if_neg (by decide)];exact(Below.refl _ _));clear hK;rw[if_pos (by rfl)];go_simp;simpa[upd,d13] using hK'
  ·have d14:t 14=.pointer (some ⟨g,65,none⟩):=by simpa using(hdep ⟨14,.data⟩ (by simp) rfl).2
   clear hdep;have cc:w'.cell? ⟨g,65,none⟩=some (.slice aT nT cT):=(HBK.out.below hx.ax.below HGL.out).cv;have hK':=hK w' (.slice aT nT cT) (by simp) (hx.step (fun _ _ _ b h=>h.below b) 15 (by decide) _ (Below.refl _ _) (fun h=>absurd h (by decide))) (by rw[if_neg (by decide)];exact(Below.refl _ _));clear hK;rw[if_pos (by rfl)];go_simp;simpa[upd,d14] using hK'
  ·have l3:L 3=true:=(hdep ⟨3,.data⟩ (by simp) rfl).1;have f3:Iow (w.heap.size+1) w' (t 3) (upTo P 256):=by simpa using(hdep ⟨3,.data⟩ (by simp) rfl).2
   have l7:L 7=true:=(hdep ⟨7,.data⟩ (by simp) rfl).1;have f7:Iow (w.heap.size+1) w' (t 7) (upTo Q 256):=by simpa using(hdep ⟨7,.data⟩ (by simp) rfl).2
   have d11:t 11=.int .i64 k:=by simpa using(hdep ⟨11,.data⟩ (by simp) rfl).2
   have d15:t 15=.slice aT nT cT:=by simpa using(hdep ⟨15,.data⟩ (by simp) rfl).2
   clear hdep;obtain⟨aD,nD,cD,d3⟩:=f3.form;obtain⟨aU,nU,cU,d7⟩:=f7.form;have hap:=hx.ax.ap 3 (by decide) 7 (by decide) (by decide) l3 l7;rw[d3] at f3 hap;rw[d7] at f7 hap;have hK':=hK w' (.agg #[.slice aD nD cD,.slice aU nU cU,.int .i64 k,.slice aT nT cT]) (by simpa using⟨_,rfl,aD,nD,cD,aU,nU,cU,rfl,f3,f7,hap⟩) (hx.step (fun _ _ _ b h=>h.below b) 16 (by decide) _ (Below.refl _ _) (fun h=>absurd h (by decide))) (by rw[if_neg (by decide)];exact(Below.refl _ _));clear hK f3 f7 hap;rw[if_pos (by rfl)];go_simp;simpa[upd,d3,d7,d11,d15] using hK'
  ·have f16:StBd (w.heap.size+1) k aT nT cT (upTo P 256) (upTo Q 256) w' (t 16):=by simpa using(hdep ⟨16,.data⟩ (by simp) rfl).2
   clear hdep;obtain⟨cs,e9,aD,nD,cD,aU,nU,cU,rfl,f3,f7,hap⟩:=f16;have hrs:=hx.pre hLi;have hK':∀ ww,Wr w.heap.size w' ww→ww.heap[w.heap.size]?=some (.cells #[.slice aD nD cD,.slice aU nU cU,.int .i64 k,.slice aT nT cT] 34 (0,0))→K _ ww:=fun ww hw hr=>hK ww undef (by simp[updK]) (hx.put (Nat.le_refl _) (by decide) _ hw hr ⟨aD,nD,cD,aU,nU,cU,rfl,f3.wr hw (by omega),f7.wr hw (by omega),hap⟩) (by rw[if_pos rfl];exact hw)
   clear hK f3 f7 hap;rw[if_pos (by rfl)];refine wp_store_row 34 (.tmp 2) (.tmp 19) rfl w.heap.size _ rfl e9 34 _ hrs HSZ.out rfl (by simp[Value.oneCell']) ?_;have hK2:=hK' _ (Wr.setRow _ _ _) (setRow_heap _ _ _ _ _ _ hrs);clear hK';simpa[upd,Act.put] using hK2
 case hdone=>
  intro L t w' hx hg;have l17:L 17=true:=by simpa using hg 17 (by decide)
  clear hg;obtain⟨cs,hr,aD,nD,cD,aU,nU,cU,rfl,h1,h2,h3⟩:=hx.fin l17;have HR9:Hid (w'.heap[w.heap.size]?=some (.cells #[.slice aD nD cD,.slice aU nU cU,.int .i64 k,.slice aT nT cT] 34 (0,0))):=hr;have HF:Hid (Iow w.heap.size w' (.slice aD nD cD) (upTo P 256)∧Iow w.heap.size w' (.slice aU nU cU) (upTo Q 256)∧ApV (.slice aD nD cD) (.slice aU nU cU)∧Below w.heap.size w w'):=⟨h1.mono (by omega),h2.mono (by omega),h3,hx.ax.below⟩
  clear hx hr h1 h2 h3;go_wp2_with fail;exact bodyPost_ret (v:=.agg #[.slice aD nD cD,.slice aU nU cU,.int .i64 k,.slice aT nT cT]) (results_cell_row rfl _ _ w.heap.size 34 _ (0,0) _ rfl HR9.out Tryz.underlying34 rfl HSZ.out) rfl ⟨aD,nD,cD,aU,nU,cU,rfl,HF.out.1,HF.out.2.1,HF.out.2.2.1,HF.out.2.2.2⟩
def GW (S k:Nat) (x z:List Int):Nat→World→(Nat→Value)→Prop
 |0,_,u=>u 0=.int .i64 k
 |1,_,u=>u 1=.slice (some ⟨S,0,none⟩) k 64
 |2,_,u=>u 2=.int .i64 k
 |3,_,u=>u 3=.slice (some ⟨S+1,0,none⟩) k 64
 |_,w,_=>Row w S 65 (z.take k++x.drop k)
structure XW (w w':World) (k:Nat) (x z:List Int):Prop where
 below:Below w.heap.size w w'
 x:∃ y,Row w' w.heap.size 65 y∧y.length=64∧y.drop k=x.drop k
 z:Row w' (w.heap.size+1) 65 z
 r:Row w' (w.heap.size+1+1) 65 (List.replicate 64 0)
set_option maxHeartbeats 1000000 in
set_option maxRecDepth 100000 in
theorem overw_any (x z:List Int) (k:Nat) (w:World) (hx:x.length=64) (hz:z.length=64) (hk:k≤64) :
  Calls Tryz.prog 22 #[secV x,secV z,.int .i64 k] w fun e w'=>e=.returned (secV (z.take k++x.drop k))∧Below w.heap.size w w':=by
 have HX:Hid _:=hx;have HZ:Hid _:=hz;clear hx hz;unfold secV;have hs1:∀ y:List Int,y.length=64→(Tryz.prog.info? 65).map (·.size)=some ((y.map (Value.int .u8)).toArray).size:=fun y hy=>by rw[Tryz.sizeSec];simp[hy]
 have HS1:Hid _:=hs1;clear hs1;go_enter Tryz.func22,Tryz.ntmps22;go_wp2_with fail;have st0:XW w (((w.alloc (.cells (x.map (Value.int .u8)).toArray 65)).alloc (.cells (z.map (Value.int .u8)).toArray 65)).alloc (.cells (List.replicate 64 (Value.int .u8 0)).toArray 65)) k x z:=by
  have h1:=(Below.refl w.heap.size w).alloc (Nat.le_refl _) (.cells (x.map (Value.int .u8)).toArray 65);have h2:=(Below.refl _ (w.alloc (.cells (x.map (Value.int .u8)).toArray 65))).alloc (Nat.le_refl _) (.cells (z.map (Value.int .u8)).toArray 65);have h3:=(Below.refl _ ((w.alloc (.cells (x.map (Value.int .u8)).toArray 65)).alloc (.cells (z.map (Value.int .u8)).toArray 65))).alloc (Nat.le_refl _) (.cells (List.replicate 64 (Value.int .u8 0)).toArray 65);refine⟨h1.trans ((h2.trans (h3.mono (by simp))).mono (by simp)),⟨x,?_,HX.out,rfl⟩,?_,?_⟩
  ·unfold Row;rw[h3.block _ (by simp;omega),h2.block _ (by simp)];exact heap_alloc_new w _
  ·unfold Row;rw[h3.block _ (by simp)];have:=heap_alloc_new (w.alloc (.cells (x.map (Value.int .u8)).toArray 65)) (.cells (z.map (Value.int .u8)).toArray 65);simpa using this
  ·unfold Row;have:=heap_alloc_new ((w.alloc (.cells (x.map (Value.int .u8)).toArray 65)).alloc (.cells (z.map (Value.int .u8)).toArray 65)) (.cells (List.replicate 64 (Value.int .u8 0)).toArray 65);simpa using this
 have hsz:(((w.alloc (.cells (x.map (Value.int .u8)).toArray 65)).alloc (.cells (z.map (Value.int .u8)).toArray 65)).alloc (.cells (List.replicate 64 (Value.int .u8 0)).toArray 65)).heap.size=w.heap.size+3:=by simp
 obtain⟨w1,hw1⟩:∃ w1,(((w.alloc (.cells (x.map (Value.int .u8)).toArray 65)).alloc (.cells (z.map (Value.int .u8)).toArray 65)).alloc (.cells (List.replicate 64 (Value.int .u8 0)).toArray 65))=w1:=⟨_,rfl⟩
 rw[hw1] at st0 hsz;refine wp_world (hw1.symm.trans rfl) ?_;clear hw1;refine wp_region_any (by kernel_rfl) ?_;refine wpAny_slots2 (frame:=fun t=>{ tmps:=#[Value.agg (List.map (Value.int IntKind.u8) x).toArray,Value.agg (List.map (Value.int IntKind.u8) z).toArray,Value.int IntKind.i64 ↑k,Value.pointer (some { block:=w.heap.size,off:=0 }),Value.pointer (some { block:=w.heap.size+1,off:=0 }),undef,Value.pointer (some { block:=w.heap.size+1+1,off:=0 }),t 0,t 1,t 2,t 3,t 4,undef],defers:=[] })
  (Ext:=fun w'=>XW w w' k x z) (Good:=GW w.heap.size k x z) (M:=fun i w w'=>i≠4→w'=w) ?hstab (by kernel_rfl) ?hop ?hdone _ _ (fun _=>undef) _ (by simp) ?ext ?start ?clo (by simp)
 case start=>intro i hi h;exact absurd h (by rw[Array.getD_eq_getD_getElem?,Array.getElem?_replicate];split<;>simp)
 case clo=>intro i o ho h;exact absurd h (by rw[Array.getD_eq_getD_getElem?,Array.getElem?_replicate];split<;>simp)
 case ext=>exact⟨st0.below.drew,st0.x,st0.z,st0.r⟩
 case hstab=>
  intro j o w1 w2 u i v ho hM hij _ hg;have hj:j<5:=(Array.getElem?_eq_some_iff.1 ho).1;obtain rfl|rfl|rfl|rfl|rfl:j=0∨j=1∨j=2∨j=3∨j=4:=by omega
  all_goals simp only[GW] at hg ⊢
  ·rw[upd_ne2 hij];exact hg
  ·rw[upd_ne2 hij];exact hg
  ·rw[upd_ne2 hij];exact hg
  ·rw[upd_ne2 hij];exact hg
  ·rw[hM hij];exact hg
 case hop=>
  intro i o t w' ho hx hdep K hK;have hi:i<5:=(Array.getElem?_eq_some_iff.1 ho).1;obtain rfl|rfl|rfl|rfl|rfl:i=0∨i=1∨i=2∨i=3∨i=4:=by omega
  all_goals(simp at ho;subst ho)
  ·clear hdep;go_simp;exact hK w' _ rfl hx (fun _=>rfl)
  ·have d:t 0=_:=hdep ⟨0,.data⟩ (by simp) rfl;have hk':(k:Int)≤64:=by omega
   clear hdep;go_simp;simpa[upd,d] using hK w' (.slice (some ⟨w.heap.size,0,none⟩) k 64) rfl hx (fun _=>rfl)
  ·clear hdep;go_simp;exact hK w' _ rfl hx (fun _=>rfl)
  ·have d:t 2=_:=hdep ⟨2,.data⟩ (by simp) rfl;have hk':(k:Int)≤64:=by omega
   clear hdep;go_simp;simpa[upd,d] using hK w' (.slice (some ⟨w.heap.size+1,0,none⟩) k 64) rfl hx (fun _=>rfl)
  ·have d1:t 1=_:=hdep ⟨1,.data⟩ (by simp) rfl;have d3:t 3=_:=hdep ⟨3,.data⟩ (by simp) rfl;obtain⟨y,hy,hyl,hyd⟩:=hx.x;have hzl:=HZ.out;have hl:(z.take k).length=k:=by simp;omega
   rw[if_pos (by rfl)];refine wp_copyG (.tmp 8) (.tmp 10) rfl (some ⟨w.heap.size,0,none⟩) (some ⟨w.heap.size+1,0,none⟩) w.heap.size 0 k 64 k 64 d1 d3 _ 65 hy (z.take k) (by rw[hl];exact(Nat.min_self k).symm) (fun _=>⟨rfl,_,rfl,fun j hj=>?_⟩) (by rw[hl];simp;omega) ?_
   ·have hj':j<k:=by omega
    rw[Addr.add_lit,Nat.zero_add,Row.cell hx.z j (by omega)];simp[List.getD,hj']
   ·intro w2 h2 hw2;have hrow:Row w2 w.heap.size 65 (z.take k++x.drop k):=by
     unfold Row;rw[h2,hl,←hyd];simp[List.map_take,List.map_drop]
    refine hK w2 _ hrow ⟨hx.below.trans (hw2.below (Nat.le_refl _)),⟨_,hrow,by simp[hl];have:=HX.out;omega,?_⟩,hw2.row hx.z (by omega),hw2.row hx.r (by omega)⟩ (fun h=>absurd rfl h);rw[List.drop_append_of_le_length (by omega),List.drop_eq_nil_of_le (by omega)];simp
 case hdone=>
  intro t w2 hx hg;have h4:Row w2 w.heap.size 65 (z.take k++x.drop k):=hg 4 (by decide);clear hg;have hfl:(z.take k++x.drop k).length=64:=by have:=HX.out;have:=HZ.out;simp;omega
  generalize hfin:z.take k++x.drop k=y at *;have HFIN:Hid _:=hfin;have HR0:Hid _:=h4;have HR2:Hid _:=hx.r;have HB:Hid _:=hx.below;have HSY:Hid _:=HS1.out y hfl;have HFL:Hid _:=hfl;clear hx h4 hfl hfin;go_wp2_with (first
   |(refine wpList_load_row rfl 65 _ rfl w.heap.size rfl 65 _ (0,0) _ HR0.out Tryz.underlying65 rfl HSY.out ?_)
   |(refine wpList_store_row rfl 65 (.tmp 6) (.tmp 12) rfl (w.heap.size+1+1) ((y.map (Value.int .u8)).toArray) rfl rfl 65 _ HR2.out HSY.out (by simp[HFL.out]) (all_oneCell_toArray (ints_oneCell _ _)) ?_))
  refine bodyPost_ret (v:=.agg (y.map (Value.int .u8)).toArray) (results_cell_row rfl _ _ (w.heap.size+1+1) 65 _ (0,0) _ rfl (setRow_heap _ _ _ _ _ _ HR2.out) Tryz.underlying65 rfl HSY.out) rfl ⟨by rw[HFIN.out],?_⟩;exact HB.out.trans ((Wr.setRow _ _ _).below (by omega))
end Go.Proofs.YtilpkdnoaldfmaaGreatDoor
