import Derived.Test.YtjdhhgaelgemcaaGreatDoorMApx
import Derived.Deep.AppendSrc
import Derived.Test.YtjdhhgaelgemcaaGreatDoorMLe
import Derived.Test.YtjdhhgaelgemcaaGreatDoorMSvM
import Derived.Test.YtjdhhgaelgemcaaGreatDoorMSPow
import Derived.Test.YtjdhhgaelgemcaaGreatDoorMTxt
namespace Go.Proofs.YtjdhhgaelgemcaaGreatDoor
open Go.ChangeShapes Go.WideShapes Go.ChangeAt Go.RowKit
set_option linter.unusedVariables false
variable {w w':World} {g:Nat} {d u:List Int} {k:Int} {v:Value} {D U:Nat→Prop} {T:List Int} {n H B:Nat}
theorem TapO.ownBlock (h:TapO B w v T n):∀ k,v.ownBlock=some k→B≤k:=fun k hk=>by
 rcases h.2 with⟨h',_⟩|⟨g,c,cur,h',hb,_⟩
 ·rw[h'] at hk;simp[Value.ownBlock] at hk
 ·rw[h'] at hk;simp[Value.ownBlock] at hk;omega
theorem TapO.wrg (h:TapO B w v T n) (hne:NeG g v) (hw:Wr g w w'):TapO B w' v T n:=by
 refine⟨h.1,?_⟩;rcases h.2 with h'|⟨t,c,cur,h1,h2,h3,h4⟩
 ·exact .inl h'
 ·exact .inr ⟨t,c,cur,h1,h2,by rw[hw.block t (hne t (by rw[h1];rfl))];exact h3,h4⟩
theorem wpList_appT0 (w:World) {ops:Array Oper} {rest:List Oper} {o:Oper} {a:Act} {Q:Exit→Act→World→Prop} (hg:o.guard=none) (sx x:Operand)
  (hop:o.op=Op.call { callee:=Callee.builtin Builtin.append,args:=#[sx,x],argTypes:=#[31,31] }) (B:Nat) (v:Value) (T:List Int) (n:Nat) (hs:a.eval sx=v) (hown:TapO B w v T n)
  (wb:World) (s nw:Int) (hw:w=wb.alloc (.cells #[.int .i64 s,.int .i64 nw] 77)) (hx:a.eval x=.slice (some ⟨wb.heap.size,0,none⟩) 1 1) (hm:n≤1048576) (hB:B≤w.heap.size)
  (hK:∀ v' w',TapO B w' v' (T++[s,nw]) (n+1)→v'.oneCell'=true→Below B w w'→w.grownBy w' v.ownBlock→(v'.ownBlock=v.ownBlock∨v'.ownBlock=some w.heap.size)→wpList Tryz.prog ops Q rest (a.put o.dst v') w') :
  wpList Tryz.prog ops Q (o::rest) a w:=by
 obtain⟨i0,hi,hz0,hz1,hz2⟩:=info_parts Tryz.infoTap;refine wpList_append_own_at w hg sx x 31 hop B 77 i0 (.agg #[.int .i64 0,.int .i64 0]) 2 16 Tryz.underlying31 hi hz0 hz1 hz2 rfl (by decide) v n _ hs hown ⟨wb.heap.size,0,none⟩ 1 1 [.int .i64 s,.int .i64 nw] hx rfl ?_ (by simp[Value.oneCell']) (by unfold maxLen;omega) (by omega) hB ?_
 ·intro j z hz;have hj:j<2:=by have:=(List.getElem?_eq_some_iff.1 hz).1;simpa using this
  rw[Addr.add_lit,hw,cell_of_row _ _ _ _ _ _ (heap_alloc_new wb _),Nat.zero_add];have:j=0∨j=1:=by omega
  rcases this with rfl|rfl<;>simpa using hz
 intro v' w' h1 h2 _ h5;refine hK v' w' ?_ ?_ ((Below.refl _ _).grown h2 hB hown.ownBlock) h2 h5
 ·unfold TapO;rw[List.map_append];exact h1
 ·rcases h1.2 with⟨h,_⟩|⟨g,c,cur,h,_⟩
  ·rw[h];rfl
  ·rw[h];rfl
theorem TapV.alloc (h:TapV B w v T n) (o:Obj):TapV B (w.alloc o) v T n:=h.block (by simp) (fun t _ ht=>heap_alloc_old w o ht)
theorem TapV.ownBlock (h:TapV B w v T n):∀ k,v.ownBlock=some k→B≤k:=fun k hk=>by
 obtain⟨_,⟨h',_⟩|⟨t,o,c,h',hb,_⟩⟩:=h
 ·rw[h'] at hk;simp[Value.ownBlock] at hk
 ·rw[h'] at hk;simp[Value.ownBlock] at hk;omega
theorem heap_setC {w:World} {t o:Nat} {cs:Array Value} {T:TypeId} {fr:Nat×Nat} (h:w.heap[t]?=some (.cells cs T fr)) (v:Value):(w.setCell ⟨t,o,none⟩ v).heap[t]?=some (.cells (cs.setIfInBounds o v) T fr):=by
 simp[World.setCell,Array.getElem?_modify,h]
theorem run_appT (w:World) (ty:TypeId) (B:Nat) (v:Value) (T:List Int) (n:Nat) (hown:TapV B w v T n) (wb:World) (s nw:Int) (hw:w=wb.alloc (.cells #[.int .i64 s,.int .i64 nw] 77)) (hm:n≤1048576) (hB:B≤w.heap.size) :
  ∃ v' w',(Builtin.append_ #[31,31] ty #[v,.slice (some ⟨wb.heap.size,0,none⟩) 1 1]).run Tryz.prog w=.ok v' w'∧TapV B w' v' (T++[s,nw]) (n+1)∧w.grownBy w' v.ownBlock∧(v'.ownBlock=v.ownBlock∨v'.ownBlock=some w.heap.size):=by
 obtain⟨i0,hi,hz0,hz1,hz2⟩:=info_parts Tryz.infoTap;have hnews:∀ j u,[Value.int .i64 s,.int .i64 nw][j]?=some u→w.cell? ((⟨wb.heap.size,0,none⟩:Addr).add j)=some u:=by
  intro j z hz;have hj:j<2:=by have:=(List.getElem?_eq_some_iff.1 hz).1;simpa using this
  rw[Addr.add_lit,hw,cell_of_row _ _ _ _ _ _ (heap_alloc_new wb _),Nat.zero_add];have:j=0∨j=1:=by omega
  rcases this with rfl|rfl<;>simpa using hz
 obtain⟨hl,⟨rfl,rfl⟩|⟨t,o,c,rfl,hB0,ht,hc,hmx,hx,cs,hcs,hsz⟩⟩:=hown
 ·have hT:T=[]:=List.eq_nil_of_length_eq_zero (by omega);subst hT;obtain⟨v',w',h1,h2,h3,_,h5⟩:=run_append_own_at (P:=Tryz.prog) w B 31 ty 77 i0 (.agg #[.int .i64 0,.int .i64 0]) 2 16 Tryz.underlying31 hi hz0 hz1 hz2 rfl (by decide) (.slice none 0 0) 0 [] ⟨rfl,.inl ⟨rfl,rfl⟩⟩ ⟨wb.heap.size,0,none⟩ 1 1 [.int .i64 s,.int .i64 nw] rfl hnews (by simp[Value.oneCell']) (by decide) (by decide) hB;exact⟨v',w',h1,TapO.tapV (T:=[]++[s,nw]) h2,h3,h5⟩
 ·have hsrc:Src Tryz.prog i0.size 31 (.slice (some ⟨wb.heap.size,0,none⟩) 1 1) 1 [.int .i64 s,.int .i64 nw] w:=
   Src.ofSlice w Tryz.underlying31 ⟨wb.heap.size,0,none⟩ 1 1 _ (by rw[hz1];rfl) hnews (by simp[Value.oneCell'])
  have hTl:T.length=n*2:=hl;by_cases hr:n+1≤c
  ·have hcell:∀ j,w.cell? ⟨t,j,none⟩=cs[j]?:=fun j=>cell_of_row w t j cs _ _ hcs
   have h1:=run_append_room_src (P:=Tryz.prog) w 31 31 ty 77 i0 Tryz.underlying31 hi t o n c _ 1 [.int .i64 s,.int .i64 nw] hsrc hr
    (fun j hj=>by have hj':j<2:=hj;rw[hcell,hz1,Array.getElem?_eq_getElem (by omega)];rfl) (fun j _=>frozen_of_row w t _ cs _ hcs)
   have e1:w.setCells t (o+n*i0.size) [.int .i64 s,.int .i64 nw]=(w.setCell ⟨t,o+n*2,none⟩ (.int .i64 s)).setCell ⟨t,o+n*2+1,none⟩ (.int .i64 nw):=by rw[hz1];rfl
   rw[e1] at h1;have hc2:((w.setCell ⟨t,o+n*2,none⟩ (.int .i64 s)).setCell ⟨t,o+n*2+1,none⟩ (.int .i64 nw)).heap[t]?=some (.cells ((cs.setIfInBounds (o+n*2) (.int .i64 s)).setIfInBounds (o+n*2+1) (.int .i64 nw)) 77 (0,0)):=heap_setC (heap_setC hcs _) _;have hsz2:((w.setCell ⟨t,o+n*2,none⟩ (.int .i64 s)).setCell ⟨t,o+n*2+1,none⟩ (.int .i64 nw)).heap.size=w.heap.size:=by simp[World.setCell]
   refine⟨_,_,h1,⟨by rw[List.length_append,hTl];simp;omega,.inr ⟨t,o,c,rfl,hB0,by rw[hsz2];exact ht,hr,hmx,fun i hi'=>⟨?_,frozen_of_row _ t _ _ _ hc2⟩,_,hc2,by simpa using hsz⟩⟩,⟨rfl,rfl,rfl,by rw[hsz2];exact Nat.le_refl _,fun k hk hne=>?_⟩,.inl rfl⟩
   ·rw[cell_of_row _ t _ _ _ _ hc2];have hb:o+n*2+1<cs.size:=by omega
    by_cases h1:i<n*2
    ·have hq:=(hx i h1).1;rw[hcell] at hq;rw[Array.getElem?_setIfInBounds_ne (by omega),Array.getElem?_setIfInBounds_ne (by omega),hq];simp[List.getD,List.getElem?_append_left (show i<T.length by omega)]
    ·by_cases h2:i=n*2
     ·subst h2;rw[Array.getElem?_setIfInBounds_ne (by omega),Array.getElem?_setIfInBounds_self_of_lt (by omega)];simp[List.getD,hTl]
     ·obtain rfl:i=n*2+1:=by omega
      rw[←Nat.add_assoc,Array.getElem?_setIfInBounds_self_of_lt (by simp;omega)];simp[List.getD,hTl]
   ·have hkt:k≠t:=fun e=>hne (by simp[Value.ownBlock,e])
    rw[heap_setCell_other _ _ _ _ (by show k≠t;exact hkt),heap_setCell_other _ _ _ _ (by show k≠t;exact hkt)]
  ·obtain rfl:c=n:=by omega
   have hcell:∀ j,w.cell? ⟨t,j,none⟩=cs[j]?:=fun j=>cell_of_row w t j cs _ _ hcs
   have hold:=run_firstCells_some (P:=Tryz.prog) w.drew i0.size c ⟨t,o,none⟩ c c (T.map (Value.int .i64)) (by rw[hz1];simpa using hTl) (fun j u hu=>by
    have hj:j<T.length:=by have:=(List.getElem?_eq_some_iff.1 hu).1;simpa using this
    rw[Addr.add_lit];have:=(hx j (by omega)).1;rw[show w.drew.cell? ⟨t,o+j,none⟩=w.cell? ⟨t,o+j,none⟩ from rfl,this];simp[hj] at hu ⊢;exact hu)
   have hcap:=nextslicecap_le (need:=c+1) (old:=c) (by omega);have h1:=run_append_grow_src (P:=Tryz.prog) w 31 31 ty 77 i0 (.agg #[.int .i64 0,.int .i64 0]) Tryz.underlying31 hi hz0 (some ⟨t,o,none⟩) c c (T.map (Value.int .i64)) hold _ 1 [.int .i64 s,.int .i64 nw] hsrc (by omega) (by omega) (by rw[hz2];omega);have hlen:(T.map (Value.int .i64)++[Value.int .i64 s,Value.int .i64 nw]).length=(c+1)*2:=by rw[List.length_append,List.length_map,hTl];simp;omega
   have hge:=grownCap_ge w (c+1) c 77;have hle:=grownCap_le_maxLen w (c+1) c 77 (by unfold maxLen;omega);refine⟨_,_,h1,TapO.tapV (T:=T++[s,nw]) ⟨by simp[hTl];omega,.inr ⟨_,_,_,rfl,hB,heap_alloc_new w.drew _,hge,hle,?_,?_⟩⟩,⟨rfl,rfl,rfl,by simp,fun k hk _=>heap_alloc_old w.drew _ hk⟩,.inr rfl⟩
   ·rw[Array.size_append,size_zeroCells,List.size_toArray,hlen,show(Value.agg #[Value.int .i64 0,.int .i64 0]).cells.size=2 from rfl];omega
   ·rw[Array.toList_append,List.map_append,List.take_append_of_le_length (by rw[hlen];exact Nat.le_refl _),List.take_of_length_le (by rw[hlen];exact Nat.le_refl _)];rfl
theorem wpList_appT1 (w:World) {ops:Array Oper} {rest:List Oper} {o:Oper} {a:Act} {Q:Exit→Act→World→Prop} (hg:o.guard=none) (sx x:Operand)
  (hop:o.op=Op.call { callee:=Callee.builtin Builtin.append,args:=#[sx,x],argTypes:=#[31,31] }) (B:Nat) (v:Value) (T:List Int) (n:Nat) (hs:a.eval sx=v) (hown:TapV B w v T n)
  (wb:World) (s nw:Int) (hw:w=wb.alloc (.cells #[.int .i64 s,.int .i64 nw] 77)) (hx:a.eval x=.slice (some ⟨wb.heap.size,0,none⟩) 1 1) (hm:n≤1048576) (hB:B≤w.heap.size)
  (hK:∀ v' w',TapV B w' v' (T++[s,nw]) (n+1)→v'.oneCell'=true→Below B w w'→w.grownBy w' v.ownBlock→(v'.ownBlock=v.ownBlock∨v'.ownBlock=some w.heap.size)→wpList Tryz.prog ops Q rest (a.put o.dst v') w') :
  wpList Tryz.prog ops Q (o::rest) a w:=by
 obtain⟨v',w',hr,h1,h2,h5⟩:=run_appT w o.type B v T n hown wb s nw hw hm hB;obtain⟨a',c',e'⟩:=h1.slice;have hk:=hK v' w' h1 (by rw[e'];rfl) ((Below.refl _ _).grown h2 hB hown.ownBlock) h2 h5;refine wpList_plain hg fun K hK'=>?_
 unfold Oper.wp execOp;simp only[hop,resolve,invoke,builtin,Sem.run_bind,Sem.run_pure,Result.andThen_ok,List.map_toArray,List.map_cons,List.map_nil,hs,hx,hr];exact hK' _ _ hk
set_option maxRecDepth 100000 in
set_option maxHeartbeats 1000000 in
theorem admit_any (s:Nat) (nw:Int) (hs:s<256) (hb:Bk w g d u k v) (hd:SetB d D) (hu:SetB u U) (hv:TapV B w v T n) (hn:n≤1048576) (hH:H≤g) (hHB:H≤B) (hgB:NeG g v) (hBw:B≤w.heap.size) :
  Calls Tryz.prog 66 #[.pointer (some ⟨g,0,none⟩),.int .i64 s,.int .i64 nw] w fun e w'=>e=.returned (.tuple #[])∧Below H w w'∧∃ u' v',Bk w' g d u' k v'∧SetB u' (fun x=>U x∨x=s)∧TapV B w' v' (T++[(s:Int),nw]) (n+1)∧NeG g v':=by
 have HB:Hid (Bk w g d u k v):=hb;have HN:∀ q,Hid (Bk ((w.setCell ⟨g,32+s/8,none⟩ (.int .u8 ((addB u s).getD (s/8) 0))).drewN q) g d (addB u s) k v∧TapV B ((w.setCell ⟨g,32+s/8,none⟩ (.int .u8 ((addB u s).getD (s/8) 0))).drewN q) v T n∧Below H w ((w.setCell ⟨g,32+s/8,none⟩ (.int .u8 ((addB u s).getD (s/8) 0))).drewN q)∧B≤((w.setCell ⟨g,32+s/8,none⟩ (.int .u8 ((addB u s).getD (s/8) 0))).drewN q).heap.size):=fun q=>by
  have hw:Wr g w ((w.setCell ⟨g,32+s/8,none⟩ (.int .u8 ((addB u s).getD (s/8) 0))).drewN q):=((Wr.refl _ _).setCell _ _).drewN _;exact⟨(hb.addU s hs).drew q,hv.wr hw hgB,hw.below hH,by rw[hw.size];exact hBw⟩
 have HU:Hid (SetB (addB u s) (fun x=>U x∨x=s)):=hu.add s hs;clear hb hd hu hv hBw;go_enter Tryz.func66,Tryz.ntmps66;go_wp2_with fail;refine(addS_any g 32 s u _ hs HB.out.batu).mono ?_;rintro e w4 ⟨rfl,q,rfl⟩;have H2:=HN q;clear HN HB;generalize (w.setCell ⟨g,32+s/8,none⟩ (.int .u8 ((addB u s).getD (s/8) 0))).drewN q=w4 at *;have c1:=H2.out.1.cv;have HA:Hid (TapV B (w4.alloc (.cells #[.int .i64 (s:Int),.int .i64 nw] 77)) v T n):=H2.out.2.1.alloc _;have HBW:Hid (B≤(w4.alloc (.cells #[.int .i64 (s:Int),.int .i64 nw] 77)).heap.size):=by
  show _≤_
  have:=H2.out.2.2.2;simp;omega
 go_wp2_with (first
  |(refine wpList_appT1 _ rfl (.tmp 15) (.tmp 19) rfl B v T n rfl HA.out w4 s nw rfl rfl hn HBW.out ?_)
  |fail)
 intro v' w5 h1 ho h2 hgr how;obtain⟨a',c',rfl⟩:=h1.slice;have hg4:=H2.out.1.lt;have hb4:Bk (w4.alloc (.cells #[.int .i64 (s:Int),.int .i64 nw] 77)) g d (addB u s) k v:=H2.out.1.below ((Below.refl _ _).alloc (Nat.le_refl _) _) hg4;have hb5:Bk w5 g d (addB u s) k v:=⟨by rw[hgr.block g hb4.lt (fun e=>hgB g e.symm rfl)];exact hb4.row,hb4.ld,hb4.lu,hb4.bd,hb4.bu⟩
 have hne5:NeG g (.slice a' (n+1:Nat) c'):=fun x hx=>by
  rcases how with e|e
  ·exact hgB x (e ▸ hx)
  ·rw[e] at hx;have hx':=Option.some.inj hx;have:=World.size_alloc w4 (.cells #[.int .i64 (s:Int),.int .i64 nw] 77);omega
 have f1:=hb5.fz 65;have c5:=hb5.cv;have HF:Hid (Below H w (w5.setCell ⟨g,65,none⟩ (.slice a' (n+1:Nat) c'))∧∃ u' v'',Bk (w5.setCell ⟨g,65,none⟩ (.slice a' (n+1:Nat) c')) g d u' k v''∧SetB u' (fun x=>U x∨x=s)∧TapV B (w5.setCell ⟨g,65,none⟩ (.slice a' (n+1:Nat) c')) v'' (T++[(s:Int),nw]) (n+1)∧NeG g v''):=by
  have hw:Wr g w5 (w5.setCell ⟨g,65,none⟩ (.slice a' (n+1:Nat) c')):=(Wr.refl _ _).setCell _ _;refine⟨?_,addB u s,_,hb5.setV _,HU.out,h1.wr hw hne5,hne5⟩;have b1:Below H w4 (w4.alloc (.cells #[.int .i64 (s:Int),.int .i64 nw] 77)):=(Below.refl _ _).alloc (by have:=H2.out.1.lt;omega) _;exact((H2.out.2.2.1.trans b1).trans (h2.mono (by omega))).trans (hw.below hH)
 clear h1 h2 hb4 hb5 hne5 hgr how HA HBW H2 HU c1;go_wp2
 go_end0
 exact⟨rfl,HF.out⟩
end Go.Proofs.YtjdhhgaelgemcaaGreatDoor
namespace Go.Proofs.YtjdhhgaelgemcaaGreatDoor
open Go.ChangeShapes Go.WideShapes Go.ChangeAt Go.RowKit
set_option linter.unusedVariables false
structure RunD (w wr:World) (R:List (Nat×List Int)) (E:List (Nat×Nat×List Int)):Prop where
 below:Below w.heap.size w wr
 rows:∀ r∈R,w.heap.size≤r.1∧RowW wr r.1 138 r.2∧EOk r.2
 order:R.Pairwise fun a b=>a.1≠b.1
 els:∀ e∈E,e.1<w.heap.size∧EAt wr e.1 e.2.1 e.2.2
section
variable {w wr w':World} {R:List (Nat×List Int)} {E:List (Nat×Nat×List Int)}
theorem RunD.start (w:World) (E:List (Nat×Nat×List Int)) (h:∀ e∈E,EAt w e.1 e.2.1 e.2.2):RunD w w [] E:=
 ⟨Below.refl _ _,by simp,List.Pairwise.nil,fun e he=>⟨(h e he).1,h e he⟩⟩
theorem RunD.call (h:RunD w wr R E) (b:Below wr.heap.size wr w'):RunD w w' R E:=
 ⟨h.below.trans (b.mono h.below.size),fun r hr=>⟨(h.rows r hr).1,(h.rows r hr).2.1.below b (h.rows r hr).2.1.lt,(h.rows r hr).2.2⟩,h.order,fun e he=>⟨(h.els e he).1,(h.els e he).2.below b⟩⟩
theorem RunD.one (h:RunD w wr R E) (b:Below wr.heap.size wr w') {g:Nat} {es:List Int} (hg:wr.heap.size≤g) (hr:RowW w' g 138 es) (hk:EOk es) :
  RunD w w' ((g,es)::R) E:=by
 have c:=h.call b;refine⟨c.below,?_,?_,c.els⟩
 ·intro r hm;rcases List.mem_cons.1 hm with rfl|hm
  ·exact⟨Nat.le_trans h.below.size hg,hr,hk⟩
  ·exact c.rows r hm
 ·exact List.Pairwise.cons (fun r hm e=>by have:=(h.rows r hm).2.1.lt;simp only at e;omega) h.order
theorem RunD.two (h:RunD w wr R E) (b:Below wr.heap.size wr w') {g g':Nat} {es es':List Int} (hg:wr.heap.size≤g) (hr:RowW w' g 138 es) (hk:EOk es)
  (hg':wr.heap.size≤g') (hr':RowW w' g' 138 es') (hk':EOk es') (hne:g≠g'):RunD w w' ((g',es')::(g,es)::R) E:=by
 have c:=h.one b hg hr hk;refine⟨c.below,?_,?_,c.els⟩
 ·intro r hm;rcases List.mem_cons.1 hm with rfl|hm
  ·exact⟨Nat.le_trans h.below.size hg',hr',hk'⟩
  ·exact c.rows r hm
 ·refine List.Pairwise.cons (fun r hm e=>?_) c.order;rcases List.mem_cons.1 hm with rfl|hm
  ·exact hne e.symm
  ·have:=(h.rows r hm).2.1.lt;simp only at e;omega
theorem RunD.room (h:RunD w wr R E) :
  RunD w (wr.alloc (.cells #[.int .u64 0,.int .u64 0,.int .u64 0,.int .u64 0,.int .u64 0] 138)) ((wr.heap.size,[0,0,0,0,0])::R) E:=
 h.one (below_new2 _ _) (Nat.le_refl _) (row0 wr) zero_ok
theorem RunD.room2 (h:RunD w wr R E) :
  RunD w ((wr.alloc (.cells #[.int .u64 0,.int .u64 0,.int .u64 0,.int .u64 0,.int .u64 0] 138)).alloc (.cells #[.int .u64 0,.int .u64 0,.int .u64 0,.int .u64 0,.int .u64 0] 138)) ((wr.heap.size+1,[0,0,0,0,0])::(wr.heap.size,[0,0,0,0,0])::R) E:=by
 have:=h.room.room
 rwa [show(wr.alloc (.cells #[.int .u64 0,.int .u64 0,.int .u64 0,.int .u64 0,.int .u64 0] 138)).heap.size=wr.heap.size+1 by simp] at this
theorem RunD.el (h:RunD w wr R E) (i:Nat) (g o:Nat) (es:List Int) (hi:E[i]?=some (g,o,es)):EAt wr g o es:=
 (h.els _ (List.mem_of_getElem? hi)).2
theorem RunD.row (h:RunD w wr R E) (i:Nat) (g:Nat) (es:List Int) (hi:R[i]?=some (g,es)):RowW wr g 138 es:=
 (h.rows _ (List.mem_of_getElem? hi)).2.1
theorem RunD.ok (h:RunD w wr R E) (i:Nat) (g:Nat) (es:List Int) (hi:R[i]?=some (g,es)):EOk es:=
 (h.rows _ (List.mem_of_getElem? hi)).2.2
theorem RunD.re (h:RunD w wr R E) (i:Nat) (g:Nat) (es:List Int) (hi:R[i]?=some (g,es)):EAt wr g 0 es:=
 EAt.of_row (h.row i g es hi) (h.ok i g es hi)
theorem RunD.put (h:RunD w wr R E) (i:Nat) (g:Nat) (zs es:List Int) (hi:R[i]?=some (g,zs)) (hw:Wr g wr w') (hr:RowW w' g 138 es) (hk:EOk es) :
  RunD w w' (R.set i (g,es)) E:=by
 have hg:w.heap.size≤g:=(h.rows _ (List.mem_of_getElem? hi)).1;have hil:i<R.length:=(List.getElem?_eq_some_iff.1 hi).1;have hie:R[i]=(g,zs):=(List.getElem?_eq_some_iff.1 hi).2;have ho:=List.pairwise_iff_getElem.1 h.order;refine⟨h.below.trans (hw.below hg),?_,?_,fun e he=>⟨(h.els e he).1,(h.els e he).2.wr hw (by have:=(h.els e he).1;omega)⟩⟩
 ·intro r hm;obtain⟨j,hj,rfl⟩:=List.getElem_of_mem hm;rw[List.length_set] at hj;rw[List.getElem_set];split
  ·exact⟨hg,hr,hk⟩
  ·rename_i hne
   have q:=h.rows _ (List.getElem_mem hj);refine⟨q.1,hw.rowW q.2.1 ?_,q.2.2⟩;rcases Nat.lt_or_gt_of_ne hne with hlt|hgt
   ·have:=ho i j hil hj hlt;rw[hie] at this;exact fun e=>this e.symm
   ·have:=ho j i hj hil hgt;rw[hie] at this;exact this
 ·rw[List.pairwise_iff_getElem];intro a b ha hb hab;rw[List.length_set] at ha hb;have:=ho a b ha hb hab;rw[List.getElem_set,List.getElem_set];split<;>split<;>simp_all
end
theorem wpList_storeD {w wr:World} {R:List (Nat×List Int)} {E:List (Nat×Nat×List Int)} (S:RunD w wr R E)
  {ops:Array Oper} {rest:List Oper} {o:Oper} {a:Act} {Q:Exit→Act→World→Prop} (hgd:o.guard=none) (x y:Operand) (ho:o.op=.store 138 x y)
  (i g:Nat) (zs es:List Int) (hi:R[i]?=some (g,zs)) (hx:a.eval x=.pointer (some ⟨g,0,none⟩)) (hy:a.eval y=.agg (es.map (Value.int .u64)).toArray) (hk:EOk es)
  {wa:World} (hwa:wa=wr)
  (hK:∀ w',RunD w w' (R.set i (g,es)) E→wpList Tryz.prog ops Q rest (a.put o.dst undef) w') :
  wpList Tryz.prog ops Q (o::rest) a wa:=by
 subst hwa;exact wpList_storeE hgd x y ho g es zs hx hy hk.1 (S.ok i g zs hi).1 (S.row i g zs hi) fun w' hr hw=>hK w' (S.put i g zs es hi hw hr hk)
def EV (x:Int) (v:Value):Prop:=∃ es,EOk es∧ev es=x∧v=.agg (es.map (Value.int .u64)).toArray
theorem EV.elim_ {x:Int} {v:Value} {C:Prop} (h:EV x v) (k:∀ es,EOk es→ev es=x→v=.agg (es.map (Value.int .u64)).toArray→C):C:=by
 obtain⟨es,a,b,c⟩:=h;exact k es a b c
theorem upd_neD {u:Nat→Value} {i j:Nat} {v:Value} (h:i≠j):upd u i v j=u j:=by unfold upd;rw[if_neg (Ne.symm h)]
theorem updK_ne' {L:Nat→Bool} {i j:Nat} (h:j≠i):updK L i j=L j:=by unfold updK;simp[h]
theorem updK_same' {L:Nat→Bool} {i:Nat}:updK L i i=true:=by unfold updK;simp
def NwV (W:World) (A S:Nat) (X:Int) (L:Nat→Bool) (u:Nat→Value) (w':World):Prop:=
 (L S=true→L A=true)∧(L A=true→∃ g es,u A=.pointer (some ⟨g,0,none⟩)∧W.heap.size≤g∧RowW w' g 138 es∧EOk es∧(L S=true→ev es=X))
structure ExA (W:World) (A1 A2 S1 S2:Nat) (X1 X2:Int) (L:Nat→Bool) (u:Nat→Value) (w':World):Prop where
 below:Below W.heap.size W w'
 v1:NwV W A1 S1 X1 L u w'
 v2:NwV W A2 S2 X2 L u w'
 ne:L A1=true→L A2=true→∀ g g',u A1=.pointer (some ⟨g,0,none⟩)→u A2=.pointer (some ⟨g',0,none⟩)→g≠g'
section
variable {W w' ww:World} {A1 A2 S1 S2 A S:Nat} {X1 X2 X:Int} {L:Nat→Bool} {u:Nat→Value}
theorem NwV.low (h:NwV W A S X L u w') (i:Nat) (hA:A≠i) (hS:S≠i) (v:Value) (hb:∀ g,(Obj.cells #[] 0=Obj.cells #[] 0)→L A=true→∀ es,u A=.pointer (some ⟨g,0,none⟩)→RowW w' g 138 es→RowW ww g 138 es):NwV W A S X (updK L i) (upd u i v) ww:=by
 refine⟨by rw[updK_ne' hA,updK_ne' hS];exact h.1,?_⟩;rw[updK_ne' hA,updK_ne' hS];intro hL;obtain⟨g,es,h1,h2,h3,h4,h5⟩:=h.2 hL;exact⟨g,es,by rw[upd_neD (Ne.symm hA)];exact h1,h2,hb g rfl hL es h1 h3,h4,h5⟩
theorem ExA.low (h:ExA W A1 A2 S1 S2 X1 X2 L u w') (i:Nat) (h1:A1≠i) (h2:A2≠i) (h3:S1≠i) (h4:S2≠i) (v:Value) (b:Below w'.heap.size w' ww):ExA W A1 A2 S1 S2 X1 X2 (updK L i) (upd u i v) ww:=
 ⟨h.below.trans (b.mono h.below.size),h.v1.low i h1 h3 v (fun g _ _ es _ r=>r.below b r.lt),h.v2.low i h2 h4 v (fun g _ _ es _ r=>r.below b r.lt),by
  rw[updK_ne' h1,updK_ne' h2,upd_neD (Ne.symm h1),upd_neD (Ne.symm h2)];exact h.ne⟩
theorem ExA.start (W:World) (L:Nat→Bool) (u:Nat→Value) (h1:L A1=false) (h2:L A2=false) (h3:L S1=false) (h4:L S2=false) (b:Below W.heap.size W w'):ExA W A1 A2 S1 S2 X1 X2 L u w':=
 ⟨b,⟨fun h=>(by rw[h3] at h;cases h),fun h=>(by rw[h1] at h;cases h)⟩,⟨fun h=>(by rw[h4] at h;cases h),fun h=>(by rw[h2] at h;cases h)⟩,fun h=>(by rw[h1] at h;cases h)⟩
theorem ExA.swap (h:ExA W A1 A2 S1 S2 X1 X2 L u w'):ExA W A2 A1 S2 S1 X2 X1 L u w':=⟨h.below,h.v2,h.v1,fun a b g g' e e' q=>h.ne b a g' g e' e q.symm⟩
theorem ExA.alloc1 (h:ExA W A1 A2 S1 S2 X1 X2 L u w') (hL:L A1=false) (h2:A2≠A1) (h3:S1≠A1) (h4:S2≠A1) :
  ExA W A1 A2 S1 S2 X1 X2 (updK L A1) (upd u A1 (.pointer (some ⟨w'.heap.size,0,none⟩))) (w'.alloc (.cells #[.int .u64 0,.int .u64 0,.int .u64 0,.int .u64 0,.int .u64 0] 138)):=by
 have b:=below_new2 w' (.cells #[.int .u64 0,.int .u64 0,.int .u64 0,.int .u64 0,.int .u64 0] 138);have hS:L S1=false:=by
  cases q:L S1 with
  |false=>rfl
  |true=>have:=h.v1.1 q;rw[hL] at this;cases this
 refine⟨h.below.trans (b.mono h.below.size),⟨fun _=>updK_same',fun _=>⟨w'.heap.size,[0,0,0,0,0],by unfold upd;simp,h.below.size,row0 w',zero_ok,by rw[updK_ne' h3,hS];intro q;cases q⟩⟩,h.v2.low A1 h2 h4 _ (fun g _ _ es _ r=>r.below b r.lt),?_⟩;rw[updK_ne' h2,upd_neD (Ne.symm h2)];intro _ q g g' e e' hg;obtain⟨g2,es,k1,k2,k3,_⟩:=h.v2.2 q;have e1:g=w'.heap.size:=by unfold upd at e;simp at e;exact e.symm
 rw[k1] at e';have e2:g2=g':=by simpa using e'
 have:=k3.lt;omega
theorem ExA.alloc2 (h:ExA W A1 A2 S1 S2 X1 X2 L u w') (hL:L A2=false) (h2:A1≠A2) (h3:S2≠A2) (h4:S1≠A2) :
  ExA W A1 A2 S1 S2 X1 X2 (updK L A2) (upd u A2 (.pointer (some ⟨w'.heap.size,0,none⟩))) (w'.alloc (.cells #[.int .u64 0,.int .u64 0,.int .u64 0,.int .u64 0,.int .u64 0] 138)):=
 (h.swap.alloc1 hL h2 h3 h4).swap
theorem ExA.store1 (h:ExA W A1 A2 S1 S2 X1 X2 L u w') {g:Nat} {es:List Int} (hL:L A1=true) (hg:u A1=.pointer (some ⟨g,0,none⟩)) (h1:A1≠S1) (h2:A2≠S1) (h4:S2≠S1) (hk:EOk es) (hv:ev es=X1) (hw:Wr g w' ww) (hr:RowW ww g 138 es) (v:Value) :
  ExA W A1 A2 S1 S2 X1 X2 (updK L S1) (upd u S1 v) ww:=by
 obtain⟨g0,es0,k1,k2,k3,k4,k5⟩:=h.v1.2 hL;have e0:g0=g:=by rw[k1] at hg;simpa using hg
 subst e0;refine⟨h.below.trans (hw.below k2),⟨fun _=>by rw[updK_ne' h1];exact hL,fun _=>⟨g0,es,by rw[upd_neD (Ne.symm h1)];exact hg,k2,hr,hk,fun _=>hv⟩⟩,h.v2.low S1 h2 h4 v (fun g' _ q es' e' r=>hw.rowW r (fun e=>h.ne hL q g0 g' k1 e' e.symm)),?_⟩;rw[updK_ne' h1,updK_ne' h2,upd_neD (Ne.symm h1),upd_neD (Ne.symm h2)];exact h.ne
theorem ExA.store2 (h:ExA W A1 A2 S1 S2 X1 X2 L u w') {g:Nat} {es:List Int} (hL:L A2=true) (hg:u A2=.pointer (some ⟨g,0,none⟩)) (h1:A2≠S2) (h2:A1≠S2) (h4:S1≠S2) (hk:EOk es) (hv:ev es=X2) (hw:Wr g w' ww) (hr:RowW ww g 138 es) (v:Value) :
  ExA W A1 A2 S1 S2 X1 X2 (updK L S2) (upd u S2 v) ww:=(h.swap.store1 hL hg h1 h2 h4 hk hv hw hr v).swap
theorem ExA.fin1 (h:ExA W A1 A2 S1 S2 X1 X2 L u w') (hS:L S1=true):∃ g es,u A1=.pointer (some ⟨g,0,none⟩)∧W.heap.size≤g∧RowW w' g 138 es∧EOk es∧ev es=X1:=by
 obtain⟨g,es,k1,k2,k3,k4,k5⟩:=h.v1.2 (h.v1.1 hS);exact⟨g,es,k1,k2,k3,k4,k5 hS⟩
theorem ExA.get1 (h:ExA W A1 A2 S1 S2 X1 X2 L u w') (hA:L A1=true):∃ g es,u A1=.pointer (some ⟨g,0,none⟩)∧RowW w' g 138 es∧EOk es:=by
 obtain⟨g,es,k1,k2,k3,k4,k5⟩:=h.v1.2 hA;exact⟨g,es,k1,k3,k4⟩
end
theorem wp_storeX {w:World} {o:Oper} {a:Act} {K:Act→World→Prop} {Q:Exit→Act→World→Prop} (x y:Operand) (ho:o.op=.store 138 x y)
  (g:Nat) (zs es:List Int) (hx:a.eval x=.pointer (some ⟨g,0,none⟩)) (hy:a.eval y=.agg (es.map (Value.int .u64)).toArray) (hk:EOk es) (hz:EOk zs) (hr:RowW w g 138 zs)
  (hK:∀ w',RowW w' g 138 es→Wr g w w'→K (a.put o.dst undef) w'):o.wp Tryz.prog a w K Q:=
 wp_store_row 138 x y ho g ((es.map (Value.int .u64)).toArray) hx hy 138 _ hr (sizeEl hk.1) (by simp[hk.1,hz.1]) (all_oneCell_toArray (ints_oneCell _ _)) (hK _ (setRow_heap _ _ _ _ _ _ hr) (Wr.setRow _ _ _))
end Go.Proofs.YtjdhhgaelgemcaaGreatDoor
namespace Go.Proofs.YtjdhhgaelgemcaaGreatDoor
set_option linter.unusedVariables false
theorem decX_same (zs:List Int) (hl:zs.length=32) (hz:Byte zs) (hy:mY zs<fp):dcX zs=mX zs mdD:=by
 have h0:0≤mY zs:=by unfold mY;rw[fp_lit];omega
 obtain⟨r1,r2⟩:=roots_same (mY zs) h0 hy;have ho:=odd_same zs hl hz;have hb:=hz.get 31;have hm:mO zs=0∨mO zs=1:=by unfold mO;omega
 have hx:dcX zs=if((mdX (mY zs) mdD%2 == 1) != dcO zs)=true then(0-mdX (mY zs) mdD)%fp else mdX (mY zs) mdD:=by
  unfold dcX dc1;rw[show dcY zs=mY zs from rfl,r2]
 rw[hx,ho];unfold mX;rw[show(0:Int)%fp=0 from by decide];generalize mdX (mY zs) mdD=x;have hp:x%2=0∨x%2=1:=by omega
 rcases hm with hm|hm<;>rcases hp with hp|hp<;>rw[hm,hp]<;>simp
theorem twoD:ev curveD2L=(mdD+mdD)%fp:=by decide +kernel
end Go.Proofs.YtjdhhgaelgemcaaGreatDoor
namespace Go.Proofs.YtjdhhgaelgemcaaGreatDoor
open Go.ChangeShapes Go.WideShapes Go.ChangeAt Go.RowKit
set_option linter.unusedVariables false
def AddP (w:World) (g:Nat) (X1 Y1 Z1 T1 X2 Y2 Z2 T2:Int) (e:Ending) (w':World):Prop:=
 ∃ x y z t,Pt w' g x y z t∧WrH g w w'∧e=.returned (.tuple #[])∧
  ev x=(smB X1 Y1 X2 Y2-smA X1 Y1 X2 Y2)%fp*((smG Z1 Z2-smC mdD T1 T2)%fp)%fp∧
  ev y=(smG Z1 Z2+smC mdD T1 T2)%fp*((smB X1 Y1 X2 Y2+smA X1 Y1 X2 Y2)%fp)%fp∧
  ev z=(smG Z1 Z2-smC mdD T1 T2)%fp*((smG Z1 Z2+smC mdD T1 T2)%fp)%fp∧
  ev t=(smB X1 Y1 X2 Y2-smA X1 Y1 X2 Y2)%fp*((smB X1 Y1 X2 Y2+smA X1 Y1 X2 Y2)%fp)%fp
theorem em1 (a b:Int):a%fp*b%fp=a*b%fp:=by rw[Int.mul_emod,Int.emod_emod,←Int.mul_emod]
theorem eq_C (D T1 T2:Int):T1*T2%fp*((D+D)%fp)%fp=smC D T1 T2:=by
 unfold smC;rw[em1,em1]
 congr 1;grind
theorem eq_G (Z1 Z2:Int):(Z1*Z2%fp+Z1*Z2%fp)%fp=smG Z1 Z2:=by
 unfold smG;rw[em1,←Int.add_emod]
 congr 1;grind
theorem len5 {xs:List Int} (h:xs.length=5):∃ a b c d e,xs=[a,b,c,d,e]:=by
 match xs,h with
 |[a,b,c,d,e],_=>exact⟨a,b,c,d,e,rfl⟩
theorem Tryz.sizePoint:(Tryz.prog.info? 140).map (·.size)=some 20:=by kernel_rfl
theorem wpList_storeP {w:World} {ops:Array Oper} {rest:List Oper} {o:Oper} {a:Act} {Q:Exit→Act→World→Prop} (hgd:o.guard=none) (px py:Operand) (ho:o.op=.store 140 px py)
  (g:Nat) (x y z t old:List Int) (hx:a.eval px=.pointer (some ⟨g,0,none⟩)) (hy:a.eval py=.agg ((pl x y z t).map (Value.int .u64)).toArray) (kx:EOk x) (ky:EOk y) (kz:EOk z) (kt:EOk t) (hl:old.length=20) (hr:RowW w g 140 old)
  (hK:∀ w',Pt w' g x y z t→Wr g w w'→wpList Tryz.prog ops Q rest (a.put o.dst undef) w') :
  wpList Tryz.prog ops Q (o::rest) a w:=by
 have hn:(pl x y z t).length=20:=by unfold pl;simp[kx.1,ky.1,kz.1,kt.1]
 exact wpList_store_row hgd 140 px py ho g ((pl x y z t).map (Value.int .u64)).toArray hx hy 140 _ hr (by rw[Tryz.sizePoint];simp[hn]) (by simp[hn,hl]) (all_oneCell_toArray (ints_oneCell _ _)) (hK _ ⟨setRow_heap _ _ _ _ _ _ hr,kx,ky,kz,kt⟩ (Wr.setRow _ _ _))
set_option maxRecDepth 100000 in
set_option maxHeartbeats 16000000 in
theorem add_any (g h:Nat) (x1 y1 z1 t1 x2 y2 z2 t2:List Int) (w:World) (hp:Pt w g x1 y1 z1 t1) (hq:Pt w h x2 y2 z2 t2) :
  Calls Tryz.prog 109 #[.pointer (some ⟨g,0,none⟩),.pointer (some ⟨h,0,none⟩)] w (AddP w g (ev x1) (ev y1) (ev z1) (ev t1) (ev x2) (ev y2) (ev z2) (ev t2)):=by
 have HS0:Hid (RunD w w [] [(g,0,x1),(g,5,y1),(g,10,z1),(g,15,t1),(h,0,x2),(h,5,y2),(h,10,z2),(h,15,t2)]):=RunD.start w _ (fun e he=>by
  simp only[List.mem_cons,List.not_mem_nil,or_false] at he;rcases he with rfl|rfl|rfl|rfl|rfl|rfl|rfl|rfl
  ·exact hp.ex
  ·exact hp.ey
  ·exact hp.ez
  ·exact hp.et
  ·exact hq.ex
  ·exact hq.ey
  ·exact hq.ez
  ·exact hq.et)
 have HPT:Hid (Pt w g x1 y1 z1 t1):=hp;clear hp hq;go_enter Tryz.func109,Tryz.ntmps109;go_wp2_with fail;refine(curveD2_any _).mono ?_;rintro e w1 ⟨dd,hk,hv,rfl,b⟩;have HKdd:Hid (EOk dd∧ev dd=ev curveD2L):=⟨hk,hv⟩
 have HS1:Hid (RunD w w1 [] [(g,0,x1),(g,5,y1),(g,10,z1),(g,15,t1),(h,0,x2),(h,5,y2),(h,10,z2),(h,15,t2)]):=HS0.out.call b;clear hk hv b HS0;have HA2:Hid (RunD w (w1.alloc (.cells #[.int .u64 0,.int .u64 0,.int .u64 0,.int .u64 0,.int .u64 0] 138)) [(w1.heap.size,[0,0,0,0,0])] [(g,0,x1),(g,5,y1),(g,10,z1),(g,15,t1),(h,0,x2),(h,5,y2),(h,10,z2),(h,15,t2)]):=HS1.out.room;clear HS1;go_wp2_with (first
  |(refine wpList_storeD HA2.out rfl (.tmp 4) (.tmp 17) rfl 0 (w1.heap.size) [0,0,0,0,0] dd rfl rfl rfl HKdd.out.1 rfl ?_)
  |fail)
 intro w3 S;have HS3:Hid (RunD w w3 [(w1.heap.size,dd)] [(g,0,x1),(g,5,y1),(g,10,z1),(g,15,t1),(h,0,x2),(h,5,y2),(h,10,z2),(h,15,t2)]):=S;clear S HA2;generalize w1.heap.size=G3a at *;go_wp2_with fail;refine wp_region_any (by kernel_rfl) ?_;refine wpAny_slots9 (fun _ _ _=>True) (frame:=(fun (a b c d e f g h i j k l m n o p q r s u v w x y z A B C D E F G H I J K L M N O P Q R S T U V W X Y Z a0 a1 a2 a3 a4 a5 a6 a7:Value)=>fun (t:Nat→Value)=>({ tmps:=List.toArray [a,b,c,d,e,t 14,t 15,f,g,h,i,j,k,l,m,n,o,p,t 0,t 1,t 2,t 3,t 4,t 5,t 6,t 7,t 8,t 9,t 10,t 11,t 12,t 13,q,r,s,u,v,w,x,y,z,A,B,C,D,E,F,G,H,I,J,K,L,M,N,O,P,Q,R,S,T,U,V,W,X,Y,Z,a0,a1,a2,a3,a4,a5,a6,a7],defers:=[] }:Act)) _ _ _ _ _ _ _ _ _ _ _ _ _ _ _ _ _ _ _ _ _ _ _ _ _ _ _ _ _ _ _ _ _ _ _ _ _ _ _ _ _ _ _ _ _ _ _ _ _ _ _ _ _ _ _ _ _ _ _)
  (Ext:=ExA w3 14 15 16 17 ((ev y1-ev x1)%fp) ((ev y2-ev x2)%fp)) (Good:=fun i L _ v=>if i=0 then v=.pointer (some ⟨g,0,none⟩) else if i=1 then v=.pointer (some ⟨g,0,none⟩) else if i=2 then v=.pointer (some ⟨g,5,none⟩) else if i=3 then v=.pointer (some ⟨g,0,none⟩) else if i=4 then v=.pointer (some ⟨g,0,none⟩) else if i=5 then v=.pointer (some ⟨g,0,none⟩) else if i=6 then EV ((ev y1-ev x1)%fp) v else if i=7 then v=.pointer (some ⟨h,0,none⟩) else if i=8 then v=.pointer (some ⟨h,0,none⟩) else if i=9 then v=.pointer (some ⟨h,5,none⟩) else if i=10 then v=.pointer (some ⟨h,0,none⟩) else if i=11 then v=.pointer (some ⟨h,0,none⟩) else if i=12 then v=.pointer (some ⟨h,0,none⟩) else if i=13 then EV ((ev y2-ev x2)%fp) v else if i=14 then L 14=true else if i=15 then L 15=true else if i=16 then L 16=true else if i=17 then L 17=true else True) ?hstab (by kernel_rfl) ?hop ?hdone _ _ ((fun (x0 x1 x2 x3 x4 x5 x6 x7 x8 x9 x10 x11 x12 x13 x14 x15:Value)=>fun (i:Nat)=>if i=0 then x0 else if i=1 then x1 else if i=2 then x2 else if i=3 then x3 else if i=4 then x4 else if i=5 then x5 else if i=6 then x6 else if i=7 then x7 else if i=8 then x8 else if i=9 then x9 else if i=10 then x10 else if i=11 then x11 else if i=12 then x12 else if i=13 then x13 else if i=14 then x14 else if i=15 then x15 else undef) _ _ _ _ _ _ _ _ _ _ _ _ _ _ _ _) _ (by simp) ?ext ?start (by simp)
 case start=>intro i hi h;exact absurd h (by rw[Array.getD_eq_getD_getElem?,Array.getElem?_replicate];split<;>simp)
 case ext=>exact ExA.start _ _ _ (by simp) (by simp) (by simp) (by simp) ⟨rfl,rfl,rfl,Nat.le_refl _,fun _ _=>rfl⟩
 case hstab=>
  intro j L w9 w' i v _ _ _ h;by_cases h14:j=14
  ·subst h14;simp at h ⊢;unfold updK;simp[h]
  by_cases h15:j=15
  ·subst h15;simp at h ⊢;unfold updK;simp[h]
  by_cases h16:j=16
  ·subst h16;simp at h ⊢;unfold updK;simp[h]
  by_cases h17:j=17
  ·subst h17;simp at h ⊢;unfold updK;simp[h]
  simp only[if_neg h14,if_neg h15,if_neg h16,if_neg h17] at h ⊢;exact h
 case hop=>
  intro i o L t w' ho hLi hx hdep K hK;have hi:i<18:=(Array.getElem?_eq_some_iff.1 ho).1;obtain rfl|rfl|rfl|rfl|rfl|rfl|rfl|rfl|rfl|rfl|rfl|rfl|rfl|rfl|rfl|rfl|rfl|rfl:i=0∨i=1∨i=2∨i=3∨i=4∨i=5∨i=6∨i=7∨i=8∨i=9∨i=10∨i=11∨i=12∨i=13∨i=14∨i=15∨i=16∨i=17:=by omega
  all_goals(simp at ho;subst ho)
  ·clear hdep;have hK':=hK w' (.pointer (some ⟨g,0,none⟩)) (by simp) (hx.low 0 (by decide) (by decide) (by decide) (by decide) _ (Below.refl _ _)) trivial;clear hK;rw[if_pos (by rfl)];go_simp;simpa[upd] using hK'
  ·have d0:t 0=.pointer (some ⟨g,0,none⟩):=by simpa using hdep ⟨0,.data⟩ (by simp) rfl
   clear hdep;have hK':=hK w' (.pointer (some ⟨g,0,none⟩)) (by simp) (hx.low 1 (by decide) (by decide) (by decide) (by decide) _ (Below.refl _ _)) trivial;clear hK;rw[if_pos (by rfl)];go_simp;simpa[upd,d0] using hK'
  ·have d1:t 1=.pointer (some ⟨g,0,none⟩):=by simpa using hdep ⟨1,.data⟩ (by simp) rfl
   clear hdep;have hK':=hK w' (.pointer (some ⟨g,5,none⟩)) (by simp) (hx.low 2 (by decide) (by decide) (by decide) (by decide) _ (Below.refl _ _)) trivial;clear hK;rw[if_pos (by rfl)];go_simp;simpa[upd,d1] using hK'
  ·clear hdep;have hK':=hK w' (.pointer (some ⟨g,0,none⟩)) (by simp) (hx.low 3 (by decide) (by decide) (by decide) (by decide) _ (Below.refl _ _)) trivial;clear hK;rw[if_pos (by rfl)];go_simp;simpa[upd] using hK'
  ·have d3:t 3=.pointer (some ⟨g,0,none⟩):=by simpa using hdep ⟨3,.data⟩ (by simp) rfl
   clear hdep;have hK':=hK w' (.pointer (some ⟨g,0,none⟩)) (by simp) (hx.low 4 (by decide) (by decide) (by decide) (by decide) _ (Below.refl _ _)) trivial;clear hK;rw[if_pos (by rfl)];go_simp;simpa[upd,d3] using hK'
  ·have d4:t 4=.pointer (some ⟨g,0,none⟩):=by simpa using hdep ⟨4,.data⟩ (by simp) rfl
   clear hdep;have hK':=hK w' (.pointer (some ⟨g,0,none⟩)) (by simp) (hx.low 5 (by decide) (by decide) (by decide) (by decide) _ (Below.refl _ _)) trivial;clear hK;rw[if_pos (by rfl)];go_simp;simpa[upd,d4] using hK'
  ·have d2:t 2=.pointer (some ⟨g,5,none⟩):=by simpa using hdep ⟨2,.data⟩ (by simp) rfl
   have d5:t 5=.pointer (some ⟨g,0,none⟩):=by simpa using hdep ⟨5,.data⟩ (by simp) rfl
   clear hdep;have A:=minus_any g 5 g 0 y1 x1 w' ((HS3.out.el 1 _ _ _ rfl).below hx.below) ((HS3.out.el 0 _ _ _ rfl).below hx.below);have hK':∀ ww v,EV ((ev y1-ev x1)%fp) v→Below w'.heap.size w' ww→K _ ww:=fun ww v hv hb=>hK ww v (by simpa using hv) (hx.low 6 (by decide) (by decide) (by decide) (by decide) _ hb) trivial
   clear hK;rw[if_pos (by rfl)];go_simp;try simp only[d2,d5]
   refine A.mono ?_;rintro e w9 ⟨es,hk,hv,rfl,hb⟩;have hK2:=hK' w9 _ ⟨es,hk,hv,rfl⟩ hb;clear hK' A hk hv hb;go_simp;simpa[upd,d2,d5] using hK2
  ·clear hdep;have hK':=hK w' (.pointer (some ⟨h,0,none⟩)) (by simp) (hx.low 7 (by decide) (by decide) (by decide) (by decide) _ (Below.refl _ _)) trivial;clear hK;rw[if_pos (by rfl)];go_simp;simpa[upd] using hK'
  ·have d7:t 7=.pointer (some ⟨h,0,none⟩):=by simpa using hdep ⟨7,.data⟩ (by simp) rfl
   clear hdep;have hK':=hK w' (.pointer (some ⟨h,0,none⟩)) (by simp) (hx.low 8 (by decide) (by decide) (by decide) (by decide) _ (Below.refl _ _)) trivial;clear hK;rw[if_pos (by rfl)];go_simp;simpa[upd,d7] using hK'
  ·have d8:t 8=.pointer (some ⟨h,0,none⟩):=by simpa using hdep ⟨8,.data⟩ (by simp) rfl
   clear hdep;have hK':=hK w' (.pointer (some ⟨h,5,none⟩)) (by simp) (hx.low 9 (by decide) (by decide) (by decide) (by decide) _ (Below.refl _ _)) trivial;clear hK;rw[if_pos (by rfl)];go_simp;simpa[upd,d8] using hK'
  ·clear hdep;have hK':=hK w' (.pointer (some ⟨h,0,none⟩)) (by simp) (hx.low 10 (by decide) (by decide) (by decide) (by decide) _ (Below.refl _ _)) trivial;clear hK;rw[if_pos (by rfl)];go_simp;simpa[upd] using hK'
  ·have d10:t 10=.pointer (some ⟨h,0,none⟩):=by simpa using hdep ⟨10,.data⟩ (by simp) rfl
   clear hdep;have hK':=hK w' (.pointer (some ⟨h,0,none⟩)) (by simp) (hx.low 11 (by decide) (by decide) (by decide) (by decide) _ (Below.refl _ _)) trivial;clear hK;rw[if_pos (by rfl)];go_simp;simpa[upd,d10] using hK'
  ·have d11:t 11=.pointer (some ⟨h,0,none⟩):=by simpa using hdep ⟨11,.data⟩ (by simp) rfl
   clear hdep;have hK':=hK w' (.pointer (some ⟨h,0,none⟩)) (by simp) (hx.low 12 (by decide) (by decide) (by decide) (by decide) _ (Below.refl _ _)) trivial;clear hK;rw[if_pos (by rfl)];go_simp;simpa[upd,d11] using hK'
  ·have d9:t 9=.pointer (some ⟨h,5,none⟩):=by simpa using hdep ⟨9,.data⟩ (by simp) rfl
   have d12:t 12=.pointer (some ⟨h,0,none⟩):=by simpa using hdep ⟨12,.data⟩ (by simp) rfl
   clear hdep;have A:=minus_any h 5 h 0 y2 x2 w' ((HS3.out.el 5 _ _ _ rfl).below hx.below) ((HS3.out.el 4 _ _ _ rfl).below hx.below);have hK':∀ ww v,EV ((ev y2-ev x2)%fp) v→Below w'.heap.size w' ww→K _ ww:=fun ww v hv hb=>hK ww v (by simpa using hv) (hx.low 13 (by decide) (by decide) (by decide) (by decide) _ hb) trivial
   clear hK;rw[if_pos (by rfl)];go_simp;try simp only[d9,d12]
   refine A.mono ?_;rintro e w9 ⟨es,hk,hv,rfl,hb⟩;have hK2:=hK' w9 _ ⟨es,hk,hv,rfl⟩ hb;clear hK' A hk hv hb;go_simp;simpa[upd,d9,d12] using hK2
  ·clear hdep;have hK':=hK _ (.pointer (some ⟨w'.heap.size,0,none⟩)) (by simp[updK]) (hx.alloc1 hLi (by decide) (by decide) (by decide)) trivial;clear hK;rw[if_pos (by rfl)];go_simp;simpa[upd] using hK'
  ·clear hdep;have hK':=hK _ (.pointer (some ⟨w'.heap.size,0,none⟩)) (by simp[updK]) (hx.alloc2 hLi (by decide) (by decide) (by decide)) trivial;clear hK;rw[if_pos (by rfl)];go_simp;simpa[upd] using hK'
  ·have l14:L 14=true:=by simpa using hdep ⟨14,.data⟩ (by simp) rfl
   have f6:EV ((ev y1-ev x1)%fp) (t 6):=by simpa using hdep ⟨6,.data⟩ (by simp) rfl
   clear hdep;obtain⟨g9,zs9,e9,r9,k9⟩:=hx.get1 l14;refine f6.elim_ fun es9 ke ve ee=>?_
   have hK':∀ ww,RowW ww g9 138 es9→Wr g9 w' ww→K _ ww:=fun ww rr hw=>hK ww undef (by simp[updK]) (hx.store1 l14 e9 (by decide) (by decide) (by decide) ke ve hw rr _) trivial
   clear hK;rw[if_pos (by rfl)];refine wp_storeX (.tmp 5) (.tmp 24) rfl g9 zs9 es9 e9 ee ke k9 r9 fun ww rr hw=>?_
   have hK2:=hK' ww rr hw;clear hK';simpa[upd,Act.put] using hK2
  ·have l15:L 15=true:=by simpa using hdep ⟨15,.data⟩ (by simp) rfl
   have f13:EV ((ev y2-ev x2)%fp) (t 13):=by simpa using hdep ⟨13,.data⟩ (by simp) rfl
   clear hdep;obtain⟨g9,zs9,e9,r9,k9⟩:=hx.swap.get1 l15;refine f13.elim_ fun es9 ke ve ee=>?_
   have hK':∀ ww,RowW ww g9 138 es9→Wr g9 w' ww→K _ ww:=fun ww rr hw=>hK ww undef (by simp[updK]) (hx.store2 l15 e9 (by decide) (by decide) (by decide) ke ve hw rr _) trivial
   clear hK;rw[if_pos (by rfl)];refine wp_storeX (.tmp 6) (.tmp 31) rfl g9 zs9 es9 e9 ee ke k9 r9 fun ww rr hw=>?_
   have hK2:=hK' ww rr hw;clear hK';simpa[upd,Act.put] using hK2
 case hdone=>
  intro L t4 w4 hx hg;have l16:L 16=true:=by simpa using hg 16 (by decide)
  have l17:L 17=true:=by simpa using hg 17 (by decide)
  clear hg;obtain⟨G4a,pd,q1,qg1,qr1,qk1,qv1⟩:=hx.fin1 l16;obtain⟨G4b,qd,q2,qg2,qr2,qk2,qv2⟩:=hx.swap.fin1 l17;have qne:=hx.ne (hx.v1.1 l16) (hx.v2.1 l17) _ _ q1 q2;have HS4:Hid (RunD w w4 [(G4b,qd),(G4a,pd),(G3a,dd)] [(g,0,x1),(g,5,y1),(g,10,z1),(g,15,t1),(h,0,x2),(h,5,y2),(h,10,z2),(h,15,t2)]):=HS3.out.two hx.below qg1 qr1 qk1 qg2 qr2 qk2 qne;have HKpd:Hid (EOk pd∧ev pd=(ev y1-ev x1)%fp):=⟨qk1,qv1⟩
  have HKqd:Hid (EOk qd∧ev qd=(ev y2-ev x2)%fp):=⟨qk2,qv2⟩
  simp only[q1,q2];clear hx q1 q2 qg1 qg2 qr1 qr2 qk1 qk2 qv1 qv2 qne HS3;go_wp2_with fail;refine wp_region_any (by kernel_rfl) ?_;refine wpAny_slots9 (fun _ _ _=>True) (frame:=(fun (a b c d e f g h i j k l m n o p q r s u v w x y z A B C D E F G H I J K L M N O P Q R S T U V W X Y Z a0 a1 a2 a3 a4 a5 a6 a7:Value)=>fun (t:Nat→Value)=>({ tmps:=List.toArray [a,b,c,d,e,f,g,t 14,t 15,h,i,j,k,l,m,n,o,p,q,r,s,u,v,w,x,y,z,A,B,C,D,E,t 0,t 1,t 2,t 3,t 4,t 5,t 6,t 7,t 8,t 9,t 10,t 11,t 12,t 13,F,G,H,I,J,K,L,M,N,O,P,Q,R,S,T,U,V,W,X,Y,Z,a0,a1,a2,a3,a4,a5,a6,a7],defers:=[] }:Act)) _ _ _ _ _ _ _ _ _ _ _ _ _ _ _ _ _ _ _ _ _ _ _ _ _ _ _ _ _ _ _ _ _ _ _ _ _ _ _ _ _ _ _ _ _ _ _ _ _ _ _ _ _ _ _ _ _ _ _)
   (Ext:=ExA w4 14 15 16 17 ((ev y1+ev x1)%fp) ((ev y2+ev x2)%fp)) (Good:=fun i L _ v=>if i=0 then v=.pointer (some ⟨g,0,none⟩) else if i=1 then v=.pointer (some ⟨g,0,none⟩) else if i=2 then v=.pointer (some ⟨g,5,none⟩) else if i=3 then v=.pointer (some ⟨g,0,none⟩) else if i=4 then v=.pointer (some ⟨g,0,none⟩) else if i=5 then v=.pointer (some ⟨g,0,none⟩) else if i=6 then EV ((ev y1+ev x1)%fp) v else if i=7 then v=.pointer (some ⟨h,0,none⟩) else if i=8 then v=.pointer (some ⟨h,0,none⟩) else if i=9 then v=.pointer (some ⟨h,5,none⟩) else if i=10 then v=.pointer (some ⟨h,0,none⟩) else if i=11 then v=.pointer (some ⟨h,0,none⟩) else if i=12 then v=.pointer (some ⟨h,0,none⟩) else if i=13 then EV ((ev y2+ev x2)%fp) v else if i=14 then L 14=true else if i=15 then L 15=true else if i=16 then L 16=true else if i=17 then L 17=true else True) ?hstab (by kernel_rfl) ?hop ?hdone _ _ ((fun (x0 x1 x2 x3 x4 x5 x6 x7 x8 x9 x10 x11 x12 x13 x14 x15:Value)=>fun (i:Nat)=>if i=0 then x0 else if i=1 then x1 else if i=2 then x2 else if i=3 then x3 else if i=4 then x4 else if i=5 then x5 else if i=6 then x6 else if i=7 then x7 else if i=8 then x8 else if i=9 then x9 else if i=10 then x10 else if i=11 then x11 else if i=12 then x12 else if i=13 then x13 else if i=14 then x14 else if i=15 then x15 else undef) _ _ _ _ _ _ _ _ _ _ _ _ _ _ _ _) _ (by simp) ?ext ?start (by simp)
  case start=>intro i hi h;exact absurd h (by rw[Array.getD_eq_getD_getElem?,Array.getElem?_replicate];split<;>simp)
  case ext=>exact ExA.start _ _ _ (by simp) (by simp) (by simp) (by simp) ⟨rfl,rfl,rfl,Nat.le_refl _,fun _ _=>rfl⟩
  case hstab=>
   intro j L w9 w' i v _ _ _ h;by_cases h14:j=14
   ·subst h14;simp at h ⊢;unfold updK;simp[h]
   by_cases h15:j=15
   ·subst h15;simp at h ⊢;unfold updK;simp[h]
   by_cases h16:j=16
   ·subst h16;simp at h ⊢;unfold updK;simp[h]
   by_cases h17:j=17
   ·subst h17;simp at h ⊢;unfold updK;simp[h]
   simp only[if_neg h14,if_neg h15,if_neg h16,if_neg h17] at h ⊢;exact h
  case hop=>
   intro i o L t w' ho hLi hx hdep K hK;have hi:i<18:=(Array.getElem?_eq_some_iff.1 ho).1;obtain rfl|rfl|rfl|rfl|rfl|rfl|rfl|rfl|rfl|rfl|rfl|rfl|rfl|rfl|rfl|rfl|rfl|rfl:i=0∨i=1∨i=2∨i=3∨i=4∨i=5∨i=6∨i=7∨i=8∨i=9∨i=10∨i=11∨i=12∨i=13∨i=14∨i=15∨i=16∨i=17:=by omega
   all_goals(simp at ho;subst ho)
   ·clear hdep;have hK':=hK w' (.pointer (some ⟨g,0,none⟩)) (by simp) (hx.low 0 (by decide) (by decide) (by decide) (by decide) _ (Below.refl _ _)) trivial;clear hK;rw[if_pos (by rfl)];go_simp;simpa[upd] using hK'
   ·have d0:t 0=.pointer (some ⟨g,0,none⟩):=by simpa using hdep ⟨0,.data⟩ (by simp) rfl
    clear hdep;have hK':=hK w' (.pointer (some ⟨g,0,none⟩)) (by simp) (hx.low 1 (by decide) (by decide) (by decide) (by decide) _ (Below.refl _ _)) trivial;clear hK;rw[if_pos (by rfl)];go_simp;simpa[upd,d0] using hK'
   ·have d1:t 1=.pointer (some ⟨g,0,none⟩):=by simpa using hdep ⟨1,.data⟩ (by simp) rfl
    clear hdep;have hK':=hK w' (.pointer (some ⟨g,5,none⟩)) (by simp) (hx.low 2 (by decide) (by decide) (by decide) (by decide) _ (Below.refl _ _)) trivial;clear hK;rw[if_pos (by rfl)];go_simp;simpa[upd,d1] using hK'
   ·clear hdep;have hK':=hK w' (.pointer (some ⟨g,0,none⟩)) (by simp) (hx.low 3 (by decide) (by decide) (by decide) (by decide) _ (Below.refl _ _)) trivial;clear hK;rw[if_pos (by rfl)];go_simp;simpa[upd] using hK'
   ·have d3:t 3=.pointer (some ⟨g,0,none⟩):=by simpa using hdep ⟨3,.data⟩ (by simp) rfl
    clear hdep;have hK':=hK w' (.pointer (some ⟨g,0,none⟩)) (by simp) (hx.low 4 (by decide) (by decide) (by decide) (by decide) _ (Below.refl _ _)) trivial;clear hK;rw[if_pos (by rfl)];go_simp;simpa[upd,d3] using hK'
   ·have d4:t 4=.pointer (some ⟨g,0,none⟩):=by simpa using hdep ⟨4,.data⟩ (by simp) rfl
    clear hdep;have hK':=hK w' (.pointer (some ⟨g,0,none⟩)) (by simp) (hx.low 5 (by decide) (by decide) (by decide) (by decide) _ (Below.refl _ _)) trivial;clear hK;rw[if_pos (by rfl)];go_simp;simpa[upd,d4] using hK'
   ·have d2:t 2=.pointer (some ⟨g,5,none⟩):=by simpa using hdep ⟨2,.data⟩ (by simp) rfl
    have d5:t 5=.pointer (some ⟨g,0,none⟩):=by simpa using hdep ⟨5,.data⟩ (by simp) rfl
    clear hdep;have A:=plus_any g 5 g 0 y1 x1 w' ((HS4.out.el 1 _ _ _ rfl).below hx.below) ((HS4.out.el 0 _ _ _ rfl).below hx.below);have hK':∀ ww v,EV ((ev y1+ev x1)%fp) v→Below w'.heap.size w' ww→K _ ww:=fun ww v hv hb=>hK ww v (by simpa using hv) (hx.low 6 (by decide) (by decide) (by decide) (by decide) _ hb) trivial
    clear hK;rw[if_pos (by rfl)];go_simp;try simp only[d2,d5]
    refine A.mono ?_;rintro e w9 ⟨es,hk,hv,rfl,hb⟩;have hK2:=hK' w9 _ ⟨es,hk,hv,rfl⟩ hb;clear hK' A hk hv hb;go_simp;simpa[upd,d2,d5] using hK2
   ·clear hdep;have hK':=hK w' (.pointer (some ⟨h,0,none⟩)) (by simp) (hx.low 7 (by decide) (by decide) (by decide) (by decide) _ (Below.refl _ _)) trivial;clear hK;rw[if_pos (by rfl)];go_simp;simpa[upd] using hK'
   ·have d7:t 7=.pointer (some ⟨h,0,none⟩):=by simpa using hdep ⟨7,.data⟩ (by simp) rfl
    clear hdep;have hK':=hK w' (.pointer (some ⟨h,0,none⟩)) (by simp) (hx.low 8 (by decide) (by decide) (by decide) (by decide) _ (Below.refl _ _)) trivial;clear hK;rw[if_pos (by rfl)];go_simp;simpa[upd,d7] using hK'
   ·have d8:t 8=.pointer (some ⟨h,0,none⟩):=by simpa using hdep ⟨8,.data⟩ (by simp) rfl
    clear hdep;have hK':=hK w' (.pointer (some ⟨h,5,none⟩)) (by simp) (hx.low 9 (by decide) (by decide) (by decide) (by decide) _ (Below.refl _ _)) trivial;clear hK;rw[if_pos (by rfl)];go_simp;simpa[upd,d8] using hK'
   ·clear hdep;have hK':=hK w' (.pointer (some ⟨h,0,none⟩)) (by simp) (hx.low 10 (by decide) (by decide) (by decide) (by decide) _ (Below.refl _ _)) trivial;clear hK;rw[if_pos (by rfl)];go_simp;simpa[upd] using hK'
   ·have d10:t 10=.pointer (some ⟨h,0,none⟩):=by simpa using hdep ⟨10,.data⟩ (by simp) rfl
    clear hdep;have hK':=hK w' (.pointer (some ⟨h,0,none⟩)) (by simp) (hx.low 11 (by decide) (by decide) (by decide) (by decide) _ (Below.refl _ _)) trivial;clear hK;rw[if_pos (by rfl)];go_simp;simpa[upd,d10] using hK'
   ·have d11:t 11=.pointer (some ⟨h,0,none⟩):=by simpa using hdep ⟨11,.data⟩ (by simp) rfl
    clear hdep;have hK':=hK w' (.pointer (some ⟨h,0,none⟩)) (by simp) (hx.low 12 (by decide) (by decide) (by decide) (by decide) _ (Below.refl _ _)) trivial;clear hK;rw[if_pos (by rfl)];go_simp;simpa[upd,d11] using hK'
   ·have d9:t 9=.pointer (some ⟨h,5,none⟩):=by simpa using hdep ⟨9,.data⟩ (by simp) rfl
    have d12:t 12=.pointer (some ⟨h,0,none⟩):=by simpa using hdep ⟨12,.data⟩ (by simp) rfl
    clear hdep;have A:=plus_any h 5 h 0 y2 x2 w' ((HS4.out.el 5 _ _ _ rfl).below hx.below) ((HS4.out.el 4 _ _ _ rfl).below hx.below);have hK':∀ ww v,EV ((ev y2+ev x2)%fp) v→Below w'.heap.size w' ww→K _ ww:=fun ww v hv hb=>hK ww v (by simpa using hv) (hx.low 13 (by decide) (by decide) (by decide) (by decide) _ hb) trivial
    clear hK;rw[if_pos (by rfl)];go_simp;try simp only[d9,d12]
    refine A.mono ?_;rintro e w9 ⟨es,hk,hv,rfl,hb⟩;have hK2:=hK' w9 _ ⟨es,hk,hv,rfl⟩ hb;clear hK' A hk hv hb;go_simp;simpa[upd,d9,d12] using hK2
   ·clear hdep;have hK':=hK _ (.pointer (some ⟨w'.heap.size,0,none⟩)) (by simp[updK]) (hx.alloc1 hLi (by decide) (by decide) (by decide)) trivial;clear hK;rw[if_pos (by rfl)];go_simp;simpa[upd] using hK'
   ·clear hdep;have hK':=hK _ (.pointer (some ⟨w'.heap.size,0,none⟩)) (by simp[updK]) (hx.alloc2 hLi (by decide) (by decide) (by decide)) trivial;clear hK;rw[if_pos (by rfl)];go_simp;simpa[upd] using hK'
   ·have l14:L 14=true:=by simpa using hdep ⟨14,.data⟩ (by simp) rfl
    have f6:EV ((ev y1+ev x1)%fp) (t 6):=by simpa using hdep ⟨6,.data⟩ (by simp) rfl
    clear hdep;obtain⟨g9,zs9,e9,r9,k9⟩:=hx.get1 l14;refine f6.elim_ fun es9 ke ve ee=>?_
    have hK':∀ ww,RowW ww g9 138 es9→Wr g9 w' ww→K _ ww:=fun ww rr hw=>hK ww undef (by simp[updK]) (hx.store1 l14 e9 (by decide) (by decide) (by decide) ke ve hw rr _) trivial
    clear hK;rw[if_pos (by rfl)];refine wp_storeX (.tmp 7) (.tmp 38) rfl g9 zs9 es9 e9 ee ke k9 r9 fun ww rr hw=>?_
    have hK2:=hK' ww rr hw;clear hK';simpa[upd,Act.put] using hK2
   ·have l15:L 15=true:=by simpa using hdep ⟨15,.data⟩ (by simp) rfl
    have f13:EV ((ev y2+ev x2)%fp) (t 13):=by simpa using hdep ⟨13,.data⟩ (by simp) rfl
    clear hdep;obtain⟨g9,zs9,e9,r9,k9⟩:=hx.swap.get1 l15;refine f13.elim_ fun es9 ke ve ee=>?_
    have hK':∀ ww,RowW ww g9 138 es9→Wr g9 w' ww→K _ ww:=fun ww rr hw=>hK ww undef (by simp[updK]) (hx.store2 l15 e9 (by decide) (by decide) (by decide) ke ve hw rr _) trivial
    clear hK;rw[if_pos (by rfl)];refine wp_storeX (.tmp 8) (.tmp 45) rfl g9 zs9 es9 e9 ee ke k9 r9 fun ww rr hw=>?_
    have hK2:=hK' ww rr hw;clear hK';simpa[upd,Act.put] using hK2
  case hdone=>
   intro L t5 w5 hx hg;have l16:L 16=true:=by simpa using hg 16 (by decide)
   have l17:L 17=true:=by simpa using hg 17 (by decide)
   clear hg;obtain⟨G5a,pu,q1,qg1,qr1,qk1,qv1⟩:=hx.fin1 l16;obtain⟨G5b,qu,q2,qg2,qr2,qk2,qv2⟩:=hx.swap.fin1 l17;have qne:=hx.ne (hx.v1.1 l16) (hx.v2.1 l17) _ _ q1 q2;have HS5:Hid (RunD w w5 [(G5b,qu),(G5a,pu),(G4b,qd),(G4a,pd),(G3a,dd)] [(g,0,x1),(g,5,y1),(g,10,z1),(g,15,t1),(h,0,x2),(h,5,y2),(h,10,z2),(h,15,t2)]):=HS4.out.two hx.below qg1 qr1 qk1 qg2 qr2 qk2 qne;have HKpu:Hid (EOk pu∧ev pu=(ev y1+ev x1)%fp):=⟨qk1,qv1⟩
   have HKqu:Hid (EOk qu∧ev qu=(ev y2+ev x2)%fp):=⟨qk2,qv2⟩
   simp only[q1,q2];clear hx q1 q2 qg1 qg2 qr1 qr2 qk1 qk2 qv1 qv2 qne HS4;go_wp2_with fail;refine(times_any G4a 0 G4b 0 pd qd _ (HS5.out.re 3 _ _ rfl) (HS5.out.re 2 _ _ rfl)).mono ?_;rintro e w6 ⟨dn,hk,hv,rfl,b⟩;have HKdn:Hid (EOk dn∧ev dn=ev pd*ev qd%fp):=⟨hk,hv⟩
   have HS6:Hid (RunD w w6 [(G5b,qu),(G5a,pu),(G4b,qd),(G4a,pd),(G3a,dd)] [(g,0,x1),(g,5,y1),(g,10,z1),(g,15,t1),(h,0,x2),(h,5,y2),(h,10,z2),(h,15,t2)]):=HS5.out.call b;clear hk hv b HS5;go_wp2_with fail;refine(times_any G5a 0 G5b 0 pu qu _ (HS6.out.re 1 _ _ rfl) (HS6.out.re 0 _ _ rfl)).mono ?_;rintro e w7 ⟨up,hk,hv,rfl,b⟩;have HKup:Hid (EOk up∧ev up=ev pu*ev qu%fp):=⟨hk,hv⟩
   have HS7:Hid (RunD w w7 [(G5b,qu),(G5a,pu),(G4b,qd),(G4a,pd),(G3a,dd)] [(g,0,x1),(g,5,y1),(g,10,z1),(g,15,t1),(h,0,x2),(h,5,y2),(h,10,z2),(h,15,t2)]):=HS6.out.call b;clear hk hv b HS6;have HA8:Hid (RunD w ((w7.alloc (.cells #[.int .u64 0,.int .u64 0,.int .u64 0,.int .u64 0,.int .u64 0] 138)).alloc (.cells #[.int .u64 0,.int .u64 0,.int .u64 0,.int .u64 0,.int .u64 0] 138)) [(w7.heap.size+1,[0,0,0,0,0]),(w7.heap.size,[0,0,0,0,0]),(G5b,qu),(G5a,pu),(G4b,qd),(G4a,pd),(G3a,dd)] [(g,0,x1),(g,5,y1),(g,10,z1),(g,15,t1),(h,0,x2),(h,5,y2),(h,10,z2),(h,15,t2)]):=HS7.out.room2;clear HS7;go_wp2_with (first
    |(refine wpList_storeD HA8.out rfl (.tmp 9) (.tmp 46) rfl 1 (w7.heap.size) [0,0,0,0,0] dn rfl rfl rfl HKdn.out.1 rfl ?_)
    |fail)
   intro w9 S;have HS9:Hid (RunD w w9 [(w7.heap.size+1,[0,0,0,0,0]),(w7.heap.size,dn),(G5b,qu),(G5a,pu),(G4b,qd),(G4a,pd),(G3a,dd)] [(g,0,x1),(g,5,y1),(g,10,z1),(g,15,t1),(h,0,x2),(h,5,y2),(h,10,z2),(h,15,t2)]):=S;clear S HA8;go_wp2_with (first
    |(refine wpList_storeD HS9.out rfl (.tmp 10) (.tmp 47) rfl 0 (w7.heap.size+1) [0,0,0,0,0] up rfl rfl rfl HKup.out.1 rfl ?_)
    |fail)
   intro w10 S;have HS10:Hid (RunD w w10 [(w7.heap.size+1,up),(w7.heap.size,dn),(G5b,qu),(G5a,pu),(G4b,qd),(G4a,pd),(G3a,dd)] [(g,0,x1),(g,5,y1),(g,10,z1),(g,15,t1),(h,0,x2),(h,5,y2),(h,10,z2),(h,15,t2)]):=S;clear S HS9;generalize w7.heap.size+1=G10b at *;generalize w7.heap.size=G10a at *;go_wp2_with fail;refine wp_region_any (by kernel_rfl) ?_;refine wpAny_slots9 (fun _ _ _=>True) (frame:=(fun (a b c d e f g h i j k l m n o p q r s u v w x y z A B C D E F G H I J K L M N O P Q R S T U V W X Y Z a0 a1 a2 a3 a4 a5 a6 a7 a8 a9 b0 b1 b2 b3 b4 b5:Value)=>fun (t:Nat→Value)=>({ tmps:=List.toArray [a,b,c,d,e,f,g,h,i,j,k,t 7,l,m,n,o,p,q,r,s,u,v,w,x,y,z,A,B,C,D,E,F,G,H,I,J,K,L,M,N,O,P,Q,R,S,T,U,V,t 0,t 1,t 2,t 3,t 4,t 5,t 6,W,X,Y,Z,a0,a1,a2,a3,a4,a5,a6,a7,a8,a9,b0,b1,b2,b3,b4,b5],defers:=[] }:Act)) _ _ _ _ _ _ _ _ _ _ _ _ _ _ _ _ _ _ _ _ _ _ _ _ _ _ _ _ _ _ _ _ _ _ _ _ _ _ _ _ _ _ _ _ _ _ _ _ _ _ _ _ _ _ _ _ _ _ _ _ _ _ _ _ _ _ _)
    (Ext:=ExA w10 7 98 8 99 (ev t1*ev t2%fp) (0)) (Good:=fun i L _ v=>if i=0 then v=.pointer (some ⟨g,0,none⟩) else if i=1 then v=.pointer (some ⟨g,0,none⟩) else if i=2 then v=.pointer (some ⟨g,15,none⟩) else if i=3 then v=.pointer (some ⟨h,0,none⟩) else if i=4 then v=.pointer (some ⟨h,0,none⟩) else if i=5 then v=.pointer (some ⟨h,15,none⟩) else if i=6 then EV (ev t1*ev t2%fp) v else if i=7 then L 7=true else if i=8 then L 8=true else True) ?hstab (by kernel_rfl) ?hop ?hdone _ _ ((fun (x0 x1 x2 x3 x4 x5 x6 x7:Value)=>fun (i:Nat)=>if i=0 then x0 else if i=1 then x1 else if i=2 then x2 else if i=3 then x3 else if i=4 then x4 else if i=5 then x5 else if i=6 then x6 else if i=7 then x7 else undef) _ _ _ _ _ _ _ _) _ (by simp) ?ext ?start (by simp)
   case start=>intro i hi h;exact absurd h (by rw[Array.getD_eq_getD_getElem?,Array.getElem?_replicate];split<;>simp)
   case ext=>exact ExA.start _ _ _ (by simp) (by simp) (by simp) (by simp) ⟨rfl,rfl,rfl,Nat.le_refl _,fun _ _=>rfl⟩
   case hstab=>
    intro j L w9 w' i v _ _ _ h;by_cases h7:j=7
    ·subst h7;simp at h ⊢;unfold updK;simp[h]
    by_cases h8:j=8
    ·subst h8;simp at h ⊢;unfold updK;simp[h]
    simp only[if_neg h7,if_neg h8] at h ⊢;exact h
   case hop=>
    intro i o L t w' ho hLi hx hdep K hK;have hi:i<9:=(Array.getElem?_eq_some_iff.1 ho).1;obtain rfl|rfl|rfl|rfl|rfl|rfl|rfl|rfl|rfl:i=0∨i=1∨i=2∨i=3∨i=4∨i=5∨i=6∨i=7∨i=8:=by omega
    all_goals(simp at ho;subst ho)
    ·clear hdep;have hK':=hK w' (.pointer (some ⟨g,0,none⟩)) (by simp) (hx.low 0 (by decide) (by decide) (by decide) (by decide) _ (Below.refl _ _)) trivial;clear hK;rw[if_pos (by rfl)];go_simp;simpa[upd] using hK'
    ·have d0:t 0=.pointer (some ⟨g,0,none⟩):=by simpa using hdep ⟨0,.data⟩ (by simp) rfl
     clear hdep;have hK':=hK w' (.pointer (some ⟨g,0,none⟩)) (by simp) (hx.low 1 (by decide) (by decide) (by decide) (by decide) _ (Below.refl _ _)) trivial;clear hK;rw[if_pos (by rfl)];go_simp;simpa[upd,d0] using hK'
    ·have d1:t 1=.pointer (some ⟨g,0,none⟩):=by simpa using hdep ⟨1,.data⟩ (by simp) rfl
     clear hdep;have hK':=hK w' (.pointer (some ⟨g,15,none⟩)) (by simp) (hx.low 2 (by decide) (by decide) (by decide) (by decide) _ (Below.refl _ _)) trivial;clear hK;rw[if_pos (by rfl)];go_simp;simpa[upd,d1] using hK'
    ·clear hdep;have hK':=hK w' (.pointer (some ⟨h,0,none⟩)) (by simp) (hx.low 3 (by decide) (by decide) (by decide) (by decide) _ (Below.refl _ _)) trivial;clear hK;rw[if_pos (by rfl)];go_simp;simpa[upd] using hK'
    ·have d3:t 3=.pointer (some ⟨h,0,none⟩):=by simpa using hdep ⟨3,.data⟩ (by simp) rfl
     clear hdep;have hK':=hK w' (.pointer (some ⟨h,0,none⟩)) (by simp) (hx.low 4 (by decide) (by decide) (by decide) (by decide) _ (Below.refl _ _)) trivial;clear hK;rw[if_pos (by rfl)];go_simp;simpa[upd,d3] using hK'
    ·have d4:t 4=.pointer (some ⟨h,0,none⟩):=by simpa using hdep ⟨4,.data⟩ (by simp) rfl
     clear hdep;have hK':=hK w' (.pointer (some ⟨h,15,none⟩)) (by simp) (hx.low 5 (by decide) (by decide) (by decide) (by decide) _ (Below.refl _ _)) trivial;clear hK;rw[if_pos (by rfl)];go_simp;simpa[upd,d4] using hK'
    ·have d2:t 2=.pointer (some ⟨g,15,none⟩):=by simpa using hdep ⟨2,.data⟩ (by simp) rfl
     have d5:t 5=.pointer (some ⟨h,15,none⟩):=by simpa using hdep ⟨5,.data⟩ (by simp) rfl
     clear hdep;have A:=times_any g 15 h 15 t1 t2 w' ((HS10.out.el 3 _ _ _ rfl).below hx.below) ((HS10.out.el 7 _ _ _ rfl).below hx.below);have hK':∀ ww v,EV (ev t1*ev t2%fp) v→Below w'.heap.size w' ww→K _ ww:=fun ww v hv hb=>hK ww v (by simpa using hv) (hx.low 6 (by decide) (by decide) (by decide) (by decide) _ hb) trivial
     clear hK;rw[if_pos (by rfl)];go_simp;try simp only[d2,d5]
     refine A.mono ?_;rintro e w9 ⟨es,hk,hv,rfl,hb⟩;have hK2:=hK' w9 _ ⟨es,hk,hv,rfl⟩ hb;clear hK' A hk hv hb;go_simp;simpa[upd,d2,d5] using hK2
    ·clear hdep;have hK':=hK _ (.pointer (some ⟨w'.heap.size,0,none⟩)) (by simp[updK]) (hx.alloc1 hLi (by decide) (by decide) (by decide)) trivial;clear hK;rw[if_pos (by rfl)];go_simp;simpa[upd] using hK'
    ·have l7:L 7=true:=by simpa using hdep ⟨7,.data⟩ (by simp) rfl
     have f6:EV (ev t1*ev t2%fp) (t 6):=by simpa using hdep ⟨6,.data⟩ (by simp) rfl
     clear hdep;obtain⟨g9,zs9,e9,r9,k9⟩:=hx.get1 l7;refine f6.elim_ fun es9 ke ve ee=>?_
     have hK':∀ ww,RowW ww g9 138 es9→Wr g9 w' ww→K _ ww:=fun ww rr hw=>hK ww undef (by simp[updK]) (hx.store1 l7 e9 (by decide) (by decide) (by decide) ke ve hw rr _) trivial
     clear hK;rw[if_pos (by rfl)];refine wp_storeX (.tmp 11) (.tmp 54) rfl g9 zs9 es9 e9 ee ke k9 r9 fun ww rr hw=>?_
     have hK2:=hK' ww rr hw;clear hK';simpa[upd,Act.put] using hK2
   case hdone=>
    intro L t11 w11 hx hg;have l8:L 8=true:=by simpa using hg 8 (by decide)
    clear hg;obtain⟨G11a,cc,q1,qg1,qr1,qk1,qv1⟩:=hx.fin1 l8;have HS11:Hid (RunD w w11 [(G11a,cc),(G10b,up),(G10a,dn),(G5b,qu),(G5a,pu),(G4b,qd),(G4a,pd),(G3a,dd)] [(g,0,x1),(g,5,y1),(g,10,z1),(g,15,t1),(h,0,x2),(h,5,y2),(h,10,z2),(h,15,t2)]):=HS10.out.one hx.below qg1 qr1 qk1;have HKcc:Hid (EOk cc∧ev cc=ev t1*ev t2%fp):=⟨qk1,qv1⟩
    simp only[q1];clear hx q1 qg1 qr1 qk1 qv1 HS10;go_wp2_with fail;refine(times_any G11a 0 G3a 0 cc dd _ (HS11.out.re 0 _ _ rfl) (HS11.out.re 7 _ _ rfl)).mono ?_;rintro e w12 ⟨cd,hk,hv,rfl,b⟩;have HKcd:Hid (EOk cd∧ev cd=ev cc*ev dd%fp):=⟨hk,hv⟩
    have HS12:Hid (RunD w w12 [(G11a,cc),(G10b,up),(G10a,dn),(G5b,qu),(G5a,pu),(G4b,qd),(G4a,pd),(G3a,dd)] [(g,0,x1),(g,5,y1),(g,10,z1),(g,15,t1),(h,0,x2),(h,5,y2),(h,10,z2),(h,15,t2)]):=HS11.out.call b;clear hk hv b HS11;go_wp2_with (first
     |(refine wpList_storeD HS12.out rfl (.tmp 11) (.tmp 55) rfl 0 G11a cc cd rfl rfl rfl HKcd.out.1 rfl ?_)
     |fail)
    intro w13 S;have HS13:Hid (RunD w w13 [(G11a,cd),(G10b,up),(G10a,dn),(G5b,qu),(G5a,pu),(G4b,qd),(G4a,pd),(G3a,dd)] [(g,0,x1),(g,5,y1),(g,10,z1),(g,15,t1),(h,0,x2),(h,5,y2),(h,10,z2),(h,15,t2)]):=S;clear S HS12;go_wp2_with fail;refine wp_region_any (by kernel_rfl) ?_;refine wpAny_slots9 (fun _ _ _=>True) (frame:=(fun (a b c d e f g h i j k l m n o p q r s u v w x y z A B C D E F G H I J K L M N O P Q R S T U V W X Y Z a0 a1 a2 a3 a4 a5 a6 a7 a8 a9 b0 b1 b2 b3 b4 b5:Value)=>fun (t:Nat→Value)=>({ tmps:=List.toArray [a,b,c,d,e,f,g,h,i,j,k,l,t 7,m,n,o,p,q,r,s,u,v,w,x,y,z,A,B,C,D,E,F,G,H,I,J,K,L,M,N,O,P,Q,R,S,T,U,V,W,X,Y,Z,a0,a1,a2,a3,t 0,t 1,t 2,t 3,t 4,t 5,t 6,a4,a5,a6,a7,a8,a9,b0,b1,b2,b3,b4,b5],defers:=[] }:Act)) _ _ _ _ _ _ _ _ _ _ _ _ _ _ _ _ _ _ _ _ _ _ _ _ _ _ _ _ _ _ _ _ _ _ _ _ _ _ _ _ _ _ _ _ _ _ _ _ _ _ _ _ _ _ _ _ _ _ _ _ _ _ _ _ _ _ _)
     (Ext:=ExA w13 7 98 8 99 (ev z1*ev z2%fp) (0)) (Good:=fun i L _ v=>if i=0 then v=.pointer (some ⟨g,0,none⟩) else if i=1 then v=.pointer (some ⟨g,0,none⟩) else if i=2 then v=.pointer (some ⟨g,10,none⟩) else if i=3 then v=.pointer (some ⟨h,0,none⟩) else if i=4 then v=.pointer (some ⟨h,0,none⟩) else if i=5 then v=.pointer (some ⟨h,10,none⟩) else if i=6 then EV (ev z1*ev z2%fp) v else if i=7 then L 7=true else if i=8 then L 8=true else True) ?hstab (by kernel_rfl) ?hop ?hdone _ _ ((fun (x0 x1 x2 x3 x4 x5 x6 x7:Value)=>fun (i:Nat)=>if i=0 then x0 else if i=1 then x1 else if i=2 then x2 else if i=3 then x3 else if i=4 then x4 else if i=5 then x5 else if i=6 then x6 else if i=7 then x7 else undef) _ _ _ _ _ _ _ _) _ (by simp) ?ext ?start (by simp)
    case start=>intro i hi h;exact absurd h (by rw[Array.getD_eq_getD_getElem?,Array.getElem?_replicate];split<;>simp)
    case ext=>exact ExA.start _ _ _ (by simp) (by simp) (by simp) (by simp) ⟨rfl,rfl,rfl,Nat.le_refl _,fun _ _=>rfl⟩
    case hstab=>
     intro j L w9 w' i v _ _ _ h;by_cases h7:j=7
     ·subst h7;simp at h ⊢;unfold updK;simp[h]
     by_cases h8:j=8
     ·subst h8;simp at h ⊢;unfold updK;simp[h]
     simp only[if_neg h7,if_neg h8] at h ⊢;exact h
    case hop=>
     intro i o L t w' ho hLi hx hdep K hK;have hi:i<9:=(Array.getElem?_eq_some_iff.1 ho).1;obtain rfl|rfl|rfl|rfl|rfl|rfl|rfl|rfl|rfl:i=0∨i=1∨i=2∨i=3∨i=4∨i=5∨i=6∨i=7∨i=8:=by omega
     all_goals(simp at ho;subst ho)
     ·clear hdep;have hK':=hK w' (.pointer (some ⟨g,0,none⟩)) (by simp) (hx.low 0 (by decide) (by decide) (by decide) (by decide) _ (Below.refl _ _)) trivial;clear hK;rw[if_pos (by rfl)];go_simp;simpa[upd] using hK'
     ·have d0:t 0=.pointer (some ⟨g,0,none⟩):=by simpa using hdep ⟨0,.data⟩ (by simp) rfl
      clear hdep;have hK':=hK w' (.pointer (some ⟨g,0,none⟩)) (by simp) (hx.low 1 (by decide) (by decide) (by decide) (by decide) _ (Below.refl _ _)) trivial;clear hK;rw[if_pos (by rfl)];go_simp;simpa[upd,d0] using hK'
     ·have d1:t 1=.pointer (some ⟨g,0,none⟩):=by simpa using hdep ⟨1,.data⟩ (by simp) rfl
      clear hdep;have hK':=hK w' (.pointer (some ⟨g,10,none⟩)) (by simp) (hx.low 2 (by decide) (by decide) (by decide) (by decide) _ (Below.refl _ _)) trivial;clear hK;rw[if_pos (by rfl)];go_simp;simpa[upd,d1] using hK'
     ·clear hdep;have hK':=hK w' (.pointer (some ⟨h,0,none⟩)) (by simp) (hx.low 3 (by decide) (by decide) (by decide) (by decide) _ (Below.refl _ _)) trivial;clear hK;rw[if_pos (by rfl)];go_simp;simpa[upd] using hK'
     ·have d3:t 3=.pointer (some ⟨h,0,none⟩):=by simpa using hdep ⟨3,.data⟩ (by simp) rfl
      clear hdep;have hK':=hK w' (.pointer (some ⟨h,0,none⟩)) (by simp) (hx.low 4 (by decide) (by decide) (by decide) (by decide) _ (Below.refl _ _)) trivial;clear hK;rw[if_pos (by rfl)];go_simp;simpa[upd,d3] using hK'
     ·have d4:t 4=.pointer (some ⟨h,0,none⟩):=by simpa using hdep ⟨4,.data⟩ (by simp) rfl
      clear hdep;have hK':=hK w' (.pointer (some ⟨h,10,none⟩)) (by simp) (hx.low 5 (by decide) (by decide) (by decide) (by decide) _ (Below.refl _ _)) trivial;clear hK;rw[if_pos (by rfl)];go_simp;simpa[upd,d4] using hK'
     ·have d2:t 2=.pointer (some ⟨g,10,none⟩):=by simpa using hdep ⟨2,.data⟩ (by simp) rfl
      have d5:t 5=.pointer (some ⟨h,10,none⟩):=by simpa using hdep ⟨5,.data⟩ (by simp) rfl
      clear hdep;have A:=times_any g 10 h 10 z1 z2 w' ((HS13.out.el 2 _ _ _ rfl).below hx.below) ((HS13.out.el 6 _ _ _ rfl).below hx.below);have hK':∀ ww v,EV (ev z1*ev z2%fp) v→Below w'.heap.size w' ww→K _ ww:=fun ww v hv hb=>hK ww v (by simpa using hv) (hx.low 6 (by decide) (by decide) (by decide) (by decide) _ hb) trivial
      clear hK;rw[if_pos (by rfl)];go_simp;try simp only[d2,d5]
      refine A.mono ?_;rintro e w9 ⟨es,hk,hv,rfl,hb⟩;have hK2:=hK' w9 _ ⟨es,hk,hv,rfl⟩ hb;clear hK' A hk hv hb;go_simp;simpa[upd,d2,d5] using hK2
     ·clear hdep;have hK':=hK _ (.pointer (some ⟨w'.heap.size,0,none⟩)) (by simp[updK]) (hx.alloc1 hLi (by decide) (by decide) (by decide)) trivial;clear hK;rw[if_pos (by rfl)];go_simp;simpa[upd] using hK'
     ·have l7:L 7=true:=by simpa using hdep ⟨7,.data⟩ (by simp) rfl
      have f6:EV (ev z1*ev z2%fp) (t 6):=by simpa using hdep ⟨6,.data⟩ (by simp) rfl
      clear hdep;obtain⟨g9,zs9,e9,r9,k9⟩:=hx.get1 l7;refine f6.elim_ fun es9 ke ve ee=>?_
      have hK':∀ ww,RowW ww g9 138 es9→Wr g9 w' ww→K _ ww:=fun ww rr hw=>hK ww undef (by simp[updK]) (hx.store1 l7 e9 (by decide) (by decide) (by decide) ke ve hw rr _) trivial
      clear hK;rw[if_pos (by rfl)];refine wp_storeX (.tmp 12) (.tmp 62) rfl g9 zs9 es9 e9 ee ke k9 r9 fun ww rr hw=>?_
      have hK2:=hK' ww rr hw;clear hK';simpa[upd,Act.put] using hK2
    case hdone=>
     intro L t14 w14 hx hg;have l8:L 8=true:=by simpa using hg 8 (by decide)
     clear hg;obtain⟨G14a,zz,q1,qg1,qr1,qk1,qv1⟩:=hx.fin1 l8;have HS14:Hid (RunD w w14 [(G14a,zz),(G11a,cd),(G10b,up),(G10a,dn),(G5b,qu),(G5a,pu),(G4b,qd),(G4a,pd),(G3a,dd)] [(g,0,x1),(g,5,y1),(g,10,z1),(g,15,t1),(h,0,x2),(h,5,y2),(h,10,z2),(h,15,t2)]):=HS13.out.one hx.below qg1 qr1 qk1;have HKzz:Hid (EOk zz∧ev zz=ev z1*ev z2%fp):=⟨qk1,qv1⟩
     simp only[q1];clear hx q1 qg1 qr1 qk1 qv1 HS13;go_wp2_with fail;refine(plus_any G14a 0 G14a 0 zz zz _ (HS14.out.re 0 _ _ rfl) (HS14.out.re 0 _ _ rfl)).mono ?_;rintro e w15 ⟨gg,hk,hv,rfl,b⟩;have HKgg:Hid (EOk gg∧ev gg=(ev zz+ev zz)%fp):=⟨hk,hv⟩
     have HS15:Hid (RunD w w15 [(G14a,zz),(G11a,cd),(G10b,up),(G10a,dn),(G5b,qu),(G5a,pu),(G4b,qd),(G4a,pd),(G3a,dd)] [(g,0,x1),(g,5,y1),(g,10,z1),(g,15,t1),(h,0,x2),(h,5,y2),(h,10,z2),(h,15,t2)]):=HS14.out.call b;clear hk hv b HS14;go_wp2_with (first
      |(refine wpList_storeD HS15.out rfl (.tmp 12) (.tmp 63) rfl 0 G14a zz gg rfl rfl rfl HKgg.out.1 rfl ?_)
      |fail)
     intro w16 S;have HS16:Hid (RunD w w16 [(G14a,gg),(G11a,cd),(G10b,up),(G10a,dn),(G5b,qu),(G5a,pu),(G4b,qd),(G4a,pd),(G3a,dd)] [(g,0,x1),(g,5,y1),(g,10,z1),(g,15,t1),(h,0,x2),(h,5,y2),(h,10,z2),(h,15,t2)]):=S;clear S HS15;go_wp2_with fail;refine(minus_any G10b 0 G10a 0 up dn _ (HS16.out.re 2 _ _ rfl) (HS16.out.re 3 _ _ rfl)).mono ?_;rintro e w17 ⟨ee,hk,hv,rfl,b⟩;have HKee:Hid (EOk ee∧ev ee=(ev up-ev dn)%fp):=⟨hk,hv⟩
     have HS17:Hid (RunD w w17 [(G14a,gg),(G11a,cd),(G10b,up),(G10a,dn),(G5b,qu),(G5a,pu),(G4b,qd),(G4a,pd),(G3a,dd)] [(g,0,x1),(g,5,y1),(g,10,z1),(g,15,t1),(h,0,x2),(h,5,y2),(h,10,z2),(h,15,t2)]):=HS16.out.call b;clear hk hv b HS16;go_wp2_with fail;refine(minus_any G14a 0 G11a 0 gg cd _ (HS17.out.re 0 _ _ rfl) (HS17.out.re 1 _ _ rfl)).mono ?_;rintro e w18 ⟨ff,hk,hv,rfl,b⟩;have HKff:Hid (EOk ff∧ev ff=(ev gg-ev cd)%fp):=⟨hk,hv⟩
     have HS18:Hid (RunD w w18 [(G14a,gg),(G11a,cd),(G10b,up),(G10a,dn),(G5b,qu),(G5a,pu),(G4b,qd),(G4a,pd),(G3a,dd)] [(g,0,x1),(g,5,y1),(g,10,z1),(g,15,t1),(h,0,x2),(h,5,y2),(h,10,z2),(h,15,t2)]):=HS17.out.call b;clear hk hv b HS17;have HA19:Hid (RunD w ((w18.alloc (.cells #[.int .u64 0,.int .u64 0,.int .u64 0,.int .u64 0,.int .u64 0] 138)).alloc (.cells #[.int .u64 0,.int .u64 0,.int .u64 0,.int .u64 0,.int .u64 0] 138)) [(w18.heap.size+1,[0,0,0,0,0]),(w18.heap.size,[0,0,0,0,0]),(G14a,gg),(G11a,cd),(G10b,up),(G10a,dn),(G5b,qu),(G5a,pu),(G4b,qd),(G4a,pd),(G3a,dd)] [(g,0,x1),(g,5,y1),(g,10,z1),(g,15,t1),(h,0,x2),(h,5,y2),(h,10,z2),(h,15,t2)]):=HS18.out.room2;clear HS18;go_wp2_with (first
      |(refine wpList_storeD HA19.out rfl (.tmp 13) (.tmp 64) rfl 1 (w18.heap.size) [0,0,0,0,0] ee rfl rfl rfl HKee.out.1 rfl ?_)
      |fail)
     intro w20 S;have HS20:Hid (RunD w w20 [(w18.heap.size+1,[0,0,0,0,0]),(w18.heap.size,ee),(G14a,gg),(G11a,cd),(G10b,up),(G10a,dn),(G5b,qu),(G5a,pu),(G4b,qd),(G4a,pd),(G3a,dd)] [(g,0,x1),(g,5,y1),(g,10,z1),(g,15,t1),(h,0,x2),(h,5,y2),(h,10,z2),(h,15,t2)]):=S;clear S HA19;go_wp2_with (first
      |(refine wpList_storeD HS20.out rfl (.tmp 14) (.tmp 65) rfl 0 (w18.heap.size+1) [0,0,0,0,0] ff rfl rfl rfl HKff.out.1 rfl ?_)
      |fail)
     intro w21 S;have HS21:Hid (RunD w w21 [(w18.heap.size+1,ff),(w18.heap.size,ee),(G14a,gg),(G11a,cd),(G10b,up),(G10a,dn),(G5b,qu),(G5a,pu),(G4b,qd),(G4a,pd),(G3a,dd)] [(g,0,x1),(g,5,y1),(g,10,z1),(g,15,t1),(h,0,x2),(h,5,y2),(h,10,z2),(h,15,t2)]):=S;clear S HS20;generalize w18.heap.size+1=G21b at *;generalize w18.heap.size=G21a at *;go_wp2_with fail;refine(plus_any G14a 0 G11a 0 gg cd _ (HS21.out.re 2 _ _ rfl) (HS21.out.re 3 _ _ rfl)).mono ?_;rintro e w22 ⟨hh,hk,hv,rfl,b⟩;have HKhh:Hid (EOk hh∧ev hh=(ev gg+ev cd)%fp):=⟨hk,hv⟩
     have HS22:Hid (RunD w w22 [(G21b,ff),(G21a,ee),(G14a,gg),(G11a,cd),(G10b,up),(G10a,dn),(G5b,qu),(G5a,pu),(G4b,qd),(G4a,pd),(G3a,dd)] [(g,0,x1),(g,5,y1),(g,10,z1),(g,15,t1),(h,0,x2),(h,5,y2),(h,10,z2),(h,15,t2)]):=HS21.out.call b;clear hk hv b HS21;go_wp2_with fail;refine(plus_any G10b 0 G10a 0 up dn _ (HS22.out.re 4 _ _ rfl) (HS22.out.re 5 _ _ rfl)).mono ?_;rintro e w23 ⟨kk,hk,hv,rfl,b⟩;have HKkk:Hid (EOk kk∧ev kk=(ev up+ev dn)%fp):=⟨hk,hv⟩
     have HS23:Hid (RunD w w23 [(G21b,ff),(G21a,ee),(G14a,gg),(G11a,cd),(G10b,up),(G10a,dn),(G5b,qu),(G5a,pu),(G4b,qd),(G4a,pd),(G3a,dd)] [(g,0,x1),(g,5,y1),(g,10,z1),(g,15,t1),(h,0,x2),(h,5,y2),(h,10,z2),(h,15,t2)]):=HS22.out.call b;clear hk hv b HS22;have HA24:Hid (RunD w ((w23.alloc (.cells #[.int .u64 0,.int .u64 0,.int .u64 0,.int .u64 0,.int .u64 0] 138)).alloc (.cells #[.int .u64 0,.int .u64 0,.int .u64 0,.int .u64 0,.int .u64 0] 138)) [(w23.heap.size+1,[0,0,0,0,0]),(w23.heap.size,[0,0,0,0,0]),(G21b,ff),(G21a,ee),(G14a,gg),(G11a,cd),(G10b,up),(G10a,dn),(G5b,qu),(G5a,pu),(G4b,qd),(G4a,pd),(G3a,dd)] [(g,0,x1),(g,5,y1),(g,10,z1),(g,15,t1),(h,0,x2),(h,5,y2),(h,10,z2),(h,15,t2)]):=HS23.out.room2;clear HS23;go_wp2_with (first
      |(refine wpList_storeD HA24.out rfl (.tmp 15) (.tmp 66) rfl 1 (w23.heap.size) [0,0,0,0,0] hh rfl rfl rfl HKhh.out.1 rfl ?_)
      |fail)
     intro w25 S;have HS25:Hid (RunD w w25 [(w23.heap.size+1,[0,0,0,0,0]),(w23.heap.size,hh),(G21b,ff),(G21a,ee),(G14a,gg),(G11a,cd),(G10b,up),(G10a,dn),(G5b,qu),(G5a,pu),(G4b,qd),(G4a,pd),(G3a,dd)] [(g,0,x1),(g,5,y1),(g,10,z1),(g,15,t1),(h,0,x2),(h,5,y2),(h,10,z2),(h,15,t2)]):=S;clear S HA24;go_wp2_with (first
      |(refine wpList_storeD HS25.out rfl (.tmp 16) (.tmp 67) rfl 0 (w23.heap.size+1) [0,0,0,0,0] kk rfl rfl rfl HKkk.out.1 rfl ?_)
      |fail)
     intro w26 S;have HS26:Hid (RunD w w26 [(w23.heap.size+1,kk),(w23.heap.size,hh),(G21b,ff),(G21a,ee),(G14a,gg),(G11a,cd),(G10b,up),(G10a,dn),(G5b,qu),(G5a,pu),(G4b,qd),(G4a,pd),(G3a,dd)] [(g,0,x1),(g,5,y1),(g,10,z1),(g,15,t1),(h,0,x2),(h,5,y2),(h,10,z2),(h,15,t2)]):=S;clear S HS25;generalize w23.heap.size+1=G26b at *;generalize w23.heap.size=G26a at *;go_wp2_with fail;refine(times_any G21a 0 G21b 0 ee ff _ (HS26.out.re 3 _ _ rfl) (HS26.out.re 2 _ _ rfl)).mono ?_;rintro e w27 ⟨X,hk,hv,rfl,b⟩;have HKX:Hid (EOk X∧ev X=ev ee*ev ff%fp):=⟨hk,hv⟩
     have HS27:Hid (RunD w w27 [(G26b,kk),(G26a,hh),(G21b,ff),(G21a,ee),(G14a,gg),(G11a,cd),(G10b,up),(G10a,dn),(G5b,qu),(G5a,pu),(G4b,qd),(G4a,pd),(G3a,dd)] [(g,0,x1),(g,5,y1),(g,10,z1),(g,15,t1),(h,0,x2),(h,5,y2),(h,10,z2),(h,15,t2)]):=HS26.out.call b;clear hk hv b HS26;go_wp2_with fail;refine(times_any G26a 0 G26b 0 hh kk _ (HS27.out.re 1 _ _ rfl) (HS27.out.re 0 _ _ rfl)).mono ?_;rintro e w28 ⟨Y,hk,hv,rfl,b⟩;have HKY:Hid (EOk Y∧ev Y=ev hh*ev kk%fp):=⟨hk,hv⟩
     have HS28:Hid (RunD w w28 [(G26b,kk),(G26a,hh),(G21b,ff),(G21a,ee),(G14a,gg),(G11a,cd),(G10b,up),(G10a,dn),(G5b,qu),(G5a,pu),(G4b,qd),(G4a,pd),(G3a,dd)] [(g,0,x1),(g,5,y1),(g,10,z1),(g,15,t1),(h,0,x2),(h,5,y2),(h,10,z2),(h,15,t2)]):=HS27.out.call b;clear hk hv b HS27;go_wp2_with fail;refine(times_any G21b 0 G26a 0 ff hh _ (HS28.out.re 2 _ _ rfl) (HS28.out.re 1 _ _ rfl)).mono ?_;rintro e w29 ⟨Z,hk,hv,rfl,b⟩;have HKZ:Hid (EOk Z∧ev Z=ev ff*ev hh%fp):=⟨hk,hv⟩
     have HS29:Hid (RunD w w29 [(G26b,kk),(G26a,hh),(G21b,ff),(G21a,ee),(G14a,gg),(G11a,cd),(G10b,up),(G10a,dn),(G5b,qu),(G5a,pu),(G4b,qd),(G4a,pd),(G3a,dd)] [(g,0,x1),(g,5,y1),(g,10,z1),(g,15,t1),(h,0,x2),(h,5,y2),(h,10,z2),(h,15,t2)]):=HS28.out.call b;clear hk hv b HS28;go_wp2_with fail;refine(times_any G21a 0 G26b 0 ee kk _ (HS29.out.re 3 _ _ rfl) (HS29.out.re 0 _ _ rfl)).mono ?_;rintro e w30 ⟨T,hk,hv,rfl,b⟩;have HKT:Hid (EOk T∧ev T=ev ee*ev kk%fp):=⟨hk,hv⟩
     have HS30:Hid (RunD w w30 [(G26b,kk),(G26a,hh),(G21b,ff),(G21a,ee),(G14a,gg),(G11a,cd),(G10b,up),(G10a,dn),(G5b,qu),(G5a,pu),(G4b,qd),(G4a,pd),(G3a,dd)] [(g,0,x1),(g,5,y1),(g,10,z1),(g,15,t1),(h,0,x2),(h,5,y2),(h,10,z2),(h,15,t2)]):=HS29.out.call b;clear hk hv b HS29;obtain⟨X0,X1,X2,X3,X4,rfl⟩:=len5 HKX.out.1.1;obtain⟨Y0,Y1,Y2,Y3,Y4,rfl⟩:=len5 HKY.out.1.1;obtain⟨Z0,Z1,Z2,Z3,Z4,rfl⟩:=len5 HKZ.out.1.1;obtain⟨T0,T1,T2,T3,T4,rfl⟩:=len5 HKT.out.1.1;have HPL:Hid (RowW w30 g 140 (pl x1 y1 z1 t1)):=HPT.out.row.below HS30.out.below HPT.out.row.lt;have HPX:Hid ((pl x1 y1 z1 t1).length=20):=by show _=_;unfold pl;simp[HPT.out.x.1,HPT.out.y.1,HPT.out.z.1,HPT.out.t.1]
     go_wp2_with (first
      |(refine wpList_storeP rfl (.tmp 74) (.tmp 73) rfl g [X0,X1,X2,X3,X4] [Y0,Y1,Y2,Y3,Y4] [Z0,Z1,Z2,Z3,Z4] [T0,T1,T2,T3,T4] _ rfl rfl HKX.out.1 HKY.out.1 HKZ.out.1 HKT.out.1 HPX.out HPL.out ?_)
      |fail)
     intro wz hpt hwz;have HF:Hid (AddP w g (ev x1) (ev y1) (ev z1) (ev t1) (ev x2) (ev y2) (ev z2) (ev t2) (.returned (.tuple #[])) wz):=by
      refine⟨[X0,X1,X2,X3,X4],[Y0,Y1,Y2,Y3,Y4],[Z0,Z1,Z2,Z3,Z4],[T0,T1,T2,T3,T4],hpt,(WrH.of_below HS30.out.below).trans ⟨hwz.os,hwz.tape,hwz.output,by rw[hwz.size];exact Nat.le_refl _,fun k _ hk=>hwz.block k hk⟩,rfl,?_⟩;have eA:ev dn=smA (ev x1) (ev y1) (ev x2) (ev y2):=by rw[HKdn.out.2,HKpd.out.2,HKqd.out.2];rfl
      have eB:ev up=smB (ev x1) (ev y1) (ev x2) (ev y2):=by rw[HKup.out.2,HKpu.out.2,HKqu.out.2];rfl
      have eC:ev cd=smC mdD (ev t1) (ev t2):=by rw[HKcd.out.2,HKcc.out.2,HKdd.out.2,twoD,eq_C]
      have eG:ev gg=smG (ev z1) (ev z2):=by rw[HKgg.out.2,HKzz.out.2,eq_G]
      refine⟨?_,?_,?_,?_⟩
      ·rw[HKX.out.2,HKee.out.2,HKff.out.2,eA,eB,eC,eG]
      ·rw[HKY.out.2,HKhh.out.2,HKkk.out.2,eA,eB,eC,eG]
      ·rw[HKZ.out.2,HKff.out.2,HKhh.out.2,eC,eG]
      ·rw[HKT.out.2,HKee.out.2,HKkk.out.2,eA,eB]
     clear hpt hwz HPL HPX HPT HS30;go_wp2
     go_end0
     exact HF.out
theorem nm_or (x y s q:Int) (k:Nat) (hx:0≤x) (hk:x<2^k) (hx':x<18446744073709551616) (hq:0≤q) (hq':q*2^k<18446744073709551616) (hs:IntKind.u64.wrap (y*s)=q*2^k) :
  bits .or .u64 x (IntKind.u64.wrap (y*s))=x+q*2^k:=by
 rw[hs];have hp:(0:Int)<2^k:=Int.pow_pos (by decide);exact u64_or_add' (q*2^k) x k (Int.mul_nonneg hq (by omega)) hq' hx hk hx' q rfl
theorem nm_0 (a b:Int) (ha:0≤a) (ha':a<2251799813685248) (hb:0≤b) (hb':b<2251799813685248):bits .or .u64 a (IntKind.u64.wrap (b*2251799813685248))=a+b%8192*2251799813685248:=
 nm_or a b 2251799813685248 (b%8192) 51 ha (by show a<2251799813685248;omega) (by omega) (by omega) (by show b%8192*2251799813685248<_;omega) (by rw[IntKind.wrap_u64];show _=b%8192*2251799813685248;omega)
theorem nm_1 (b c:Int) (ha:0≤b) (ha':b<2251799813685248) (hb:0≤c) (hb':c<2251799813685248):bits .or .u64 (b/8192) (IntKind.u64.wrap (c*274877906944))=b/8192+c%67108864*274877906944:=
 nm_or (b/8192) c 274877906944 (c%67108864) 38 (by omega) (by show b/8192<274877906944;omega) (by omega) (by omega) (by show c%67108864*274877906944<_;omega) (by rw[IntKind.wrap_u64];show _=c%67108864*274877906944;omega)
theorem nm_2 (c d:Int) (ha:0≤c) (ha':c<2251799813685248) (hb:0≤d) (hb':d<2251799813685248):bits .or .u64 (c/67108864) (IntKind.u64.wrap (d*33554432))=c/67108864+d%549755813888*33554432:=
 nm_or (c/67108864) d 33554432 (d%549755813888) 25 (by omega) (by show c/67108864<33554432;omega) (by omega) (by omega) (by show d%549755813888*33554432<_;omega) (by rw[IntKind.wrap_u64];show _=d%549755813888*33554432;omega)
theorem nm_3 (d e:Int) (ha:0≤d) (ha':d<2251799813685248) (hb:0≤e) (hb':e<2251799813685248):bits .or .u64 (d/549755813888) (IntKind.u64.wrap (e*4096))=d/549755813888+e*4096:=
 nm_or (d/549755813888) e 4096 e 12 (by omega) (by show d/549755813888<4096;omega) (by omega) (by omega) (by show e*4096<_;omega) (by rw[IntKind.wrap_u64];show _=e*4096;omega)
theorem nm_val (a b c d e:Int) (a0:0≤a) (a1:a<2251799813685248) (b0:0≤b) (b1:b<2251799813685248) (c0:0≤c) (c1:c<2251799813685248) (d0:0≤d) (d1:d<2251799813685248) (e0:0≤e) (e1:e<2251799813685248) :
  Wrd [a+b%8192*2251799813685248,b/8192+c%67108864*274877906944,c/67108864+d%549755813888*33554432,d/549755813888+e*4096]∧
  val 18446744073709551616 [a+b%8192*2251799813685248,b/8192+c%67108864*274877906944,c/67108864+d%549755813888*33554432,d/549755813888+e*4096]=val B51 [a,b,c,d,e]:=by
 constructor
 ·intro z hz;simp only[List.mem_cons,List.not_mem_nil,or_false] at hz;rcases hz with rfl|rfl|rfl|rfl<;>omega
 ·simp only[val];unfold B51;omega
set_option maxHeartbeats 2000000 in
theorem number_any (g o:Nat) (xs:List Int) (w:World) (h:EAt w g o xs) :
  Calls Tryz.prog 142 #[.pointer (some ⟨g,o,none⟩)] w (NumPost w (ev xs)):=by
 have hk:=h.2.1;have hv:=(lsE_all hk).2.2;have hbd:=sst_bd (xs.set 0 (xs.getD 0 0+19*lsT xs));obtain⟨a,b,c,d,e,hl⟩:=len5 (lsE_len xs);have q0:=hbd 0;have q1:=hbd 1;have q2:=hbd 2;have q3:=hbd 3;have q4:=hbd 4;rw[show sst (xs.set 0 (xs.getD 0 0+19*lsT xs)) 5=[a,b,c,d,e] from hl] at q0 q1 q2 q3 q4;simp only[List.getD_cons_zero,List.getD_cons_succ] at q0 q1 q2 q3 q4;obtain⟨a0,a1⟩:=q0;obtain⟨b0,b1⟩:=q1;obtain⟨c0,c1⟩:=q2;obtain⟨d0,d1⟩:=q3;obtain⟨e0,e1⟩:=q4;rw[hl] at hv;have HV:=nm_val a b c d e a0 a1 b0 b1 c0 c1 d0 d1 e0 e1;rw[hv] at HV;have H0:Hid (bits .or .u64 a (IntKind.u64.wrap (b*2251799813685248))=a+b%8192*2251799813685248):=nm_0 a b a0 a1 b0 b1;have H1:Hid (bits .or .u64 (b/8192) (IntKind.u64.wrap (c*274877906944))=b/8192+c%67108864*274877906944):=nm_1 b c b0 b1 c0 c1;have H2:Hid (bits .or .u64 (c/67108864) (IntKind.u64.wrap (d*33554432))=c/67108864+d%549755813888*33554432):=nm_2 c d c0 c1 d0 d1;have H3:Hid (bits .or .u64 (d/549755813888) (e*4096)=d/549755813888+e*4096):=by
  have h3:=nm_3 d e d0 d1 e0 e1;rw[show IntKind.u64.wrap (e*4096)=e*4096 by rw[IntKind.wrap_u64];omega] at h3;exact h3
 have bw:Below w.heap.size w (w.alloc (.cells #[.int .u64 0,.int .u64 0,.int .u64 0,.int .u64 0] 143)):=below_new2 _ _;have h0:=h.below bw;have HR0:(w.alloc (.cells #[.int .u64 0,.int .u64 0,.int .u64 0,.int .u64 0] 143)).heap[w.heap.size]?=some (.cells #[.int .u64 0,.int .u64 0,.int .u64 0,.int .u64 0] 143 (0,0)):=heap_alloc_new w _;have hs0:w.heap.size<(w.alloc (.cells #[.int .u64 0,.int .u64 0,.int .u64 0,.int .u64 0] 143)).heap.size:=by simp
 have HVV:Hid (Wrd [a+b%8192*2251799813685248,b/8192+c%67108864*274877906944,c/67108864+d%549755813888*33554432,d/549755813888+e*4096]∧val 18446744073709551616 [a+b%8192*2251799813685248,b/8192+c%67108864*274877906944,c/67108864+d%549755813888*33554432,d/549755813888+e*4096]=ev xs):=HV;clear HV hv hbd hk h;go_enter Tryz.func142,Tryz.ntmps142;go_wp2_with fail;generalize w.alloc (.cells #[.int .u64 0,.int .u64 0,.int .u64 0,.int .u64 0] 143)=w0 at *;refine(leastE_any g o xs _ h0).mono ?_;rintro e' w1 ⟨rfl,hb⟩;rw[hl];have HR1:Hid (w1.heap[w.heap.size]?=some (.cells #[.int .u64 0,.int .u64 0,.int .u64 0,.int .u64 0] 143 (0,0))):=by show _=_;rw[hb.block _ hs0];exact HR0
 have HB1:Hid (Below w.heap.size w w1):=bw.trans (hb.mono bw.size);have hs1:w.heap.size<w1.heap.size:=by have:=hb.size;omega
 clear hb h0 HR0 hs0 bw hl;have HR2:Hid ((w1.alloc (.cells #[.int .u64 a,.int .u64 b,.int .u64 c,.int .u64 d,.int .u64 e] 138)).heap[w.heap.size]?=some (.cells #[.int .u64 0,.int .u64 0,.int .u64 0,.int .u64 0] 143 (0,0))):=by show _=_;rw[Below.heap_alloc _ _ w.heap.size hs1];exact HR1.out
 have HB2:Hid (Below w.heap.size w (w1.alloc (.cells #[.int .u64 a,.int .u64 b,.int .u64 c,.int .u64 d,.int .u64 e] 138))):=HB1.out.trans ((below_new2 _ _).mono HB1.out.size);have HSZ:Hid ((Tryz.prog.info? 143).map (·.size)=some 4):=by show _=_;kernel_rfl
 simp only[List.map_cons,List.map_nil];go_wp2_with (first
  |(refine wpList_store_row rfl 143 (.tmp 2) (.tmp 33) rfl w.heap.size #[.int .u64 (bits .or .u64 a (IntKind.u64.wrap (b*2251799813685248))),.int .u64 (bits .or .u64 (b/8192) (IntKind.u64.wrap (c*274877906944))),.int .u64 (bits .or .u64 (c/67108864) (IntKind.u64.wrap (d*33554432))),.int .u64 (bits .or .u64 (d/549755813888) (e*4096))] rfl rfl 143 _ HR2.out HSZ.out rfl (by simp[Value.oneCell']) ?_)
  |fail)
 refine bodyPost_ret (v:=.agg #[.int .u64 (bits .or .u64 a (IntKind.u64.wrap (b*2251799813685248))),.int .u64 (bits .or .u64 (b/8192) (IntKind.u64.wrap (c*274877906944))),.int .u64 (bits .or .u64 (c/67108864) (IntKind.u64.wrap (d*33554432))),.int .u64 (bits .or .u64 (d/549755813888) (e*4096))]) (results_cell_row rfl _ _ w.heap.size 143 _ (0,0) _ rfl (setRow_heap _ _ _ _ _ _ HR2.out) Tryz.underlying143 rfl HSZ.out) rfl ?_;refine⟨[a+b%8192*2251799813685248,b/8192+c%67108864*274877906944,c/67108864+d%549755813888*33554432,d/549755813888+e*4096],rfl,HVV.out.1,HVV.out.2,?_,HB2.out.trans ((Wr.setRow _ _ _).below (Nat.le_refl _))⟩;rw[H0.out,H1.out,H2.out,H3.out];rfl
def top255:Int:=57896044618658097711785492504343953926634992332820282019728792003956564819968
def cdV (X Y Z:Int):Int:=Y*inv0 Z%fp+top255*(X*inv0 Z%fp%2)
theorem pair_val (bs:List Int) (d:Int) (k:Nat) (h:bs.length=2*k):val 256 (bs++[d%256,d/256])=val 256 bs+d*65536^k:=by
 rw[val_append,h];have e:(256:Int)^(2*k)=65536^k:=by rw[Int.pow_mul,show(256:Int)^2=65536 from by decide]
 rw[e];simp only[val];have:d%256+256*(d/256)=d:=Int.emod_add_mul_ediv _ _;have e2:d%256+256*(d/256+256*0)=d:=by omega
 rw[e2,Int.mul_comm]
structure BYS (w w5:World) (zs:List Int) (k:Nat) (v:Value) (wr:World):Prop where
 st:∃ bs:List Int,Own wr w5.heap.size v bs∧bs.length=2*k∧Byte bs∧val 256 bs=val 65536 (zs.take k)
 below:Below w5.heap.size w5 wr
def CodeP (w:World) (x:Int) (e:Ending) (w':World):Prop:=
 ∃ v bs,e=.returned v∧Own w' w.heap.size v bs∧Byte bs∧bs.length=32∧val 256 bs=x∧Below w.heap.size w w'
theorem Own.lower3 {w:World} {B B':Nat} {v:Value} {zs:List Int} (h:Own w B' v zs) (hB:B≤B'):Own w B v zs:=by
 obtain⟨⟨h1,h2⟩,h3⟩:=h;refine⟨⟨h1,?_⟩,h3⟩;rcases h2 with h|⟨g,c,cur,h4,h5,h6⟩
 ·exact .inl h
 ·exact .inr ⟨g,c,cur,h4,by omega,h6⟩
theorem code_set (bs:List Int) (hl:bs.length=32) (hb:Byte bs) (V p:Int) (hv:val 256 bs=V) (hV:V<top255) (hp:p=0∨p=1) :
  0≤bs.getD 31 0∧bs.getD 31 0<128∧val 256 (bs.set 31 (bs.getD 31 0+128*p))=V+top255*p∧Byte (bs.set 31 (bs.getD 31 0+128*p)):=by
 have h31:=hb.get 31;have hd:=val_digit (B:=256) (by decide) (fun z hz=>hb z hz) 31;rw[hv] at hd;have hV0:0≤V:=by rw[←hv];exact val_nonneg (by decide) (fun z hz=>hb z hz)
 have e31:(256:Int)^31=452312848583266388373324160190187140051835877600158453279131187530910662656:=by decide
 have hlt:bs.getD 31 0<128:=by
  rw[←hd,e31];unfold top255 at hV;omega
 refine⟨h31.1,hlt,?_,?_⟩
 ·rw[val_set 256 bs 31 _ (by omega),hv,e31];unfold top255;rcases hp with rfl|rfl<;>omega
 ·intro z hz;rcases List.mem_or_eq_of_mem_set hz with h|h
  ·exact hb z h
  ·omega
set_option maxRecDepth 100000 in
set_option maxHeartbeats 4000000 in
theorem code_any (a0 a1 a2 a3:Option Addr) (c0 c1 c2 c3:Nat) (X Y Z:Int) (w:World) (hx:FeA w a0 X) (hy:FeA w a1 Y) (hz:FeA w a2 Z) :
  Calls Tryz.prog 79 #[.agg #[.slice a0 16 c0,.slice a1 16 c1,.slice a2 16 c2,.slice a3 16 c3]] w (CodeP w (cdV X Y Z)):=by
 have bb:Below w.heap.size w (w.alloc (.cells #[.slice a0 16 c0,.slice a1 16 c1,.slice a2 16 c2,.slice a3 16 c3] 109)):=below_new3 _ _;have HP:Hid (PtW (w.alloc (.cells #[.slice a0 16 c0,.slice a1 16 c1,.slice a2 16 c2,.slice a3 16 c3] 109)) w.heap.size #[.slice a0 16 c0,.slice a1 16 c1,.slice a2 16 c2,.slice a3 16 c3]):=heap_alloc_new w _;have SRK:Hid (SR w (w.alloc (.cells #[.slice a0 16 c0,.slice a1 16 c1,.slice a2 16 c2,.slice a3 16 c3] 109)) [(a0,X),(a1,Y),(a2,Z)]):=⟨bb,fun e he=>by
  simp only[List.mem_cons,List.not_mem_nil,or_false] at he;rcases he with rfl|rfl|rfl
  ·exact hx.below bb
  ·exact hy.below bb
  ·exact hz.below bb⟩
 clear bb hx hy hz;have k2:=HP.out.c2;go_enter Tryz.func79,Tryz.ntmps79;go_wp2_with fail;generalize (w.alloc (.cells #[.slice a0 16 c0,.slice a1 16 c1,.slice a2 16 c2,.slice a3 16 c3] 109))=w0 at *;refine(pow0_any _ c2 Z _ (SRK.out.at 2 _ _ rfl)).mono ?_;rintro e w1 ⟨g1,k1,rfl,hk1,hl1,hf,hb⟩;have HP1:Hid (PtW w1 w.heap.size #[.slice a0 16 c0,.slice a1 16 c1,.slice a2 16 c2,.slice a3 16 c3]):=HP.out.below hb HP.out.lt;have SRK1:Hid (SR w w1 [(a0,X),(a1,Y),(a2,Z),(some ⟨g1,0,none⟩,inv0 Z)]):=SRK.out.more hb hf;clear hf hb HP SRK hk1 hl1 k2;have k0:=HP1.out.c0;go_wp2_with fail;refine(fmul_any _ _ c0 k1 _ _ _ (SRK1.out.at 0 _ _ rfl) (SRK1.out.at 3 _ _ rfl)).mono ?_;rintro e w2 ⟨g2,kk2,rfl,hk1,hl1,hf,hb⟩;have HP2:Hid (PtW w2 w.heap.size #[.slice a0 16 c0,.slice a1 16 c1,.slice a2 16 c2,.slice a3 16 c3]):=HP1.out.below hb HP1.out.lt;have SRK2:Hid (SR w w2 [(a0,X),(a1,Y),(a2,Z),(some ⟨g1,0,none⟩,inv0 Z),(some ⟨g2,0,none⟩,X*inv0 Z%fp)]):=SRK1.out.more hb hf;clear hf hb HP1 SRK1 hk1 hl1 k0;go_wp2_with fail;refine(least_any _ kk2 _ _ (SRK2.out.at 4 _ _ rfl)).mono ?_;rintro e w3 ⟨gx,cx,rfl,hgx,hgx',hlx,hb⟩;have HP3:Hid (PtW w3 w.heap.size #[.slice a0 16 c0,.slice a1 16 c1,.slice a2 16 c2,.slice a3 16 c3]):=HP2.out.below hb HP2.out.lt;have SRK3:Hid (SR w w3 [(a0,X),(a1,Y),(a2,Z),(some ⟨g1,0,none⟩,inv0 Z),(some ⟨g2,0,none⟩,X*inv0 Z%fp)]):=SRK2.out.low hb;have HLX:Hid (LsA w3 (some ⟨gx,0,none⟩) (X*inv0 Z%fp)):=hlx;clear hb HP2 SRK2 hgx hlx;have k1':=HP3.out.c1;go_wp2_with fail;refine(fmul_any _ _ c1 k1 _ _ _ (SRK3.out.at 1 _ _ rfl) (SRK3.out.at 3 _ _ rfl)).mono ?_;rintro e w4 ⟨g4,k4,rfl,hk1,hl1,hf,hb⟩;have HLX4:Hid (LsA w4 (some ⟨gx,0,none⟩) (X*inv0 Z%fp)):=HLX.out.below hb;have HS4:Hid (Below w.heap.size w w4):=SRK3.out.below.trans (hb.mono SRK3.out.below.size);have HF4:Hid (FeA w4 (some ⟨g4,0,none⟩) (Y*inv0 Z%fp)):=hf;have hgx4:gx<w4.heap.size:=by have:=hb.size;omega
 clear hf hb HP3 SRK3 HLX hk1 hl1 k1' hgx';go_wp2_with fail;refine(least_any _ k4 _ _ HF4.out).mono ?_;rintro e w5 ⟨gy,cyy,rfl,hgy,hgy',⟨zs,hzA,hzl,hzd,hzv⟩,hb5⟩;have HB5:Hid (Below w.heap.size w w5):=HS4.out.trans (hb5.mono HS4.out.size);obtain⟨xs,hxA,hxl,hxd,hxv⟩:=HLX4.out.below hb5;have hgx5:gx<w5.heap.size:=by have:=hb5.size;omega
 have HYC:Hid (∀ i,i<16→w5.cell? ⟨gy,i,none⟩=some (.int .i64 (zs.getD i 0))):=fun i hi=>by
  obtain⟨_,_,e,_,hc⟩:=hzA.get (by omega);cases e;have:=hc i (by omega)
  rwa [Nat.zero_add] at this
 have HXC:Hid (w5.cell? ⟨gx,0,none⟩=some (.int .i64 (xs.getD 0 0))):=by
  obtain⟨_,_,e,_,hc⟩:=hxA.get (by omega);cases e;exact hc 0 (by omega)
 have HXP:Hid (xs.getD 0 0%2=X*inv0 Z%fp%2∧0≤xs.getD 0 0∧xs.getD 0 0<65536):=⟨by rw[←val_par xs hxl,hxv],hxd 0⟩
 have HZL:Hid (zs.length=16):=hzl;have HZD:Hid (∀ i,0≤zs.getD i 0∧zs.getD i 0<65536):=hzd;have HZV:Hid (val 65536 zs=Y*inv0 Z%fp):=hzv;have HS:Hid (BYS w w5 zs 0 (.slice (some ⟨w5.heap.size,0,none⟩) 0 0) (w5.alloc (.cells #[] 5))):=⟨⟨[],Own.empty _ _ (Nat.le_refl _),rfl,by simp[Byte],by simp[val]⟩,below_new3 _ _⟩
 clear HF4 HLX4 HS4 hgx4 hb5 hzA hzl hzd hzv hxA hxl hxd hxv;generalize xs.getD 0 0=x at *;go_wp2
 go_loopw [6,7] (fun v i wr=>∃ k:Nat,k≤16∧i=.int .i64 k∧BYS w w5 zs k v wr) (fun _ i _=>16-(intOf i).toNat)
 case atStart=>exact⟨0,by decide,rfl,HS.out⟩
 case round=>
  clear HS;obtain⟨k,hk,rfl,⟨bs,hO,hbl,hbb,hbv⟩,hbel⟩:=hrel;by_cases hlt:k<16
  ·have hlt':(k:Int)<16:=by omega
   have hd:=HZD.out k;have vt:=val_take 65536 zs k (by have:=HZL.out;omega);have c0:wr.cell? ⟨gy,k,none⟩=some (.int .i64 (zs.getD k 0)):=by
    rw[hbel.cell (p:=⟨gy,k,none⟩) hgy'];exact HYC.out k hlt
   generalize hdd:zs.getD k 0=d at *;clear hdd;have HGN:Hid (¬ some gy=u6.ownBlock):=by
    obtain⟨g,c,rfl,hg,_,_⟩:=hO.base;intro h;simp[Value.ownBlock] at h;omega
   have HBL:Hid (bs.length≤32):=by show _≤_;omega
   have HN:Hid (val 256 (bs++[d%256,d/256])=val 65536 (zs.take (k+1))∧(bs++[d%256,d/256]).length=2*(k+1)∧Byte (bs++[d%256,d/256])):=by
    refine⟨by rw[pair_val bs d k hbl,hbv,vt],by simp[hbl];omega,?_⟩;intro z hz;simp at hz;rcases hz with h|h|h
    ·exact hbb z h
    ·omega
    ·omega
   have HO:Hid (Own wr w5.heap.size u6 bs):=hO;have HBE:Hid (Below w5.heap.size w5 wr):=hbel;have hwr:=hbel.size;obtain⟨hd0,hd1⟩:=hd;clear hO hbel vt hbv hbb hbl HYC HZV HZD HXC;go_wp2_with fail;have hm1:d.tmod 256=d%256:=Int.tmod_eq_emod_of_nonneg hd0;have hm2:d.tdiv 256=d/256:=Int.tdiv_eq_ediv_of_nonneg hd0;have hm3:IntKind.u8.wrap (d/256)=d/256:=by rw[IntKind.wrap_u8];omega
   have hm4:IntKind.u8.wrap (d%256)=d%256:=by rw[IntKind.wrap_u8];omega
   have hm5:IntKind.i64.wrap (d/256)=d/256:=by rw[IntKind.wrap_i64];omega
   refine wp_region_any (by kernel_rfl) ?_;refine wpAny_slotsK 15 (fun i w w'=>i≠14→Below w.heap.size w w') (frame:=(fun (a b c d e f g h i j k l m n o p q r s u v w x y z A B C D E F G H I J K L M N:Value)=>fun (t:Nat→Value)=>({ tmps:=List.toArray [a,b,c,d,e,f,g,h,i,j,k,l,m,n,o,p,q,r,s,u,v,w,x,y,z,A,t 0,t 1,t 2,t 3,t 4,t 5,t 6,t 7,t 8,t 9,t 10,t 11,t 12,t 13,t 14,B,C,D,E,F,G,H,I,J,K,L,M,N],defers:=[] }:Act)) _ _ _ _ _ _ _ _ _ _ _ _ _ _ _ _ _ _ _ _ _ _ _ _ _ _ _ _ _ _ _ _ _ _ _ _ _ _ _)
    (Ext:=fun L w'=>(L 14=false→Below wr.heap.size wr w')∧Below w5.heap.size w5 w'∧(∀ i,i<16→w'.cell? ⟨gy,i,none⟩=wr.cell? ⟨gy,i,none⟩)∧wr.heap.size≤w'.heap.size)
    (Good:=GBy w5.heap.size u6 gy cyy k d bs) (by rfl) (by kernel_rfl) (GBy_stab _ _ _ _ _ _ _) (by kernel_rfl) (by kernel_rfl) ?hop ?hend _ _ ((fun (x0 x1 x2 x3 x4 x5 x6 x7 x8 x9 x10 x11 x12 x13 x14:Value)=>fun (i:Nat)=>if i=0 then x0 else if i=1 then x1 else if i=2 then x2 else if i=3 then x3 else if i=4 then x4 else if i=5 then x5 else if i=6 then x6 else if i=7 then x7 else if i=8 then x8 else if i=9 then x9 else if i=10 then x10 else if i=11 then x11 else if i=12 then x12 else if i=13 then x13 else if i=14 then x14 else undef) _ _ _ _ _ _ _ _ _ _ _ _ _ _ _) _ (by simp) (by simp) ?ext ?start (by simp)
   case start=>intro i hi h;exact absurd h (by rw[Array.getD_eq_getD_getElem?,Array.getElem?_replicate];split<;>simp)
   case ext=>exact⟨fun _=>(Below.refl _ _).drew,⟨HBE.out.os,HBE.out.tape,HBE.out.output,HBE.out.size,HBE.out.block⟩,fun _ _=>rfl,Nat.le_refl _⟩
   case hop=>
    intro i o L t w' hil ho hLi hx hdep K hK;obtain⟨hx14,hxB,hxY,hxS⟩:=hx;have cY:w'.cell? ⟨gy,k,none⟩=some (.int .i64 d):=by rw[hxY k (by omega)];exact c0
    have RX:Hid (∀ j,j≠14→∀ ww,Below w'.heap.size w' ww→((updK L j 14=false→Below wr.heap.size wr ww)∧Below w5.heap.size w5 ww∧(∀ i,i<16→ww.cell? ⟨gy,i,none⟩=wr.cell? ⟨gy,i,none⟩)∧wr.heap.size≤ww.heap.size)):=fun j hj ww hb=>
     ⟨fun hL=>(hx14 (by simpa[updK,Ne.symm hj] using hL)).trans (hb.mono hxS),hxB.trans (hb.mono hxB.size),fun i hi=>by rw[hb.cell (p:=⟨gy,i,none⟩) (by show gy<w'.heap.size;omega)];exact hxY i hi,by have:=hb.size;omega⟩
    have RR:Hid (∀ j,j≠14→((updK L j 14=false→Below wr.heap.size wr w')∧Below w5.heap.size w5 w'∧(∀ i,i<16→w'.cell? ⟨gy,i,none⟩=wr.cell? ⟨gy,i,none⟩)∧wr.heap.size≤w'.heap.size)):=fun j hj=>RX.out j hj w' (Below.refl _ _)
    have RM:Hid (∀ j:Nat,j≠14→Below w'.heap.size w' w'):=fun _ _=>Below.refl _ _
    have H14:Hid (L 14=false→Below wr.heap.size wr w'):=hx14;have HXB:Hid (Below w5.heap.size w5 w'):=hxB;have HXY:Hid (∀ i,i<16→w'.cell? ⟨gy,i,none⟩=wr.cell? ⟨gy,i,none⟩):=hxY;clear hx14 hxB hxY;obtain rfl|rfl|rfl|rfl|rfl|rfl|rfl|rfl|rfl|rfl|rfl|rfl|rfl|rfl|rfl:i=0∨i=1∨i=2∨i=3∨i=4∨i=5∨i=6∨i=7∨i=8∨i=9∨i=10∨i=11∨i=12∨i=13∨i=14:=by omega
    all_goals(simp at ho;subst ho)
    ·clear hdep;go_simp;exact hK w' u6 rfl (RR.out 0 (by decide)) (RM.out 0)
    ·clear hdep;go_simp;exact hK w' (.slice (some ⟨gy,0,none⟩) 16 cyy) rfl (RR.out 1 (by decide)) (RM.out 1)
    ·clear hdep;go_simp;exact hK w' (.int .i64 k) rfl (RR.out 2 (by decide)) (RM.out 2)
    ·have d1:t 1=_:=hdep ⟨1,.data⟩ (by simp) rfl;have d2:t 2=_:=hdep ⟨2,.data⟩ (by simp) rfl;clear hdep;go_simp;simpa[upd,d1,d2] using hK w' (.pointer (some ⟨gy,k,none⟩)) rfl (RR.out 3 (by decide)) (RM.out 3)
    ·have d3:t 3=_:=hdep ⟨3,.data⟩ (by simp) rfl;clear hdep;go_simp;simpa[upd,d3] using hK w' (.int .i64 d) rfl (RR.out 4 (by decide)) (RM.out 4)
    ·have d4:t 4=_:=hdep ⟨4,.data⟩ (by simp) rfl;clear hdep;go_simp;simpa[upd,d4,hm1,hm2,hm3,hm4,hm5] using hK w' (.int .i64 (d%256)) rfl (RR.out 5 (by decide)) (RM.out 5)
    ·have d5:t 5=_:=hdep ⟨5,.data⟩ (by simp) rfl;clear hdep;go_simp;simpa[upd,d5,hm1,hm2,hm3,hm4,hm5] using hK w' (.int .u8 (d%256)) rfl (RR.out 6 (by decide)) (RM.out 6)
    ·clear hdep;go_simp;exact hK w' (.slice (some ⟨gy,0,none⟩) 16 cyy) rfl (RR.out 7 (by decide)) (RM.out 7)
    ·clear hdep;go_simp;exact hK w' (.int .i64 k) rfl (RR.out 8 (by decide)) (RM.out 8)
    ·have d7:t 7=_:=hdep ⟨7,.data⟩ (by simp) rfl;have d8:t 8=_:=hdep ⟨8,.data⟩ (by simp) rfl;clear hdep;go_simp;simpa[upd,d7,d8] using hK w' (.pointer (some ⟨gy,k,none⟩)) rfl (RR.out 9 (by decide)) (RM.out 9)
    ·have d9:t 9=_:=hdep ⟨9,.data⟩ (by simp) rfl;clear hdep;go_simp;simpa[upd,d9] using hK w' (.int .i64 d) rfl (RR.out 10 (by decide)) (RM.out 10)
    ·have d10:t 10=_:=hdep ⟨10,.data⟩ (by simp) rfl;clear hdep;go_simp;simpa[upd,d10,hm1,hm2,hm3,hm4,hm5] using hK w' (.int .i64 (d/256)) rfl (RR.out 11 (by decide)) (RM.out 11)
    ·have d11:t 11=_:=hdep ⟨11,.data⟩ (by simp) rfl;clear hdep;go_simp;simpa[upd,d11,hm1,hm2,hm3,hm4,hm5] using hK w' (.int .u8 (d/256)) rfl (RR.out 12 (by decide)) (RM.out 12)
    ·have d6:t 6=_:=hdep ⟨6,.data⟩ (by simp) rfl;have d12:t 12=_:=hdep ⟨12,.data⟩ (by simp) rfl;clear hdep;have hK':=hK (w'.alloc (.cells #[.int .u8 (d%256),.int .u8 (d/256)] 5)) (.slice (some ⟨w'.heap.size,0,none⟩) 2 2) (fun _=>⟨w'.heap.size,rfl,by simp,cell_of_row _ _ _ _ _ _ (heap_alloc_new _ _),cell_of_row _ _ _ _ _ _ (heap_alloc_new _ _)⟩) (RX.out 13 (by decide) _ (below_new3 _ _)) (fun _=>below_new3 _ _);clear hK;go_simp;simpa[upd,d6,d12] using hK'
    ·have d0:t 0=_:=hdep ⟨0,.data⟩ (by simp) rfl;have d13:=hdep ⟨13,.data⟩ (by simp) rfl;obtain⟨g',e13,hg',cc0,cc1⟩:=d13 hLi;clear hdep d13;have hO:=HO.out.grow2 (H14.out hLi);refine wp_app (a:=_) _ _ _ rfl w5.heap.size _ bs (by first|exact d0|(simp[d0];done)) hO ⟨g',0,none⟩ 2 2 [d%256,d/256] (by first|exact e13|(simp[e13];done)) rfl ?_ ?_ ?_ ?_
     ·intro j hj;rcases (show j=0∨j=1 by omega) with rfl|rfl
      ·rw[Addr.add_lit];exact cc0
      ·rw[Addr.add_lit];exact cc1
     ·have:=HBL.out;omega
     ·exact HXB.out.size
     ·intro v' w9 hown' hbel' hgr;have hs9:=hgr.size;have hyY:∀ i,i<16→w9.cell? ⟨gy,i,none⟩=wr.cell? ⟨gy,i,none⟩:=fun i hi=>by
       rw[World.cell?_of_block (a:=⟨gy,i,none⟩) (w:=w') (hgr.block gy (by omega) HGN.out)];exact HXY.out i hi
      exact hK w9 v' hown' ⟨fun h=>by simp[updK] at h,HXB.out.trans hbel',hyY,by omega⟩ (fun h=>absurd rfl h)
   case hend=>
    intro o L t w' ho hx hg K hK;simp at ho;subst ho;obtain⟨hx14,hxB,hxY,hxS⟩:=hx;have O14:Own w' w5.heap.size (t 14) (bs++[d%256,d/256]):=hg 14 (by decide);have HXB:Hid (Below w5.heap.size w5 w'):=hxB;have HXY:Hid (∀ i,i<16→w'.cell? ⟨gy,i,none⟩=wr.cell? ⟨gy,i,none⟩):=hxY;have HSZ:Hid (wr.heap.size≤w'.heap.size):=hxS;have HO14:Hid (Own w' w5.heap.size (t 14) (bs++[d%256,d/256])):=O14;clear hg O14 hx14 hxB hxY hxS;go_simp;refine hK _ _ ?_;have hHB:Below w5.heap.size w5 w':=HXB.out;have HP:Hid (BYS w w5 zs (k+1) (t 14) w'):=⟨⟨_,HO14.out,HN.out.2.1,HN.out.2.2,HN.out.1⟩,hHB⟩
    clear hHB HXB HXY HO14 HSZ HN HO HBE HGN hK c0;generalize t 14=v14 at *;go_wp2;go_roundw
    case rel=>exact⟨k+1,by omega,by go_num,HP.out⟩
    case measure=>simp[intOf];omega
  ·have hk16:k=16:=by omega
   rw[hk16,List.take_of_length_le (by have:=HZL.out;omega),HZV.out] at hbv;obtain⟨g,c,hu,hg0,hg1,hc0⟩:=hO.base;have hl32:bs.length=32:=by omega
   rw[hl32] at hu hc0;subst hu;have hlt:¬ ((k:Int)<16):=by omega
   have hV:Y*inv0 Z%fp<top255:=by
    have:=Int.emod_lt_of_pos (Y*inv0 Z) (show(0:Int)<fp by decide);have e:fp<top255:=by decide
    omega
   obtain⟨hp,hx0,hx1⟩:=HXP.out;obtain⟨s1,s2,s3,s4⟩:=code_set bs hl32 hbb _ (x%2) hbv hV (by omega);have hset:=OwnK.set (k:=.u8) (t:=5) hl32 hO 31 (bs.getD 31 0+128*(x%2)) (by omega);obtain⟨cB,fB,hO'⟩:=hset;have cX:wr.cell? ⟨gx,0,none⟩=some (.int .i64 x):=by rw[hbel.cell (p:=⟨gx,0,none⟩) hgx5];exact HXC.out
   have BB:Below w.heap.size w (wr.setCell ⟨g,31,none⟩ (.int .u8 (bs.getD 31 0+128*(x%2)))):=HB5.out.trans ((hbel.trans ((Below.refl _ _).setCell (by show w5.heap.size≤g;omega) _)).mono HB5.out.size);have HP9:∀ q,Hid (CodeP w (cdV X Y Z) (.returned (.slice (some ⟨g,0,none⟩) 32 c)) ((wr.drewN q).setCell ⟨g,31,none⟩ (.int .u8 (bs.getD 31 0+128*(x%2))))):=fun q=>
    ⟨_,bs.set 31 (bs.getD 31 0+128*(x%2)),rfl,(show Own _ w5.heap.size _ _ from(show Own (wr.setCell ⟨g,31,none⟩ (.int .u8 (bs.getD 31 0+128*(x%2)))) w5.heap.size (.slice (some ⟨g,0,none⟩) 32 c) _ from hO')).lower3 HB5.out.size,s4,by rw[List.length_set];exact hl32,by rw[s3,hp];rfl,
     ⟨BB.os,BB.tape,BB.output,BB.size,BB.block⟩⟩
   have hm1:x.tmod 2=x%2:=Int.tmod_eq_emod_of_nonneg hx0;have hm2:IntKind.i64.wrap (128*(x%2))=128*(x%2):=by rw[IntKind.wrap_i64];omega
   have hm3:IntKind.u8.wrap (128*(x%2))=128*(x%2):=by rw[IntKind.wrap_u8];omega
   have hm4:IntKind.u8.wrap (bs.getD 31 0+128*(x%2))=bs.getD 31 0+128*(x%2):=by rw[IntKind.wrap_u8];omega
   clear BB hbv hO hbb hbl hbel hk16 HZV HZD HYC HXC HXP hO' s3 s4 hV hp hl32;generalize bs.getD 31 0=b at *;go_wp2_with fail;refine wp_region_any (by kernel_rfl) ?_;refine wpAny_slotsL 12 (fun w w'=>True) (frame:=(fun (a b c d e f g h i j k l m n o p q r s u v w x y z A B C D E F G H I J K L M N O P Q:Value)=>fun (t:Nat→Value)=>({ tmps:=List.toArray [a,b,c,d,e,f,g,h,i,j,k,l,m,n,o,p,q,r,s,u,v,w,x,y,z,A,B,C,D,E,F,G,H,I,J,K,L,M,N,O,P,t 0,t 1,t 2,t 3,t 4,t 5,t 6,t 7,t 8,t 9,t 10,t 11,Q],defers:=[] }:Act)) _ _ _ _ _ _ _ _ _ _ _ _ _ _ _ _ _ _ _ _ _ _ _ _ _ _ _ _ _ _ _ _ _ _ _ _ _ _ _ _ _ _)
    (Ext:=fun w'=>∃ q,w'=wr.drewN q) (Good:=fun i _ v=>if i=0 then v=.slice (some ⟨g,0,none⟩) 32 c else if i=1 then v=.slice (some ⟨g,0,none⟩) 32 c else if i=2 then v=.pointer (some ⟨g,31,none⟩) else if i=3 then v=.int .u8 b else if i=4 then v=.slice (some ⟨gx,0,none⟩) 16 cx else if i=5 then v=.pointer (some ⟨gx,0,none⟩) else if i=6 then v=.int .i64 x else if i=7 then v=.int .i64 (x%2) else if i=8 then v=.int .i64 (128*(x%2)) else if i=9 then v=.int .u8 (128*(x%2)) else if i=10 then v=.int .u8 (b+128*(x%2)) else if i=11 then v=.pointer (some ⟨g,31,none⟩) else True) (by rfl) (by kernel_rfl) (fun i w w' v _ h=>h) (by kernel_rfl) (by kernel_rfl) ?hop ?hend _ _ ((fun (x0 x1 x2 x3 x4 x5 x6 x7 x8 x9 x10 x11:Value)=>fun (i:Nat)=>if i=0 then x0 else if i=1 then x1 else if i=2 then x2 else if i=3 then x3 else if i=4 then x4 else if i=5 then x5 else if i=6 then x6 else if i=7 then x7 else if i=8 then x8 else if i=9 then x9 else if i=10 then x10 else if i=11 then x11 else undef) _ _ _ _ _ _ _ _ _ _ _ _) _ (by simp) (by simp) ?ext ?start (by simp)
   case start=>intro i hi h;exact absurd h (by rw[Array.getD_eq_getD_getElem?,Array.getElem?_replicate];split<;>simp)
   case ext=>exact⟨1,rfl⟩
   case hop=>
    intro i o t w' hil ho hx hdep K hK;obtain⟨q,rfl⟩:=hx;obtain rfl|rfl|rfl|rfl|rfl|rfl|rfl|rfl|rfl|rfl|rfl|rfl:i=0∨i=1∨i=2∨i=3∨i=4∨i=5∨i=6∨i=7∨i=8∨i=9∨i=10∨i=11:=by omega
    all_goals(simp at ho;subst ho)
    ·clear hdep;have hK':=hK (wr.drewN q) (.slice (some ⟨g,0,none⟩) 32 c) (by simp) ⟨q,rfl⟩ trivial;clear hK;go_simp;simpa[upd,hm1,hm2,hm3,hm4] using hK'
    ·clear hdep;have hK':=hK (wr.drewN q) (.slice (some ⟨g,0,none⟩) 32 c) (by simp) ⟨q,rfl⟩ trivial;clear hK;go_simp;simpa[upd,hm1,hm2,hm3,hm4] using hK'
    ·have d1:t 1=.slice (some ⟨g,0,none⟩) 32 c:=by simpa using hdep ⟨1,.data⟩ (by simp) rfl
     clear hdep;have hK':=hK (wr.drewN q) (.pointer (some ⟨g,31,none⟩)) (by simp) ⟨q,rfl⟩ trivial;clear hK;go_simp;simpa[upd,d1,hm1,hm2,hm3,hm4] using hK'
    ·have d2:t 2=.pointer (some ⟨g,31,none⟩):=by simpa using hdep ⟨2,.data⟩ (by simp) rfl
     clear hdep;have hK':=hK (wr.drewN q) (.int .u8 b) (by simp) ⟨q,rfl⟩ trivial;clear hK;go_simp;simpa[upd,d2,hm1,hm2,hm3,hm4] using hK'
    ·clear hdep;have hK':=hK (wr.drewN q) (.slice (some ⟨gx,0,none⟩) 16 cx) (by simp) ⟨q,rfl⟩ trivial;clear hK;go_simp;simpa[upd,hm1,hm2,hm3,hm4] using hK'
    ·have d4:t 4=.slice (some ⟨gx,0,none⟩) 16 cx:=by simpa using hdep ⟨4,.data⟩ (by simp) rfl
     clear hdep;have hK':=hK (wr.drewN q) (.pointer (some ⟨gx,0,none⟩)) (by simp) ⟨q,rfl⟩ trivial;clear hK;go_simp;simpa[upd,d4,hm1,hm2,hm3,hm4] using hK'
    ·have d5:t 5=.pointer (some ⟨gx,0,none⟩):=by simpa using hdep ⟨5,.data⟩ (by simp) rfl
     clear hdep;have hK':=hK (wr.drewN q) (.int .i64 x) (by simp) ⟨q,rfl⟩ trivial;clear hK;go_simp;simpa[upd,d5,hm1,hm2,hm3,hm4] using hK'
    ·have d6:t 6=.int .i64 x:=by simpa using hdep ⟨6,.data⟩ (by simp) rfl
     clear hdep;have hK':=hK (wr.drewN q) (.int .i64 (x%2)) (by simp) ⟨q,rfl⟩ trivial;clear hK;go_simp;simpa[upd,d6,hm1,hm2,hm3,hm4] using hK'
    ·have d7:t 7=.int .i64 (x%2):=by simpa using hdep ⟨7,.data⟩ (by simp) rfl
     clear hdep;have hK':=hK (wr.drewN q) (.int .i64 (128*(x%2))) (by simp) ⟨q,rfl⟩ trivial;clear hK;go_simp;simpa[upd,d7,hm1,hm2,hm3,hm4] using hK'
    ·have d8:t 8=.int .i64 (128*(x%2)):=by simpa using hdep ⟨8,.data⟩ (by simp) rfl
     clear hdep;have hK':=hK (wr.drewN q) (.int .u8 (128*(x%2))) (by simp) ⟨q,rfl⟩ trivial;clear hK;go_simp;simpa[upd,d8,hm1,hm2,hm3,hm4] using hK'
    ·have d3:t 3=.int .u8 b:=by simpa using hdep ⟨3,.data⟩ (by simp) rfl
     have d9:t 9=.int .u8 (128*(x%2)):=by simpa using hdep ⟨9,.data⟩ (by simp) rfl
     clear hdep;have hK':=hK (wr.drewN q) (.int .u8 (b+128*(x%2))) (by simp) ⟨q,rfl⟩ trivial;clear hK;go_simp;simpa[upd,d3,d9,hm1,hm2,hm3,hm4] using hK'
    ·have d0:t 0=.slice (some ⟨g,0,none⟩) 32 c:=by simpa using hdep ⟨0,.data⟩ (by simp) rfl
     clear hdep;have hK':=hK (wr.drewN q) (.pointer (some ⟨g,31,none⟩)) (by simp) ⟨q,rfl⟩ trivial;clear hK;go_simp;simpa[upd,d0,hm1,hm2,hm3,hm4] using hK'
   case hend=>
    intro o t w' ho hx hg K hK;obtain⟨q,rfl⟩:=hx;simp at ho;subst ho;have d0:t 0=.slice (some ⟨g,0,none⟩) 32 c:=by simpa using hg 0 (by decide)
    have d1:t 1=.slice (some ⟨g,0,none⟩) 32 c:=by simpa using hg 1 (by decide)
    have d2:t 2=.pointer (some ⟨g,31,none⟩):=by simpa using hg 2 (by decide)
    have d3:t 3=.int .u8 b:=by simpa using hg 3 (by decide)
    have d4:t 4=.slice (some ⟨gx,0,none⟩) 16 cx:=by simpa using hg 4 (by decide)
    have d5:t 5=.pointer (some ⟨gx,0,none⟩):=by simpa using hg 5 (by decide)
    have d6:t 6=.int .i64 x:=by simpa using hg 6 (by decide)
    have d7:t 7=.int .i64 (x%2):=by simpa using hg 7 (by decide)
    have d8:t 8=.int .i64 (128*(x%2)):=by simpa using hg 8 (by decide)
    have d9:t 9=.int .u8 (128*(x%2)):=by simpa using hg 9 (by decide)
    have d10:t 10=.int .u8 (b+128*(x%2)):=by simpa using hg 10 (by decide)
    have d11:t 11=.pointer (some ⟨g,31,none⟩):=by simpa using hg 11 (by decide)
    clear hg;have h9:=HP9 q;clear HP9;go_simp;refine hK _ _ ?_;clear hK;generalize (wr.drewN q).setCell ⟨g,31,none⟩ (.int .u8 (b+128*(x%2)))=w9 at *;go_wp2
    go_ret
    exact h9.out
end Go.Proofs.YtjdhhgaelgemcaaGreatDoor
