import Derived.Test.YtganeokokjodoaaGreatMDkT
import Derived.Test.YtganeokokjodoaaGreatMEncS
import Derived.Deep.AppendSrc
namespace Go.Proofs.YtganeokokjodoaaGreat
open Go.ChangeShapes Go.WideShapes Go.ChangeAt Go.RowKit
set_option linter.unusedVariables false
structure EZ (w:World) (cs:Array Value) (wr:World):Prop where
 bel:Below w.heap.size w wr
 dev:wr.heap[w.heap.size]?=some (.cells cs 40 (0,0))
theorem EZ.lt {w wr:World} {cs:Array Value} (h:EZ w cs wr):w.heap.size<wr.heap.size:=(Array.getElem?_eq_some_iff.1 h.dev).1
theorem EZ.below {w wr w':World} {cs:Array Value} (h:EZ w cs wr) (b:Below wr.heap.size wr w'):EZ w cs w':=
 ⟨h.bel.trans (b.mono h.bel.size),by rw[b.block _ h.lt];exact h.dev⟩
theorem EZ.start (w:World) (cs:Array Value):EZ w cs (w.alloc (.cells cs 40)):=⟨(Below.refl _ _).alloc (Nat.le_refl _) _,heap_alloc_new w _⟩
set_option maxHeartbeats 1000000 in
theorem l1s_any (a x:Option Addr) (L c m cx:Nat) (f:Int) (d:Bool) (w:World) (hL:L≤1048576) :
  Calls Tryz.prog 55 #[.agg #[.slice a L c,.slice x m cx,.int .i64 f,.bool d]] w fun e w'=>e=.returned (.int .i64 ((L/64:Nat):Int))∧Below w.heap.size w w':=by
 have HB:Hid (Below w.heap.size w (w.alloc (.cells #[.slice a L c,.slice x m cx,.int .i64 f,.bool d] 40))):=(Below.refl _ _).alloc (Nat.le_refl _) _
 go_enter Tryz.func55,Tryz.ntmps55
 go_wp2
 go_ret
 exact⟨by simp,HB.out⟩
set_option maxHeartbeats 1000000 in
theorem jour_any (a x:Option Addr) (L c m cx:Nat) (f:Int) (d:Bool) (w:World) (hL:L≤1048576) (h8:8≤L/64) (h256:L/64≤256) :
  Calls Tryz.prog 24 #[.agg #[.slice a L c,.slice x m cx,.int .i64 f,.bool d]] w fun e w'=>e=.returned (.int .i64 ((L/64-4:Nat):Int))∧Below w.heap.size w w':=by
 have HE0:=hid_ofL (EZ.start w #[.slice a L c,.slice x m cx,.int .i64 f,.bool d])
 have HSD:Hid ((Tryz.prog.info? 40).map (·.size)=some 4):=by show _=_;kernel_rfl
 have A:=hid_ofL (fun ww=>l1s_any a x L c m cx f d ww hL)
 obtain⟨S,hS⟩:∃ S,L/64=S:=⟨_,rfl⟩
 rw[hS] at A h8 h256 ⊢
 clear hS
 go_enter Tryz.func24,Tryz.ntmps24
 go_upto_region 1 with fail
 generalize w.alloc (.cells #[.slice a L c,.slice x m cx,.int .i64 f,.bool d] 40)=w0 at *
 go_wp2_with (first
  |(refine wpList_load_row rfl 40 (.tmp 1) rfl w.heap.size rfl 40 _ (0,0) _ HE0.out.dev Tryz.underlying40 rfl HSD.out ?_)
  |fail)
 refine(A.out w0).mono ?_
 rintro e w1 ⟨rfl,b1⟩
 have HE1:=hid_ofL (HE0.out.below b1)
 clear A b1 HE0
 go_wp2
 go_ret
 exact⟨by simp;omega,HE1.out.bel⟩
set_option maxHeartbeats 1000000 in
theorem sect_any (a x:Option Addr) (L c m cx:Nat) (f:Int) (d:Bool) (w:World) (hL:L≤1048576) (h8:8≤L/64) (h256:L/64≤256) (q:Nat) (hq:q<4294967296) :
  Calls Tryz.prog 60 #[.agg #[.slice a L c,.slice x m cx,.int .i64 f,.bool d],.int .u32 (q:Int)] w fun e w'=>e=.returned (.int .i64 ((4+q%(L/64-4):Nat):Int))∧Below w.heap.size w w':=by
 have HE0:=hid_ofL (EZ.start w #[.slice a L c,.slice x m cx,.int .i64 f,.bool d])
 have HSD:Hid ((Tryz.prog.info? 40).map (·.size)=some 4):=by show _=_;kernel_rfl
 have A:=hid_ofL (fun ww=>jour_any a x L c m cx f d ww hL h8 h256)
 obtain⟨J,hJ⟩:∃ J,L/64-4=J:=⟨_,rfl⟩
 have hJ0:((J:Int) == 0)=false:=by simp;omega
 have hJ1:0<J:=by omega
 have hJ2:J≤252:=by omega
 rw[hJ] at A ⊢
 have hlt:=Nat.mod_lt q hJ1
 obtain⟨r,hr⟩:∃ r,q%J=r:=⟨_,rfl⟩
 obtain⟨qi,hqi⟩:∃ t:Int,(q:Int)=t:=⟨_,rfl⟩
 have e1:qi%(J:Int)=(r:Int):=by rw[←hqi,←hr];simp
 have e2:qi.tmod (J:Int)=(r:Int):=by rw[Int.tmod_eq_emod_of_nonneg (by omega)];exact e1
 have hq0:0≤qi:=by omega
 have hq1:qi<4294967296:=by omega
 rw[hr] at hlt ⊢
 rw[hqi]
 clear hJ h8 h256 hr hqi hq
 go_enter Tryz.func60,Tryz.ntmps60
 go_upto_region 1 with fail
 generalize w.alloc (.cells #[.slice a L c,.slice x m cx,.int .i64 f,.bool d] 40)=w0 at *
 go_wp2_with (first
  |(refine wpList_load_row rfl 40 (.tmp 2) rfl w.heap.size rfl 40 _ (0,0) _ HE0.out.dev Tryz.underlying40 rfl HSD.out ?_)
  |fail)
 refine(A.out w0).mono ?_
 rintro e w1 ⟨rfl,b1⟩
 have HE1:=hid_ofL (HE0.out.below b1)
 clear A b1 HE0
 go_wp2
 go_ret
 exact⟨by simp,HE1.out.bel⟩
end Go.Proofs.YtganeokokjodoaaGreat
namespace Go.Proofs.YtganeokokjodoaaGreat
open Go.ChangeShapes Go.WideShapes Go.ChangeAt Go.RowKit
set_option linter.unusedVariables false
def FW (lo:Nat) (w:World) (v:Value) (F:List Int):Prop:=∃ g m c,v=.slice (some ⟨g,0,none⟩) m c∧lo≤g∧F.length=m*4∧m≤c∧g<w.heap.size∧∀ i,i<F.length→w.cell? ⟨g,i,none⟩=some (.int (kF i) (F.getD i 0))
theorem FW.below {lo:Nat} {w w':World} {v:Value} {F:List Int} (h:FW lo w v F) (b:Below w.heap.size w w'):FW lo w' v F:=by
 obtain⟨g,m,c,e,h1,h2,h3,h4,h5⟩:=h
 exact⟨g,m,c,e,h1,h2,h3,Nat.lt_of_lt_of_le h4 b.size,fun i hi=>by rw[b.cell (p:=⟨g,i,none⟩) h4];exact h5 i hi⟩
theorem FW.mono {lo lo':Nat} {w:World} {v:Value} {F:List Int} (h:FW lo w v F) (hl:lo'≤lo):FW lo' w v F:=by
 obtain⟨g,m,c,e,h1,h2⟩:=h
 exact⟨g,m,c,e,by omega,h2⟩
theorem FW.fat {lo:Nat} {w:World} {v:Value} {F:List Int} (h:FW lo w v F):∃ g m c,v=.slice (some ⟨g,0,none⟩) m c∧F.length=m*4∧FAt w (some ⟨g,0,none⟩) F:=by
 obtain⟨g,m,c,e,h1,h2,h3,h4,h5⟩:=h
 exact⟨g,m,c,e,h2,.inr ⟨g,0,rfl,h4,fun i hi=>by rw[Nat.zero_add];exact h5 i hi⟩⟩
def Fr1 (lo:Nat) (s kd p y:Int) (w:World) (v:Value):Prop:=∃ g,v=.slice (some ⟨g,0,none⟩) 1 1∧lo≤g∧w.heap[g]?=some (.cells #[.int .u32 s,.int .i64 kd,.int .u32 p,.int .u32 y] 110 (0,0))
theorem Fr1.below {lo:Nat} {s kd p y:Int} {w w':World} {v:Value} (h:Fr1 lo s kd p y w v) (b:Below w.heap.size w w'):Fr1 lo s kd p y w' v:=by
 obtain⟨g,e,h1,h2⟩:=h
 exact⟨g,e,h1,by rw[b.block g (Array.getElem?_eq_some_iff.1 h2).1];exact h2⟩
theorem fC4 (s kd p y:Int):(fC [s,kd,p,y]).toList=[.int .u32 s,.int .i64 kd,.int .u32 p,.int .u32 y]:=by
 rw[fC_list];rfl
theorem kF4 (i:Nat):kF (4+i)=kF i:=by unfold kF;rw[show(4+i)%4=i%4 by omega]
theorem run_appFW (w:World) (ty:TypeId) (lo:Nat) (s kd p y:Int) (R:List Int) (v x:Value) (h1:Fr1 lo s kd p y w v) (h2:FW lo w x R) (hm:R.length≤100000) (hlo:lo≤w.heap.size) :
  ∃ v' w',(Builtin.append_ #[31,31] ty #[v,x]).run Tryz.prog w=.ok v' w'∧FW lo w' v' ([s,kd,p,y]++R)∧Below w.heap.size w w':=by
 obtain⟨i0,hi,hz0,hz1,hz2⟩:=info_parts Tryz.infoFr
 obtain⟨g,rfl,hg,hrow⟩:=h1
 obtain⟨h,m,c,rfl,hh,hl,hc,hlt,hcell⟩:=h2
 have hnews:∀ j u,(fC R).toList[j]?=some u→w.cell? ((⟨h,0,none⟩:Addr).add j)=some u:=fun j u hu=>by
  rw[fC_list] at hu;have hj:j<R.length:=by have:=(List.getElem?_eq_some_iff.1 hu).1;simpa using this
  rw[Addr.add_lit,Nat.zero_add,hcell j hj];rw[List.getElem?_map,List.getElem?_range hj] at hu;simpa using hu
 have hone:∀ u∈(fC R).toList,u.oneCell'=true:=fun u hu=>by
  rw[fC_list] at hu;obtain⟨j,_,rfl⟩:=List.mem_map.1 hu;rfl
 have hlen:(fC R).toList.length=m*4:=by rw[fC_list];simpa using hl
 have hsrc:Src Tryz.prog i0.size 31 (.slice (some ⟨h,0,none⟩) m c) m (fC R).toList w:=
  Src.ofSlice w Tryz.underlying31 ⟨h,0,none⟩ m c _ (by rw[hz1];exact hlen) hnews hone
 have hgl:=(Array.getElem?_eq_some_iff.1 hrow).1
 have hc4:∀ j,j<4→w.cell? ⟨g,j,none⟩=some (.int (kF j) (([s,kd,p,y]:List Int).getD j 0)):=fun j hj=>by
  rw[cell_of_row w g j _ _ _ hrow];obtain rfl|rfl|rfl|rfl:j=0∨j=1∨j=2∨j=3:=by omega
  all_goals rfl
 by_cases hm0:m=0
 ·subst hm0;have hR:R=[]:=List.eq_nil_of_length_eq_zero (by omega);subst hR;have hr:=run_append_room_src (P:=Tryz.prog) w 31 31 ty 110 i0 Tryz.underlying31 hi g 0 1 1 _ 0 [] hsrc (by decide) (fun j hj=>absurd hj (by simp)) (fun j hj=>absurd hj (by simp));exact⟨_,_,hr,⟨g,1,1,rfl,hg,rfl,Nat.le_refl _,hgl,fun i hi'=>hc4 i hi'⟩,Below.refl _ _⟩
 ·have hold:=run_firstCells_some (P:=Tryz.prog) w.drew i0.size 1 ⟨g,0,none⟩ 1 1 [.int .u32 s,.int .i64 kd,.int .u32 p,.int .u32 y] (by rw[hz1];rfl) (fun j u hu=>by
   have hj:j<4:=by have:=(List.getElem?_eq_some_iff.1 hu).1;simpa using this
   rw[Addr.add_lit,Nat.zero_add,show w.drew.cell? ⟨g,j,none⟩=w.cell? ⟨g,j,none⟩ from rfl,hc4 j hj];obtain rfl|rfl|rfl|rfl:j=0∨j=1∨j=2∨j=3:=by omega
   all_goals(simp at hu;subst hu;rfl))
  have hcap:=nextslicecap_le (need:=1+m) (old:=1) (by omega);have hr:=run_append_grow_src (P:=Tryz.prog) w 31 31 ty 110 i0 (.agg #[.int .u32 0,.int .i64 0,.int .u32 0,.int .u32 0]) Tryz.underlying31 hi hz0 (some ⟨g,0,none⟩) 1 1 [.int .u32 s,.int .i64 kd,.int .u32 p,.int .u32 y] hold _ m (fC R).toList hsrc (by omega) (by omega) (by rw[hz2];omega);have hge:=grownCap_ge w (1+m) 1 110;refine⟨_,_,hr,⟨w.heap.size,1+m,_,rfl,hlo,by rw[List.length_append,hl];simp;omega,hge,by simp,fun i hi'=>?_⟩,⟨rfl,rfl,rfl,by simp,fun k hk=>heap_alloc_old w.drew _ hk⟩⟩;rw[cell_of_row _ w.heap.size i _ _ _ (heap_alloc_new w.drew _)];have hi2:i<4+R.length:=by simp at hi';omega
  rw[Array.getElem?_append_left (by simp[hlen];omega)];rw[List.getElem?_toArray];by_cases h4:i<4
  ·rw[List.getElem?_append_left (by simpa using h4)];obtain rfl|rfl|rfl|rfl:i=0∨i=1∨i=2∨i=3:=by omega
   all_goals rfl
  ·obtain⟨j,rfl⟩:∃ j,i=4+j:=⟨i-4,by omega⟩
   have hj:j<R.length:=by omega
   rw[List.getElem?_append_right (by simp),fC_list,List.getElem?_map];simp only[List.length_cons,List.length_nil,Nat.add_sub_cancel_left,Nat.zero_add];rw[List.getElem?_range hj,kF4,show 4+j=j+4 by omega];simp[List.getD]
theorem wp_appFW (w:World) {o:Oper} {a:Act} {K:Act→World→Prop} {Q:Exit→Act→World→Prop} (sx x:Operand)
  (hop:o.op=Op.call { callee:=Callee.builtin Builtin.append,args:=#[sx,x],argTypes:=#[31,31] }) (lo:Nat) (s kd p y:Int) (R:List Int) (v u:Value) (hs:a.eval sx=v) (hx:a.eval x=u) (h1:Fr1 lo s kd p y w v) (h2:FW lo w u R) (hm:R.length≤100000) (hlo:lo≤w.heap.size)
  (hK:∀ v' w',FW lo w' v' ([s,kd,p,y]++R)→Below w.heap.size w w'→K (a.put o.dst v') w'):o.wp Tryz.prog a w K Q:=by
 obtain⟨v',w',hr,k1,k2⟩:=run_appFW w o.type lo s kd p y R v u h1 h2 hm hlo
 have hk:=hK v' w' k1 k2
 unfold Oper.wp execOp
 simp only[hop,resolve,invoke,builtin,Sem.run_bind,Sem.run_pure,Result.andThen_ok,List.map_toArray,List.map_cons,List.map_nil,hs,hx,hr]
 exact hk
end Go.Proofs.YtganeokokjodoaaGreat
namespace Go.Proofs.YtganeokokjodoaaGreat
open Go.ChangeShapes Go.WideShapes Go.ChangeAt Go.RowKit
set_option linter.unusedVariables false
theorem decV_len {zs:List Int} (h:zs.length≠64):decV zs=fNo:=decV_no (by unfold decB;simp[h])
theorem decV_form (zs:List Int):∃ x s k a b,decV zs=.agg #[.bool x,.int .u32 s,.int .i64 k,.int .u32 a,.int .u32 b]:=by
 cases h:decB zs
 ·exact⟨_,_,_,_,_,decV_no h⟩
 ·exact⟨_,_,_,_,_,decV_yes h⟩
set_option maxHeartbeats 1000000 in
theorem idec_any (a:Option Addr) (n cap:Nat) (zs:List Int) (w:World) (hn:zs.length=n) (hm:n≤1048576) (hz:Byte zs) (ha:At .u8 w a zs) :
  Calls Tryz.prog 70 #[.slice a n cap] w fun e w'=>e=.returned (decV zs)∧Below w.heap.size w w':=by
 by_cases h64:n=64
 ·subst h64;exact idec_64 a cap zs w hn hz ha
 ·rw[decV_len (by omega)];have ht:((n:Int) != 64)=true:=by rw[bne_iff_ne];omega
  have hsF:(Tryz.prog.info? 112).map (·.size)=some 5:=by kernel_rfl
  have HSF:Hid _:=hsF;clear hsF;go_enter Tryz.func70,Tryz.ntmps70;go_wp2_with (refine wpList_store_row rfl 112 (.tmp 2) (.tmp 8) rfl w.heap.size #[.bool false,.int .u32 0,.int .i64 0,.int .u32 0,.int .u32 0] rfl rfl 112 _ (heap_alloc_new w _) HSF.out rfl (all5 _ _ _ _ _) ?_)
  (try simp only[Exit.inBlock,Exit.then])
  refine bodyPost_ret (v:=fNo) (results_cell_row rfl _ _ w.heap.size 112 _ (0,0) _ rfl (setRow_heap _ _ _ _ _ _ (heap_alloc_new w _)) Tryz.underlying112 rfl HSF.out) rfl ⟨rfl,?_⟩;exact(below_new w _).trans ((Wr.setRow _ _ _).below (Nat.le_refl _))
set_option maxHeartbeats 1000000 in
theorem sdec_any (a:Option Addr) (n cap:Nat) (zs:List Int) (w:World) (hn:zs.length=n) (hm:n≤1048576) (hz:Byte zs) (ha:At .u8 w a zs) :
  Calls Tryz.prog 59 #[.slice a n cap] w fun e w'=>e=.returned (decV zs)∧Below w.heap.size w w':=by
 by_cases h64:n=64
 ·subst h64;obtain⟨b,off,rfl,hb,hc⟩:=ha.get (by omega);exact sdec_64 b off cap zs w hn hz hb hc
 ·rw[decV_len (by omega)];have ht:((n:Int) != 64)=true:=by rw[bne_iff_ne];omega
  have hsF:(Tryz.prog.info? 112).map (·.size)=some 5:=by kernel_rfl
  have HSF:Hid _:=hsF;clear hsF;go_enter Tryz.func59,Tryz.ntmps59;go_wp2_with (refine wpList_store_row rfl 112 (.tmp 2) (.tmp 7) rfl w.heap.size #[.bool false,.int .u32 0,.int .i64 0,.int .u32 0,.int .u32 0] rfl rfl 112 _ (heap_alloc_new w _) HSF.out rfl (all5 _ _ _ _ _) ?_)
  (try simp only[Exit.inBlock,Exit.then])
  refine bodyPost_ret (v:=fNo) (results_cell_row rfl _ _ w.heap.size 112 _ (0,0) _ rfl (setRow_heap _ _ _ _ _ _ (heap_alloc_new w _)) Tryz.underlying112 rfl HSF.out) rfl ⟨rfl,?_⟩;exact(below_new w _).trans ((Wr.setRow _ _ _).below (Nat.le_refl _))
end Go.Proofs.YtganeokokjodoaaGreat
