import Derived.Test.YtncomnkdlpoelaaGreatDoorMCatF
import Derived.Test.YtncomnkdlpoelaaGreatDoorMReg
import Derived.Deep.Cut
import Derived.Test.YtncomnkdlpoelaaGreatDoorMIDd
import Derived.BigQuiet
import Derived.Test.YtncomnkdlpoelaaGreatDoorMCatZ
namespace Go.Proofs.YtncomnkdlpoelaaGreatDoor
open Go.ChangeShapes Go.WideShapes Go.ChangeAt Go.RowKit
set_option linter.unusedVariables false
def StP (D U:List Int) (k:Int) (T:List Int) (n:Nat):Prop:=SerP D∧D.length≤16∧SerP U∧0≤k∧k+n=U.length∧TapP U T n
open Classical in
noncomputable def stB (D U:List Int) (k:Int) (T:List Int) (n:Nat):Bool:=decide (StP D U k T n)
theorem stB_no {D U:List Int} {k:Int} {T:List Int} {n:Nat} (h:¬ StP D U k T n):stB D U k T n=false:=by unfold stB;simp[h]
theorem stB_yes {D U:List Int} {k:Int} {T:List Int} {n:Nat} (h:StP D U k T n):stB D U k T n=true:=by unfold stB;simp[h]
theorem zc_size:(Tryz.zeroCells61).size=66:=by kernel_rfl
theorem bkZ_one:(Tryz.zeroCells61).all (fun x=>x.oneCell')=true:=by kernel_rfl
theorem results_bk {fn:Func} {p u:Tmp} (h:fn.results=#[.cell p 61,.tmp u]) (tmps:Array Value) (w:World) (g:Nat) (cs:Array Value) (v:Value) (hv:tmps.getD u undef=v)
  (hp:tmps.getD p undef=.pointer (some ⟨g,0,none⟩)) (hr:w.heap[g]?=some (.cells cs 61 (0,0))) (hs:(Tryz.prog.info? 61).map (·.size)=some cs.size) :
  (results fn tmps).run Tryz.prog w=.ok (.tuple #[.agg cs,v]) w:=by
 have hp':tmps[p]?.getD undef=.pointer (some ⟨g,0,none⟩):=by simpa using hp
 have hv':tmps[u]?.getD undef=v:=by simpa using hv
 have hl:=run_loadVar_row (P:=Tryz.prog) w g 61 61 cs (0,0) _ hr Tryz.underlying61 rfl hs;simp[results,h,hp',hv',asAddr,hl]
def ObP (w:World) (D U:List Int) (k:Int) (T:List Int) (n:Nat) (e:Ending) (w':World):Prop:=
 ∃ bk:Array Value,e=.returned (.tuple #[.agg bk,.bool (stB D U k T n)])∧bk.size=66∧bk.all (fun x=>x.oneCell')=true∧Below w.heap.size w w'∧
  (stB D U k T n=true→∃ db ub v,bk=bkC db ub k v∧SetB db (fun v=>(v:Int)∈D)∧SetB ub (fun v=>(v:Int)∈U)∧TapO w.heap.size w' v T n)
structure OBE (w:World) (sc:Array Value) (wr:World):Prop where
 below:Below w.heap.size w wr
 box:wr.heap[w.heap.size]?=some (.cells sc 26 (0,0))
 res:wr.heap[w.heap.size+1]?=some (.cells Tryz.zeroCells61 61 (0,0))
theorem OBE.lt {w wr:World} {sc:Array Value} (h:OBE w sc wr):w.heap.size<wr.heap.size:=(Array.getElem?_eq_some_iff.1 h.box).1
theorem OBE.lt2 {w wr:World} {sc:Array Value} (h:OBE w sc wr):w.heap.size+1<wr.heap.size:=(Array.getElem?_eq_some_iff.1 h.res).1
theorem OBE.call {w wr w':World} {sc:Array Value} (h:OBE w sc wr) (b:Below wr.heap.size wr w'):OBE w sc w':=
 ⟨h.below.trans (b.mono h.below.size),by rw[b.block _ h.lt];exact h.box,by rw[b.block _ h.lt2];exact h.res⟩
theorem wpList_newSS {w:World} {ops:Array Oper} {rest:List Oper} {o:Oper} {a:Act} {Q:Exit→Act→World→Prop} (hgd:o.guard=none) (x y:Operand) (ho:o.op=.store 59 x y)
  (bs:List Int) (hx:a.eval x=.pointer (some ⟨w.heap.size,0,none⟩)) (hy:a.eval y=.agg (bs.map (Value.int .u8)).toArray) (hl:bs.length=32)
  {wa:World} (hwa:wa=w.alloc (.cells #[.int .u8 0,.int .u8 0,.int .u8 0,.int .u8 0,.int .u8 0,.int .u8 0,.int .u8 0,.int .u8 0,.int .u8 0,.int .u8 0,.int .u8 0,.int .u8 0,.int .u8 0,.int .u8 0,.int .u8 0,.int .u8 0,.int .u8 0,.int .u8 0,.int .u8 0,.int .u8 0,.int .u8 0,.int .u8 0,.int .u8 0,.int .u8 0,.int .u8 0,.int .u8 0,.int .u8 0,.int .u8 0,.int .u8 0,.int .u8 0,.int .u8 0,.int .u8 0] 59)) (hK:∀ w',Row w' w.heap.size 59 bs→Below w.heap.size w w'→wpList Tryz.prog ops Q rest (a.put o.dst undef) w') :
  wpList Tryz.prog ops Q (o::rest) a wa:=by
 subst hwa;exact wpList_store_row hgd 59 x y ho w.heap.size ((bs.map (Value.int .u8)).toArray) hx hy 59 _ (heap_alloc_new w _) (by rw[Tryz.sizeSS];simp[hl]) (by simp[hl]) (all_oneCell_toArray (ints_oneCell _ _))
  (hK _ (setRow_heap _ _ _ _ _ _ (heap_alloc_new w _)) (((Below.refl _ _).alloc (Nat.le_refl _) _).trans ((Wr.setRow _ _ _).below (Nat.le_refl _))))
theorem wpList_loadG {w:World} {ops:Array Oper} {rest:List Oper} {o:Oper} {a:Act} {Q:Exit→Act→World→Prop} (x:Operand) (ho:o.op=.load 59 x) (hw:Region.wanted o (yielded ops a.tmps)=true)
  (g:Nat) (bs:List Int) (hx:a.eval x=.pointer (some ⟨g,0,none⟩)) (hr:Row w g 59 bs) (hl:bs.length=32) (hK:wpList Tryz.prog ops Q rest (a.put o.dst (.agg (bs.map (Value.int .u8)).toArray)) w) :
  wpList Tryz.prog ops Q (o::rest) a w:=
 wpList_step fun K hK'=>by
  rw[if_pos hw];exact wp_load_row 59 x ho g hx 59 _ (0,0) _ hr Tryz.underlying59 rfl (by rw[Tryz.sizeSS];simp[hl]) (hK' _ _ hK)
theorem wpList_skipG {w:World} {ops:Array Oper} {rest:List Oper} {o:Oper} {a:Act} {Q:Exit→Act→World→Prop} (x:Operand) (ho:o.op=.load 59 x) (hw:Region.wanted o (yielded ops a.tmps)=false)
  (hK:wpList Tryz.prog ops Q rest (a.put o.dst undef) w):wpList Tryz.prog ops Q (o::rest) a w:=by
 unfold wpList;rw[if_neg (by rw[hw];simp)];exact hK
theorem wp_bookB {w:World} {o:Oper} {a:Act} {K:Act→World→Prop} {Q:Exit→Act→World→Prop} (ho:o.op=.build 61 #[(0,.tmp 56),(1,.tmp 57),(2,.tmp 59),(3,.tmp 62)]) {db ub:List Int} {k:Int} {v:Value}
  (h0:a.eval (.tmp 56)=.agg (db.map (Value.int .u8)).toArray) (h1:a.eval (.tmp 57)=.agg (ub.map (Value.int .u8)).toArray) (h3:a.eval (.tmp 59)=.int .i64 k) (h6:a.eval (.tmp 62)=v) (hd:db.length=32) (hu:ub.length=32) (hv:v.cells=#[v])
  (hK:K (a.put o.dst (.agg (bkC db ub k v))) w):o.wp Tryz.prog a w K Q:=by
 have e:((#[(0,.tmp 56),(1,.tmp 57),(2,.tmp 59),(3,.tmp 62)]:Array (Nat×Operand)).map fun (x:Nat×Operand)=>(x.1,a.eval x.2)).toList=[(0,.agg (db.map (Value.int .u8)).toArray),(1,.agg (ub.map (Value.int .u8)).toArray),(2,.int .i64 k),(3,v)]:=by
  simp only[List.map_toArray,List.map_cons,List.map_nil,h0,h1,h3,h6]
 have hb:=builtB db ub hd hu k v hv;rw[←e] at hb;refine wp_build 61 _ ho ?_ ?_
 ·exact(congrArg Option.isSome hb).trans rfl
 ·have e2:((Tryz.prog.built 61 ((#[(0,.tmp 56),(1,.tmp 57),(2,.tmp 59),(3,.tmp 62)]:Array (Nat×Operand)).map fun (x:Nat×Operand)=>(x.1,a.eval x.2)).toList).getD #[])=bkC db ub k v:=by rw[hb];rfl
  exact e2 ▸ hK
theorem TapO.mono {B B':Nat} {w:World} {v:Value} {T:List Int} {n:Nat} (h:TapO B' w v T n) (hB:B≤B'):TapO B w v T n:=by
 obtain⟨h1,h2⟩:=h;refine⟨h1,?_⟩;rcases h2 with h|⟨g,c,cur,h4,h5,h6⟩
 ·exact .inl h
 ·exact .inr ⟨g,c,cur,h4,by omega,h6⟩
theorem TapO.wrh {B R:Nat} {w w':World} {v:Value} {T:List Int} {n:Nat} (h:TapO B w v T n) (hR:R<B) (hw:WrH R w w'):TapO B w' v T n:=by
 obtain⟨h1,h2⟩:=h;refine⟨h1,?_⟩;rcases h2 with h|⟨g,c,cur,h4,h5,h6,h7⟩
 ·exact .inl h
 ·exact .inr ⟨g,c,cur,h4,h5,by rw[hw.block g (Array.getElem?_eq_some_iff.1 h6).1 (by omega)];exact h6,h7⟩
theorem cells_own {B:Nat} {w:World} {v:Value} {T:List Int} {n:Nat} (h:TapO B w v T n):v.cells=#[v]:=by
 rcases h.2 with⟨h,_⟩|⟨g,c,cur,h,_⟩
 ·rw[h];rfl
 ·rw[h];rfl
def ClV (H:Nat) (w:World) (v:Value) (T:List Int) (n:Nat):Prop:=∃ B,H+1<B∧TapO B w v T n∧v.oneCell'=true
theorem ClV.wrh {H:Nat} {w w':World} {v:Value} {T:List Int} {n:Nat} (h:ClV H w v T n) (hw:WrH (H+1) w w'):ClV H w' v T n:=by
 obtain⟨B,a,b,c⟩:=h;exact⟨B,a,b.wrh a hw,c⟩
def BlV (H:Nat) (w:World) (v:Value) (d u:List Int) (k:Int) (T:List Int) (n:Nat):Prop:=∃ v6,v=.agg (bkC d u k v6)∧ClV H w v6 T n
theorem BlV.wrh {H:Nat} {w w':World} {v:Value} {d u:List Int} {k:Int} {T:List Int} {n:Nat} (h:BlV H w v d u k T n) (hw:WrH (H+1) w w'):BlV H w' v d u k T n:=by
 obtain⟨v6,a,b⟩:=h;exact⟨v6,a,b.wrh hw⟩
def ExB (w W:World) (d u:List Int) (k:Int) (T:List Int) (n:Nat) (L:Nat→Bool) (w':World):Prop:=
 WrH (w.heap.size+1) W w'∧(L 8=false→w'.heap[w.heap.size+1]?=some (.cells Tryz.zeroCells61 61 (0,0)))∧
  (L 8=true→∃ v6,w'.heap[w.heap.size+1]?=some (.cells (bkC d u k v6) 61 (0,0))∧ClV w.heap.size w' v6 T n)
section
variable {w W w' ww:World} {d u:List Int} {k:Int} {T:List Int} {n:Nat} {L:Nat→Bool}
theorem ExB.ref (h:ExB w W d u k T n L w') (i:Nat) (hi:i≠8):ExB w W d u k T n (updK L i) w':=
 ⟨h.1,by unfold updK;simpa[Ne.symm hi] using h.2.1,by unfold updK;simpa[Ne.symm hi] using h.2.2⟩
theorem ExB.low {sc:Array Value} (h:ExB w W d u k T n L w') (i:Nat) (hi:i≠8) (hE:OBE w sc W) (b:Below w'.heap.size w' ww):ExB w W d u k T n (updK L i) ww:=by
 have hlt:=Nat.lt_of_lt_of_le hE.lt2 h.1.size;refine⟨h.1.trans (WrH.of_below b),?_,?_⟩
 ·unfold updK;simp only[Ne.symm hi,if_false];intro q;rw[b.block _ hlt];exact h.2.1 (by simpa using q)
 ·unfold updK;simp only[Ne.symm hi,if_false];intro q;obtain⟨v6,a,c⟩:=h.2.2 (by simpa using q);exact⟨v6,by rw[b.block _ hlt];exact a,c.wrh (WrH.of_below b)⟩
theorem ExB.put {v6:Value} (h:ExB w W d u k T n L w') (hr:ww.heap[w.heap.size+1]?=some (.cells (bkC d u k v6) 61 (0,0))) (hw:Wr (w.heap.size+1) w' ww) (hc:ClV w.heap.size w' v6 T n):ExB w W d u k T n (updK L 8) ww:=
 ⟨h.1.trans hw.wrH,fun q=>by unfold updK at q;simp at q,fun _=>⟨v6,hr,hc.wrh hw.wrH⟩⟩
end
theorem WrH.row8 {R g:Nat} {w w':World} {t:TypeId} {bs:List Int} (h:WrH R w w') (hr:Row w g t bs) (hg:g≠R):Row w' g t bs:=by
 unfold Row;rw[h.block g hr.lt hg];exact hr
theorem At.wrh9 {w W w':World} {a:Option Addr} {T:List Int} (h:At .i64 w a T) (hb:Below w.heap.size w W) (hw:WrH (w.heap.size+1) W w'):At .i64 w' a T:=by
 rcases h with h|⟨b,off,rfl,hl,hc⟩
 ·exact .inl h
 ·refine .inr ⟨b,off,rfl,by have:=hb.size;have:=hw.size;omega,fun i hi=>?_⟩;rw[World.cell?_of_block (a:=⟨b,off+i,none⟩) (w:=W) (hw.block b (by have:=hb.size;omega) (by omega)),hb.cell (p:=⟨b,off+i,none⟩) hl];exact hc i hi
set_option maxRecDepth 100000 in
set_option maxHeartbeats 8000000 in
theorem openBookN (aD aU aT:Option Addr) (nD cD nU cU nT cT:Nat) (D U:List Int) (k:Int) (T:List Int) (w:World) (hD:D.length=nD) (hU:U.length=nU) (hT:T.length=nT*2) (mD:nD≤1048576) (mU:nU≤1048576) (mT:nT≤1048576)
  (haD:At .i64 w aD D) (haU:At .i64 w aU U) (haT:At .i64 w aT T) (hk0:-9223372036854775808≤k) (hk1:k<9223372036854775808) :
  Calls Tryz.prog 23 #[.agg #[.slice aD nD cD,.slice aU nU cU,.int .i64 k,.slice aT nT cT]] w (ObP w D U k T nT):=by
 have HE0:Hid (OBE w #[.slice aD nD cD,.slice aU nU cU,.int .i64 k,.slice aT nT cT] ((w.alloc (.cells #[.slice aD nD cD,.slice aU nU cU,.int .i64 k,.slice aT nT cT] 26)).alloc (.cells Tryz.zeroCells61 61))):=by
  refine⟨((Below.refl _ _).alloc (Nat.le_refl _) _).alloc (by simp) _,?_,?_⟩
  ·rw[Below.heap_alloc _ _ w.heap.size (by simp)];exact heap_alloc_new w _
  ·have:=heap_alloc_new (w.alloc (.cells #[.slice aD nD cD,.slice aU nU cU,.int .i64 k,.slice aT nT cT] 26)) (.cells Tryz.zeroCells61 61)
   rwa [show(w.alloc (.cells #[.slice aD nD cD,.slice aU nU cU,.int .i64 k,.slice aT nT cT] 26)).heap.size=w.heap.size+1 by simp] at this
 have HAD:=hdI <| haD
 have HAU:=hdI <| haU
 have HAT:=hdI <| haT
 have HNT:Hid (T.length=nT*2∧nT≤1048576):=⟨hT,mT⟩
 have HLN:Hid (D.length=nD∧U.length=nU):=⟨hD,hU⟩
 clear haD haU haT hT hD hU;go_enter Tryz.func23,Tryz.ntmps23;go_wp2_with fail;generalize ((w.alloc (.cells #[.slice aD nD cD,.slice aU nU cU,.int .i64 k,.slice aT nT cT] 26)).alloc (.cells Tryz.zeroCells61 61))=w0 at *;refine(setOf_any aD nD cD D _ HLN.out.1 mD (HAD.out.below HE0.out.below)).mono ?_;rintro e w1 ⟨db,rfl,dl,dby,dset,b1⟩;have HE1:=hdI <| HE0.out.call b1
 clear b1 HE0;go_wp2_with (first
  |(refine wpList_newSS rfl (.tmp 4) (.tmp 12) rfl db rfl rfl dl rfl ?_)
  |fail)
 intro w2 hr2 hb2;have HE2:=hdI <| HE1.out.call hb2
 have HRD2:=hdI <| hr2
 have hGd:=HE1.out.lt2;have c1:w2.cell? ⟨w.heap.size,1,none⟩=some (.slice aU nU cU):=by rw[cell_of_row w2 w.heap.size 1 _ _ _ HE2.out.box];rfl
 clear hr2 hb2 HE1;generalize w1.heap.size=Gd at *;go_wp2_with fail;refine(setOf_any aU nU cU U _ HLN.out.2 mU (HAU.out.below HE2.out.below)).mono ?_;rintro e w3 ⟨ub,rfl,ul,uby,uset,b3⟩;have HE3:=hdI <| HE2.out.call b3
 have HRD3:=hdI <| HRD2.out.low b3 HRD2.out.lt
 clear b3 HE2 HRD2 c1;go_wp2_with (first
  |(refine wpList_newSS rfl (.tmp 6) (.tmp 18) rfl ub rfl rfl ul rfl ?_)
  |fail)
 intro W hr4 hb4;have HEV:=hdI <| HE3.out.call hb4
 have HRD:=hdI <| HRD3.out.low hb4 HRD3.out.lt
 have HRU:=hdI <| hr4
 have hGu:=HE3.out.lt2;have c0:W.cell? ⟨w.heap.size,0,none⟩=some (.slice aD nD cD):=by rw[cell_of_row W w.heap.size 0 _ _ _ HEV.out.box];rfl
 have c1:W.cell? ⟨w.heap.size,1,none⟩=some (.slice aU nU cU):=by rw[cell_of_row W w.heap.size 1 _ _ _ HEV.out.box];rfl
 have c2:W.cell? ⟨w.heap.size,2,none⟩=some (.int .i64 k):=by rw[cell_of_row W w.heap.size 2 _ _ _ HEV.out.box];rfl
 have c3:W.cell? ⟨w.heap.size,3,none⟩=some (.slice aT nT cT):=by rw[cell_of_row W w.heap.size 3 _ _ _ HEV.out.box];rfl
 clear hr4 hb4 HE3 HRD3;generalize w3.heap.size=Gu at *;have HLD:Hid (db.length=32∧ub.length=32):=⟨dl,ul⟩
 have HDS:=hdI <| dset
 have HUS:=hdI <| uset
 have HGD:Hid (Gd≠w.heap.size+1):=by show _≠_;omega
 have HGU:Hid (Gu≠w.heap.size+1):=by show _≠_;omega
 have HSZd:Hid ((Tryz.prog.info? 59).map (·.size)=some ((db.map (Value.int .u8)).toArray).size):=by show _=_;rw[Tryz.sizeSS];simp[dl]
 have HSZu:Hid ((Tryz.prog.info? 59).map (·.size)=some ((ub.map (Value.int .u8)).toArray).size):=by show _=_;rw[Tryz.sizeSS];simp[ul]
 clear dl ul dset uset dby uby;cases hsD:serB D with
 |false=>
  have HPD:Hid (¬ SerP D):=fun h=>by rw[serB_yes h] at hsD;cases hsD
  have HRS:=hdI <| HEV.out.res
  have HFB:Hid (stB D U k T nT=false):=stB_no (fun h=>HPD.out h.1)
  go_upto_region 4 with fail
  go_wp2_with (first
   |(refine wpList_skipG (.tmp 6) rfl (by simp[Region.wanted,yielded]) ?_)
   |(refine wpList_store_row rfl 61 (.tmp 2) (.tmp 32) rfl (w.heap.size+1) Tryz.zeroCells61 rfl rfl 61 _ HRS.out Tryz.sizeBook rfl bkZ_one ?_)
   |fail)
  refine bodyPost_ret (v:=.tuple #[.agg Tryz.zeroCells61,.bool false]) (results_bk rfl _ _ (w.heap.size+1) _ _ rfl rfl (setRow_heap _ _ _ _ _ _ HRS.out) Tryz.sizeBook) rfl ?_;exact⟨Tryz.zeroCells61,by rw[HFB.out],zc_size,bkZ_one,HEV.out.below.trans ((Wr.setRow _ _ _).below (by omega)),fun h=>by rw[HFB.out] at h;cases h⟩
 |true=>
 cases hsU:serB U with
 |false=>
  have HPU:Hid (¬ SerP U):=fun h=>by rw[serB_yes h] at hsU;cases hsU
  have HRS:=hdI <| HEV.out.res
  have HFB:Hid (stB D U k T nT=false):=stB_no (fun h=>HPU.out h.2.2.1)
  go_upto_region 4 with fail
  go_wp2_with (first
   |(refine wpList_skipG (.tmp 6) rfl (by simp[Region.wanted,yielded]) ?_)
   |(refine wpList_store_row rfl 61 (.tmp 2) (.tmp 32) rfl (w.heap.size+1) Tryz.zeroCells61 rfl rfl 61 _ HRS.out Tryz.sizeBook rfl bkZ_one ?_)
   |fail)
  refine bodyPost_ret (v:=.tuple #[.agg Tryz.zeroCells61,.bool false]) (results_bk rfl _ _ (w.heap.size+1) _ _ rfl rfl (setRow_heap _ _ _ _ _ _ HRS.out) Tryz.sizeBook) rfl ?_;exact⟨Tryz.zeroCells61,by rw[HFB.out],zc_size,bkZ_one,HEV.out.below.trans ((Wr.setRow _ _ _).below (by omega)),fun h=>by rw[HFB.out] at h;cases h⟩
 |true=>
 have HPD:=hdI <| (serB_iff D).1 hsD
 have HPU:=hdI <| (serB_iff U).1 hsU
 by_cases h16:nD≤16
 ·have h16':(nD:Int)≤16:=by omega
  by_cases hk:k<0
  ·have HK9:=hdI <| hk
   have hkb:=decide_eq_true hk;clear hk hk0 hk1 c1 c3;have HRS:Hid (W.heap[w.heap.size+1]?=some (.cells Tryz.zeroCells61 61 (0,0))):=HEV.out.res;have HFB:Hid (stB D U k T nT=false):=stB_no (fun h=>by have:=h.2.2.2.1;have:=HK9.out;omega)
   go_upto_region 6 with fail
   go_wp2_with (first
    |(refine wpList_skipG (.tmp 6) rfl (by simp[Region.wanted,yielded]) ?_)
    |(refine wpList_store_row rfl 61 (.tmp 2) (.tmp 55) rfl (w.heap.size+1) Tryz.zeroCells61 rfl rfl 61 _ HRS.out Tryz.sizeBook rfl bkZ_one ?_)
    |fail)
   refine bodyPost_ret (v:=.tuple #[.agg Tryz.zeroCells61,.bool false]) (results_bk rfl _ _ (w.heap.size+1) _ _ rfl rfl (setRow_heap _ _ _ _ _ _ HRS.out) Tryz.sizeBook) rfl ?_;exact⟨Tryz.zeroCells61,by rw[HFB.out],zc_size,bkZ_one,HEV.out.below.trans ((Wr.setRow _ _ _).below (by omega)),fun h=>by rw[HFB.out] at h;cases h⟩
  ·by_cases hka:k=(nU:Int)-nT
   ·have HKA:Hid (k+nT=U.length):=by show _=_;rw[HLN.out.2];omega
    have hka':(k == (nU:Int)-nT)=true:=by simpa using hka
    have HK9:Hid (0≤k):=by show _≤_;omega
    have HKE:=hdI <| hka
    have hkb:=decide_eq_false hk;clear hka hk hk0 hk1;have HCT:=tapsFit_any aT nT cT U T ub W HNT.out.1 HNT.out.2 (HAT.out.below HEV.out.below) HPU.out (HUS.out HPU.out);go_wp2_with (first
     |(refine wpList_loadG (.tmp 6) rfl (by first|(simp[Region.wanted,yielded];done)|(simp[Region.wanted,yielded];exact HKE.out)) Gu ub rfl HRU.out HLD.out.2 ?_)
     |fail)
    refine HCT.mono ?_;rintro e W2 ⟨rfl,hb7⟩;cases htb:tapB U T nT with
    |false=>
     have HPT:Hid (¬ TapP U T nT):=fun h=>by rw[tapB_yes h] at htb;cases htb
     have HEV2:=hdI <| HEV.out.call hb7
     clear HEV hb7 HCT;have HRS:=hdI <| HEV2.out.res
     have HFB:Hid (stB D U k T nT=false):=stB_no (fun h=>HPT.out h.2.2.2.2.2)
     go_upto_region 6 with fail
     go_wp2_with (first
      |(refine wpList_skipG (.tmp 6) rfl (by simp[Region.wanted,yielded]) ?_)
      |(refine wpList_store_row rfl 61 (.tmp 2) (.tmp 55) rfl (w.heap.size+1) Tryz.zeroCells61 rfl rfl 61 _ HRS.out Tryz.sizeBook rfl bkZ_one ?_)
      |fail)
     refine bodyPost_ret (v:=.tuple #[.agg Tryz.zeroCells61,.bool false]) (results_bk rfl _ _ (w.heap.size+1) _ _ rfl rfl (setRow_heap _ _ _ _ _ _ HRS.out) Tryz.sizeBook) rfl ?_;exact⟨Tryz.zeroCells61,by rw[HFB.out],zc_size,bkZ_one,HEV2.out.below.trans ((Wr.setRow _ _ _).below (by omega)),fun h=>by rw[HFB.out] at h;cases h⟩
    |true=>
     have HPT:Hid (TapP U T nT):=by
      show TapP U T nT
      by_cases h:TapP U T nT
      ·exact h
      ·rw[tapB_no h] at htb;cases htb
     have HYE:=hdI <| stB_yes ⟨HPD.out,by rw[HLN.out.1];exact h16,HPU.out,HK9.out,HKA.out,HPT.out⟩
     have HSD:=hdI <| HDS.out HPD.out
     have HSU:=hdI <| HUS.out HPU.out
     have HEV2:=hdI <| HEV.out.call hb7
     have HRD2:=hdI <| HRD.out.low hb7 HRD.out.lt
     have HRU2:=hdI <| HRU.out.low hb7 HRU.out.lt
     clear HEV hb7 HCT HRD HRU c0 c1 c2 c3 hka' hkb;go_wp2_with fail;refine wp_region_any (by kernel_rfl) ?_;refine wpAny_slotsG (fun _ a b=>WrH (w.heap.size+1) a b) (frame:=(fun (a b c d e f g h i j k l m n o p q r s u v w x y z A B C D E F G H I J K L M N O P Q R S T U V W X Y Z a0 a1 a2 a3:Value)=>fun (t:Nat→Value)=>({ tmps:=List.toArray [a,b,c,t 9,d,e,f,g,h,i,j,k,l,m,n,o,p,q,r,s,u,v,w,x,y,z,A,B,C,D,E,F,G,H,I,J,K,L,M,N,O,P,Q,R,S,T,U,V,W,X,Y,Z,a0,a1,a2,a3,t 0,t 1,t 2,t 3,t 4,t 5,t 6,t 7],defers:=[] }:Act)) _ _ _ _ _ _ _ _ _ _ _ _ _ _ _ _ _ _ _ _ _ _ _ _ _ _ _ _ _ _ _ _ _ _ _ _ _ _ _ _ _ _ _ _ _ _ _ _ _ _ _ _ _ _ _)
      (Ext:=ExB w W2 db ub k T nT) (Good:=fun i L w' v=>if i=0 then v=.agg (db.map (Value.int .u8)).toArray else if i=1 then v=.agg (ub.map (Value.int .u8)).toArray else if i=2 then v=.pointer (some ⟨w.heap.size,2,none⟩) else if i=3 then v=.int .i64 k else if i=4 then v=.pointer (some ⟨w.heap.size,3,none⟩) else if i=5 then v=.slice aT nT cT else if i=6 then ClV w.heap.size w' v T nT else if i=7 then BlV w.heap.size w' v db ub k T nT else if i=8 then L 8=true else if i=9 then v=.bool true else True) ?hstab (by kernel_rfl) ?hop ?hdone _ _ ((fun (x0 x1 x2 x3 x4 x5 x6 x7 x9:Value)=>fun (i:Nat)=>if i=0 then x0 else if i=1 then x1 else if i=2 then x2 else if i=3 then x3 else if i=4 then x4 else if i=5 then x5 else if i=6 then x6 else if i=7 then x7 else if i=9 then x9 else undef) _ _ _ _ _ _ _ _ _) _ (by simp) ?ext ?start (by simp)
     case start=>intro i hi h;exact absurd h (by rw[Array.getD_eq_getD_getElem?,Array.getElem?_replicate];split<;>simp)
     case ext=>exact⟨⟨rfl,rfl,rfl,Nat.le_refl _,fun _ _ _=>rfl⟩,fun _=>HEV2.out.res,fun h=>by simp at h⟩
     case hstab=>
      intro j L w9 w' i v hM _ _ h;by_cases h6:j=6
      ·subst h6;simp at h ⊢;exact h.wrh hM
      by_cases h7:j=7
      ·subst h7;simp at h ⊢;exact h.wrh hM
      by_cases h8:j=8
      ·subst h8;simp at h ⊢;unfold updK;simp[h]
      simp only[if_neg h6,if_neg h7,if_neg h8] at h ⊢;exact h
     case hop=>
      intro i o L t w' ho hLi hx hdep K hK;have hi:i<10:=(Array.getElem?_eq_some_iff.1 ho).1;obtain rfl|rfl|rfl|rfl|rfl|rfl|rfl|rfl|rfl|rfl:i=0∨i=1∨i=2∨i=3∨i=4∨i=5∨i=6∨i=7∨i=8∨i=9:=by omega
      all_goals(simp at ho;subst ho)
      ·clear hdep;have hK':=hK w' (.agg (db.map (Value.int .u8)).toArray) (by simp) (hx.ref 0 (by decide)) (WrH.refl _ _);have hr:=hx.1.row8 HRD2.out HGD.out;clear hK;rw[if_pos (by rfl)];refine wp_load_row 59 (.tmp 4) rfl Gd rfl 59 _ (0,0) _ hr Tryz.underlying59 rfl HSZd.out ?_;go_simp;simpa[upd] using hK'
      ·clear hdep;have hK':=hK w' (.agg (ub.map (Value.int .u8)).toArray) (by simp) (hx.ref 1 (by decide)) (WrH.refl _ _);have hr:=hx.1.row8 HRU2.out HGU.out;clear hK;rw[if_pos (by rfl)];refine wp_load_row 59 (.tmp 6) rfl Gu rfl 59 _ (0,0) _ hr Tryz.underlying59 rfl HSZu.out ?_;go_simp;simpa[upd] using hK'
      ·clear hdep;have hK':=hK w' (.pointer (some ⟨w.heap.size,2,none⟩)) (by simp) (hx.ref 2 (by decide)) (WrH.refl _ _);clear hK;rw[if_pos (by rfl)];go_simp;simpa[upd] using hK'
      ·have d2:t 2=.pointer (some ⟨w.heap.size,2,none⟩):=by simpa using hdep ⟨2,.data⟩ (by simp) rfl
       clear hdep;have cc:w'.cell? ⟨w.heap.size,2,none⟩=some (.int .i64 k):=by rw[World.cell?_of_block (a:=⟨w.heap.size,2,none⟩) (w:=W2) (hx.1.block _ HEV2.out.lt (by show w.heap.size≠w.heap.size+1;omega)),cell_of_row W2 w.heap.size 2 _ _ _ HEV2.out.box];rfl
       have hK':=hK w' (.int .i64 k) (by simp) (hx.ref 3 (by decide)) (WrH.refl _ _);clear hK;rw[if_pos (by rfl)];go_simp;rw[HKE.out] at hK';simpa[upd,d2] using hK'
      ·clear hdep;have hK':=hK w' (.pointer (some ⟨w.heap.size,3,none⟩)) (by simp) (hx.ref 4 (by decide)) (WrH.refl _ _);clear hK;rw[if_pos (by rfl)];go_simp;simpa[upd] using hK'
      ·have d4:t 4=.pointer (some ⟨w.heap.size,3,none⟩):=by simpa using hdep ⟨4,.data⟩ (by simp) rfl
       clear hdep;have cc:w'.cell? ⟨w.heap.size,3,none⟩=some (.slice aT nT cT):=by rw[World.cell?_of_block (a:=⟨w.heap.size,3,none⟩) (w:=W2) (hx.1.block _ HEV2.out.lt (by show w.heap.size≠w.heap.size+1;omega)),cell_of_row W2 w.heap.size 3 _ _ _ HEV2.out.box];rfl
       have hK':=hK w' (.slice aT nT cT) (by simp) (hx.ref 5 (by decide)) (WrH.refl _ _);clear hK;rw[if_pos (by rfl)];go_simp;simpa[upd,d4] using hK'
      ·have d5:t 5=.slice aT nT cT:=by simpa using hdep ⟨5,.data⟩ (by simp) rfl
       clear hdep;have A:=clnT0_any aT nT cT T w' HNT.out.1 HNT.out.2 (HAT.out.wrh9 (HEV2.out.below) hx.1);have hK':∀ ww v,ClV w.heap.size ww v T nT→Below w'.heap.size w' ww→K _ ww:=fun ww v hv hb=>hK ww v (by simpa using hv) (hx.low 6 (by decide) HEV2.out hb) (WrH.of_below hb)
       clear hK;rw[if_pos (by rfl)];go_simp;try simp only[d5]
       refine A.mono ?_;rintro e w9 ⟨v9,rfl,hv9,hb9⟩;have ho9:v9.oneCell'=true:=by rcases hv9.2 with⟨h,_⟩|⟨g,c,cur,h,_⟩<;>rw[h]<;>rfl
       have hK2:=hK' w9 v9 ⟨w'.heap.size,by have:=hx.1.size;have:=HEV2.out.lt2;omega,hv9,ho9⟩ hb9;clear hK' A hv9 ho9 hb9;go_simp;simpa[upd,d5] using hK2
      ·have d0:t 0=.agg (db.map (Value.int .u8)).toArray:=by simpa using hdep ⟨0,.data⟩ (by simp) rfl
       have d1:t 1=.agg (ub.map (Value.int .u8)).toArray:=by simpa using hdep ⟨1,.data⟩ (by simp) rfl
       have d3:t 3=.int .i64 k:=by simpa using hdep ⟨3,.data⟩ (by simp) rfl
       have f6:ClV w.heap.size w' (t 6) T nT:=by simpa using hdep ⟨6,.data⟩ (by simp) rfl
       clear hdep;obtain⟨B9,hB9,hv9,ho9⟩:=f6;have hK':=hK w' (.agg (bkC db ub k (t 6))) (by simpa using⟨t 6,rfl,B9,hB9,hv9,ho9⟩) (hx.ref 7 (by decide)) (WrH.refl _ _);clear hK;rw[if_pos (by rfl)];refine wp_bookB rfl d0 d1 d3 (show _=t 6 from rfl) HLD.out.1 HLD.out.2 (cells_own hv9) ?_;simpa[upd,Act.put] using hK'
      ·have f7:BlV w.heap.size w' (t 7) db ub k T nT:=by simpa using hdep ⟨7,.data⟩ (by simp) rfl
       clear hdep;obtain⟨v9,e9,B9,hB9,hv9,ho9⟩:=f7;have hrs:=hx.2.1 hLi;have hK':∀ ww,ww.heap[w.heap.size+1]?=some (.cells (bkC db ub k v9) 61 (0,0))→Wr (w.heap.size+1) w' ww→K _ ww:=fun ww hr hw=>hK ww undef (by simp[updK]) (hx.put hr hw ⟨B9,hB9,hv9,ho9⟩) hw.wrH
       clear hK;rw[if_pos (by rfl)];refine wp_store_row 61 (.tmp 2) (.tmp 63) rfl (w.heap.size+1) (bkC db ub k v9) rfl e9 61 _ hrs (by rw[bkC_size HLD.out.1 HLD.out.2];exact Tryz.sizeBook) (by rw[bkC_size HLD.out.1 HLD.out.2];exact zc_size) (bkC_one _ _ _ ho9) ?_;have hK2:=hK' _ (setRow_heap _ _ _ _ _ _ hrs) (Wr.setRow _ _ _);clear hK';simpa[upd,Act.put] using hK2
      ·clear hdep;have hK':=hK w' (.bool true) (by simp) (hx.ref 9 (by decide)) (WrH.refl _ _);clear hK;rw[if_pos (by rfl)];go_simp;simpa[upd] using hK'
     case hdone=>
      intro L t w9 hx hg;have l8:L 8=true:=by simpa using hg 8 (by decide)
      have d9:t 9=.bool true:=by simpa using hg 9 (by decide)
      clear hg;obtain⟨v9,hr9,B9,hB9,hv9,ho9⟩:=hx.2.2 l8;have HF:Hid (ObP w D U k T nT (.returned (.tuple #[.agg (bkC db ub k v9),.bool true])) w9):=
       ⟨bkC db ub k v9,by rw[HYE.out],bkC_size HLD.out.1 HLD.out.2 _ _,bkC_one _ _ _ ho9,(HEV2.out.below).trans (hx.1.below w.heap.size (by omega) HEV2.out.below.size),fun _=>⟨db,ub,v9,rfl,HSD.out,HSU.out,hv9.mono (by omega)⟩⟩
      have HR9:=hdI <| hr9
      have HZ9:Hid ((Tryz.prog.info? 61).map (·.size)=some (bkC db ub k v9).size):=by show _=_;rw[bkC_size HLD.out.1 HLD.out.2];exact Tryz.sizeBook
      simp only[d9];clear hx hr9 hv9 ho9 d9;go_wp2_with fail;exact bodyPost_ret (v:=.tuple #[.agg (bkC db ub k v9),.bool true]) (results_bk rfl _ _ (w.heap.size+1) _ _ rfl rfl HR9.out HZ9.out) rfl HF.out
   ·have hka':(k == (nU:Int)-nT)=false:=by simpa using hka
    have HKN:=hdI <| hka
    have hkb:=decide_eq_false hk;clear hka hk hk0 hk1;have HRS:=hdI <| HEV.out.res
    have HFB:Hid (stB D U k T nT=false):=stB_no (fun h=>by have:=h.2.2.2.2.1;rw[HLN.out.2] at this;exact HKN.out (by omega))
    go_upto_region 6 with fail
    go_wp2_with (first
     |(refine wpList_skipG (.tmp 6) rfl (by simp[Region.wanted,yielded]) ?_)
     |(refine wpList_store_row rfl 61 (.tmp 2) (.tmp 55) rfl (w.heap.size+1) Tryz.zeroCells61 rfl rfl 61 _ HRS.out Tryz.sizeBook rfl bkZ_one ?_)
     |fail)
    refine bodyPost_ret (v:=.tuple #[.agg Tryz.zeroCells61,.bool false]) (results_bk rfl _ _ (w.heap.size+1) _ _ rfl rfl (setRow_heap _ _ _ _ _ _ HRS.out) Tryz.sizeBook) rfl ?_;exact⟨Tryz.zeroCells61,by rw[HFB.out],zc_size,bkZ_one,HEV.out.below.trans ((Wr.setRow _ _ _).below (by omega)),fun h=>by rw[HFB.out] at h;cases h⟩
 ·have h16':16<(nD:Int):=by omega
  have HRS:=hdI <| HEV.out.res
  have HFB:Hid (stB D U k T nT=false):=stB_no (fun h=>by have:=h.2.1;rw[HLN.out.1] at this;omega)
  go_upto_region 4 with fail
  go_wp2_with (first
   |(refine wpList_skipG (.tmp 6) rfl (by simp[Region.wanted,yielded]) ?_)
   |(refine wpList_store_row rfl 61 (.tmp 2) (.tmp 32) rfl (w.heap.size+1) Tryz.zeroCells61 rfl rfl 61 _ HRS.out Tryz.sizeBook rfl bkZ_one ?_)
   |fail)
  refine bodyPost_ret (v:=.tuple #[.agg Tryz.zeroCells61,.bool false]) (results_bk rfl _ _ (w.heap.size+1) _ _ rfl rfl (setRow_heap _ _ _ _ _ _ HRS.out) Tryz.sizeBook) rfl ?_;exact⟨Tryz.zeroCells61,by rw[HFB.out],zc_size,bkZ_one,HEV.out.below.trans ((Wr.setRow _ _ _).below (by omega)),fun h=>by rw[HFB.out] at h;cases h⟩
theorem openBook_any (aD aU aT:Option Addr) (nD cD nU cU nT cT:Nat) (D U:List Int) (k:Int) (T:List Int) (w:World) (hD:D.length=nD) (hU:U.length=nU) (hT:T.length=nT*2) (mD:nD≤1048576) (mU:nU≤1048576) (mT:nT≤1048576)
  (haD:At .i64 w aD D) (haU:At .i64 w aU U) (haT:At .i64 w aT T) (hnil:aT=none→nT=0∧cT=0) (hk0:-9223372036854775808≤k) (hk1:k<9223372036854775808) :
  Calls Tryz.prog 23 #[.agg #[.slice aD nD cD,.slice aU nU cU,.int .i64 k,.slice aT nT cT]] w (ObP w D U k T nT):=openBookN aD aU aT nD cD nU cU nT cT D U k T w hD hU hT mD mU mT haD haU haT hk0 hk1
open Classical in
noncomputable def memB (v:Int) (xs:List Int):Bool:=decide (v∈xs)
theorem memB_no {v:Int} {xs:List Int} (h:¬ v∈xs):memB v xs=false:=by unfold memB;simp[h]
theorem memB_yes {v:Int} {xs:List Int} (h:v∈xs):memB v xs=true:=by unfold memB;simp[h]
theorem getD_mem {xs:List Int} {k:Nat} (h:k<xs.length):xs.getD k 0∈xs:=by
 rw[List.getD_eq_getElem?_getD,List.getElem?_eq_getElem h];exact List.getElem_mem h
set_option maxHeartbeats 1000000 in
theorem holds_any (a:Option Addr) (n cap:Nat) (xs:List Int) (v:Int) (w:World) (hn:xs.length=n) (hm:n≤1048576) (ha:At .i64 w a xs) :
  Calls Tryz.prog 30 #[.slice a n cap,.int .i64 v] w fun e w'=>e=.returned (.bool (memB v xs))∧w'=w:=by
 have HNX:=hdI <| hn
 have HA:Hid (At .i64 w a xs):=ha;clear hn ha;go_enter Tryz.func30,Tryz.ntmps30;go_wp2
 go_loop [5] (fun i=>∃ k:Nat,k≤n∧i=.int .i64 k∧Hid (∀ j,j<k→xs.getD j 0≠v)) (fun i=>n-(intOf i).toNat)
 case atStart=>exact⟨0,Nat.zero_le _,rfl,fun j hj=>by omega⟩
 case round=>
  obtain⟨k,hk,rfl,hno⟩:=hrel;by_cases hlt:k<n
  ·have hlt':(k:Int)<n:=by omega
   obtain⟨b,off,ea,hb,hc⟩:=HA.out.get (by have:=HNX.out;omega);subst ea;have hck:=hc k (by have:=HNX.out;omega);by_cases he:xs.getD k 0=v
   ·have HM:Hid (memB v xs=true):=memB_yes (by rw[←he];exact getD_mem (by have:=HNX.out;omega));rw[he] at hck;clear hc he hb;go_wp2
    go_ret
    exact⟨by rw[HM.out];rfl,rfl⟩
   ·have HN:Hid (∀ j,j<k+1→xs.getD j 0≠v):=fun j hj=>by
     by_cases hjk:j<k
     ·exact hno.out j hjk
     ·have:j=k:=by omega
      rw[this];exact he
    have he':(xs.getD k 0 == v)=false:=by simpa using he
    clear hc hb hno he;generalize xs.getD k 0=x at *;go_wp2
    go_round
    case rel=>exact⟨k+1,by omega,by go_num,HN⟩
    case measure=>simp[intOf];omega
  ·have hlt':¬ ((k:Int)<n):=by omega
   have HM:Hid (memB v xs=false):=memB_no (fun h=>by
    obtain⟨i,hi,rfl⟩:=List.getElem_of_mem h;have:=hno.out i (by have:=HNX.out;omega);rw[List.getD_eq_getElem?_getD,List.getElem?_eq_getElem hi] at this;exact this rfl)
   go_wp2
   go_ret
   exact⟨by rw[HM.out];rfl,rfl⟩
set_option maxHeartbeats 4000000 in
theorem serials_any (a:Option Addr) (n cap:Nat) (xs:List Int) (w:World) (hn:xs.length=n) (hm:n≤1048576) (ha:At .i64 w a xs) :
  Calls Tryz.prog 29 #[.slice a n cap] w fun e w'=>e=.returned (.bool (serB xs))∧∃ q,w'=w.drewN q:=by
 have HNX:=hdI <| hn
 have HA:Hid (At .i64 w a xs):=ha;clear hn ha;go_enter Tryz.func29,Tryz.ntmps29;go_wp2
 go_loopw [3] (fun i wr=>∃ k:Nat,k≤n∧i=.int .i64 k∧Hid (∀ j,j<k→okI xs j)∧Hid (∃ q,wr=w.drewN q)) (fun i _=>n-(intOf i).toNat)
 case atStart=>exact⟨0,Nat.zero_le _,rfl,fun j hj=>by omega,⟨0,rfl⟩⟩
 case round=>
  obtain⟨k,hk,rfl,hno,hwq⟩:=hrel;obtain⟨q,rfl⟩:=hwq.out;clear hwq;by_cases hlt:k<n
  ·have hlt':(k:Int)<n:=by omega
   obtain⟨b,off,ea,hb,hc⟩:=HA.out.get (by have:=HNX.out;omega);subst ea;have hck:=hc k (by have:=HNX.out;omega);by_cases h0:xs.getD k 0<0
   ·have HS:Hid (serB xs=false):=serB_no (fun h=>by have:=(h k (by have:=HNX.out;omega)).1;omega);clear hc hb hno;generalize xs.getD k 0=x at *;go_wp2_with fail
    go_quiet (fail)
    go_wp2
    go_ret
    exact⟨by rw[HS.out];rfl,q+nq,dN _ _ _⟩
   ·have h0':decide (xs.getD k 0<0)=false:=decide_eq_false h0;by_cases h1:256≤xs.getD k 0
    ·have HS:Hid (serB xs=false):=serB_no (fun h=>by have:=(h k (by have:=HNX.out;omega)).2.1;omega);clear hc hb hno h0;generalize xs.getD k 0=x at *;go_wp2_with fail
     go_quiet (fail)
     go_wp2
     go_ret
     exact⟨by rw[HS.out];rfl,q+nq,dN _ _ _⟩
    ·have h1':decide (256≤xs.getD k 0)=false:=decide_eq_false h1;by_cases hk0:0<k
     ·obtain⟨m,rfl⟩:∃ m,k=m+1:=⟨k-1,by omega⟩
      have hck1:=hc m (by have:=HNX.out;omega);have hk0':(0:Int)<((m+1:Nat):Int):=by omega
      by_cases h2:xs.getD (m+1) 0≤xs.getD m 0
      ·have HS:Hid (serB xs=false):=serB_no (fun h=>by have:=(h (m+1) (by have:=HNX.out;omega)).2.2 (by omega);rw[Nat.add_sub_cancel] at this;omega);clear hc hb hno h0 h1 hk0;generalize xs.getD (m+1) 0=x at *;generalize xs.getD m 0=y at *;go_wp2_with fail
       go_quiet (fail)
       go_wp2
       go_ret
       exact⟨by rw[HS.out];rfl,q+nq,dN _ _ _⟩
      ·have h2':=decide_eq_false h2;have HN:Hid (∀ j,j<m+1+1→okI xs j):=fun j hj=>by
        by_cases hjk:j<m+1
        ·exact hno.out j hjk
        ·have:j=m+1:=by omega
         rw[this];exact⟨by omega,by omega,fun _=>by rw[Nat.add_sub_cancel];omega⟩
       clear hc hb hno h0 h1 hk0 h2;generalize xs.getD (m+1) 0=x at *;generalize xs.getD m 0=y at *;go_wp2_with fail
       go_quiet (fail)
       go_wp2;go_roundw
       case rel=>exact⟨m+1+1,by omega,by go_num,HN,⟨q+nq,rfl⟩⟩
       case measure=>simp[intOf];omega
     ·have hkd:=decide_eq_false (by omega);have HN:Hid (∀ j,j<k+1→okI xs j):=fun j hj=>by
       have:j=k:=by omega
       rw[this];exact⟨by omega,by omega,fun h=>by omega⟩
      clear hc hb hno h0 h1 hk0;generalize xs.getD k 0=x at *;go_wp2_with fail
      go_quiet (fail)
      go_wp2;go_roundw
      case rel=>exact⟨k+1,by omega,by go_num,HN,⟨q+nq,rfl⟩⟩
      case measure=>simp[intOf];omega
  ·have hlt':¬ ((k:Int)<n):=by omega
   have HS:=hdI <| serB_yes (fun i hi=>hno.out i (by have:=HNX.out;omega))
   go_wp2
   go_ret
   exact⟨by rw[HS.out];rfl,q,rfl⟩
structure VSE (w:World) (sc:Array Value) (wr:World):Prop where
 below:Below w.heap.size w wr
 box:wr.heap[w.heap.size]?=some (.cells sc 26 (0,0))
theorem VSE.lt {w wr:World} {sc:Array Value} (h:VSE w sc wr):w.heap.size<wr.heap.size:=(Array.getElem?_eq_some_iff.1 h.box).1
theorem VSE.call {w wr w':World} {sc:Array Value} (h:VSE w sc wr) (b:Below wr.heap.size wr w'):VSE w sc w':=⟨h.below.trans (b.mono h.below.size),by rw[b.block _ h.lt];exact h.box⟩
theorem VSE.drew {w wr:World} {sc:Array Value} (h:VSE w sc wr) (q:Nat):VSE w sc (wr.drewN q):=⟨below_dq h.below q,h.box⟩
set_option maxRecDepth 100000 in
set_option maxHeartbeats 8000000 in
theorem svs_any (aD aU aT:Option Addr) (nD cD nU cU nT cT:Nat) (D U:List Int) (k:Int) (T:List Int) (w:World) (hD:D.length=nD) (hU:U.length=nU) (hT:T.length=nT*2) (mD:nD≤1048576) (mU:nU≤1048576) (mT:nT≤1048576)
  (haD:At .i64 w aD D) (haU:At .i64 w aU U) (haT:At .i64 w aT T) (hk0:-9223372036854775808≤k) (hk1:k<9223372036854775808) :
  Calls Tryz.prog 8 #[.agg #[.slice aD nD cD,.slice aU nU cU,.int .i64 k,.slice aT nT cT]] w fun e w'=>e=.returned (.bool (stB D U k T nT))∧Below w.heap.size w w':=by
 have HE0:Hid (VSE w #[.slice aD nD cD,.slice aU nU cU,.int .i64 k,.slice aT nT cT] (w.alloc (.cells #[.slice aD nD cD,.slice aU nU cU,.int .i64 k,.slice aT nT cT] 26))):=⟨(Below.refl _ _).alloc (Nat.le_refl _) _,heap_alloc_new w _⟩
 have HAD:=hdI <| haD
 have HAU:=hdI <| haU
 have HAT:=hdI <| haT
 have HLT:=hdI <| hT
 have HLN:Hid (D.length=nD∧U.length=nU):=⟨hD,hU⟩
 have HKB:Hid (-9223372036854775808≤k∧k<9223372036854775808):=⟨hk0,hk1⟩
 clear haD haU haT hT hD hU hk0 hk1;go_enter Tryz.func8,Tryz.ntmps8;go_wp2_with fail;generalize (w.alloc (.cells #[.slice aD nD cD,.slice aU nU cU,.int .i64 k,.slice aT nT cT] 26))=w0 at *;refine(serials_any aD nD cD D _ HLN.out.1 mD (HAD.out.below HE0.out.below)).mono ?_;rintro e w1' ⟨rfl,q1,rfl⟩;have HE1:=hdI <| HE0.out.drew q1
 clear HE0;generalize w0.drewN q1=w1 at *;have HB:=hdI <| HE1.out.below
 have c0:w1.cell? ⟨w.heap.size,0,none⟩=some (.slice aD nD cD):=by rw[cell_of_row w1 w.heap.size 0 _ _ _ HE1.out.box];rfl
 have c1:w1.cell? ⟨w.heap.size,1,none⟩=some (.slice aU nU cU):=by rw[cell_of_row w1 w.heap.size 1 _ _ _ HE1.out.box];rfl
 cases hsD:serB D with
 |false=>
  have HPD:Hid (¬ SerP D):=fun h=>by rw[serB_yes h] at hsD;cases hsD
  have HFB:Hid (stB D U k T nT=false):=stB_no (fun h=>HPD.out h.1);go_wp2
  go_ret
  exact⟨by rw[HFB.out];rfl,HB.out⟩
 |true=>
 have HPD:=hdI <| (serB_iff D).1 hsD
 by_cases h16:nD≤16
 ·have h16':decide ((16:Int)<(nD:Int))=false:=decide_eq_false (by omega);go_wp2_with fail;refine(serials_any aU nU cU U _ HLN.out.2 mU (HAU.out.below HE1.out.below)).mono ?_;rintro e w2' ⟨rfl,q2,rfl⟩;have HE2:Hid (VSE w #[.slice aD nD cD,.slice aU nU cU,.int .i64 k,.slice aT nT cT] (w1.drewN q2)):=HE1.out.drew q2;clear HE1 HB c0 c1;generalize w1.drewN q2=w2 at *;have HB:=hdI <| HE2.out.below
  have c1:w2.cell? ⟨w.heap.size,1,none⟩=some (.slice aU nU cU):=by rw[cell_of_row w2 w.heap.size 1 _ _ _ HE2.out.box];rfl
  have c2:w2.cell? ⟨w.heap.size,2,none⟩=some (.int .i64 k):=by rw[cell_of_row w2 w.heap.size 2 _ _ _ HE2.out.box];rfl
  have c3:w2.cell? ⟨w.heap.size,3,none⟩=some (.slice aT nT cT):=by rw[cell_of_row w2 w.heap.size 3 _ _ _ HE2.out.box];rfl
  cases hsU:serB U with
  |false=>
   have HPU:Hid (¬ SerP U):=fun h=>by rw[serB_yes h] at hsU;cases hsU
   have HFB:Hid (stB D U k T nT=false):=stB_no (fun h=>HPU.out h.2.2.1);go_wp2
   go_ret
   exact⟨by rw[HFB.out];rfl,HB.out⟩
  |true=>
  have HPU:=hdI <| (serB_iff U).1 hsU
  by_cases hk:k<0
  ·have HK9:=hdI <| hk
   have hkb:decide (k<0)=true:=decide_eq_true hk;clear hk c1 c3;have HFB:Hid (stB D U k T nT=false):=stB_no (fun h=>by have:=h.2.2.2.1;have:=HK9.out;omega);go_wp2
   go_ret
   exact⟨by rw[HFB.out];rfl,HB.out⟩
  ·have HK9:Hid (0≤k):=by show _≤_;omega
   have hkb:=decide_eq_false hk;by_cases hka:k+(nT:Int)=nU
   ·have HKA:Hid (k+nT=U.length):=by show _=_;rw[HLN.out.2];exact hka
    have hwr:IntKind.i64.wrap (k+(nT:Int))=(nU:Int):=by rw[IntKind.wrap_i64];omega
    have hwr2:wrap64 (k+(nT:Int))=(nU:Int):=by unfold wrap64;omega
    clear hka hk;go_wp2_with fail;clear HB c1 c2 c3 hwr hwr2 hkb h16' hsD hsU
    go_loopw [3] (fun i wr=>∃ m:Nat,m≤nT∧i=.int .i64 m∧VSE w #[.slice aD nD cD,.slice aU nU cU,.int .i64 k,.slice aT nT cT] wr∧Hid (∀ j,j<m→tapI U T j)) (fun i _=>nT-(intOf i).toNat)
    case atStart=>exact⟨0,Nat.zero_le _,rfl,HE2.out,fun j hj=>by omega⟩
    case round=>
     clear HE2;obtain⟨m,hm,rfl,hE,hno⟩:=hrel;have c1:wr.cell? ⟨w.heap.size,1,none⟩=some (.slice aU nU cU):=by rw[cell_of_row wr w.heap.size 1 _ _ _ hE.box];rfl
     have c3:wr.cell? ⟨w.heap.size,3,none⟩=some (.slice aT nT cT):=by rw[cell_of_row wr w.heap.size 3 _ _ _ hE.box];rfl
     have HE:=hdI <| hE
     clear hE;by_cases hlt:m<nT
     ·have hlt':(m:Int)<nT:=by omega
      obtain⟨b,off,ea,hb,hc⟩:=(HAT.out.below HE.out.below).get (by have:=HLT.out;omega);have t0:=hc (m*2) (by have:=HLT.out;omega);have t1:=hc (m*2+1) (by have:=HLT.out;omega);rw[←Nat.add_assoc] at t1;subst ea;have HCT:Hid (∀ j,j<nT→wr.cell? ⟨b,off+j*2,none⟩=some (.int .i64 (T.getD (j*2) 0))):=fun j hj=>hc (j*2) (by have:=HLT.out;omega)
      have HBL:=hdI <| hb
      have HTI:Hid (tapI U T m↔(T.getD (m*2) 0∈U∧(0≤T.getD (m*2+1) 0∧T.getD (m*2+1) 0≤4294967295)∧∀ j,j<m→T.getD (j*2) 0≠T.getD (m*2) 0)):=Iff.rfl;generalize T.getD (m*2) 0=s at *;generalize T.getD (m*2+1) 0=nw at *;have b1:Below wr.heap.size wr (wr.alloc (.cells #[.int .i64 s,.int .i64 nw] 70)):=(Below.refl _ _).alloc (Nat.le_refl _) _;have HEW:=hdI <| HE.out.call b1
      have HBW:=hdI <| HEW.out.below
      have HRT:Hid ((wr.alloc (.cells #[.int .i64 s,.int .i64 nw] 70)).heap[wr.heap.size]?=some (.cells #[.int .i64 s,.int .i64 nw] 70 (0,0))):=heap_alloc_new wr _;have HCW:Hid (∀ j,j<nT→(wr.alloc (.cells #[.int .i64 s,.int .i64 nw] 70)).cell? ⟨b,off+j*2,none⟩=some (.int .i64 (T.getD (j*2) 0))):=fun j hj=>by rw[b1.cell (p:=⟨b,off+j*2,none⟩) HBL.out];exact HCT.out j hj
      have d1:(wr.alloc (.cells #[.int .i64 s,.int .i64 nw] 70)).cell? ⟨w.heap.size,1,none⟩=some (.slice aU nU cU):=by rw[cell_of_row _ w.heap.size 1 _ _ _ HEW.out.box];rfl
      have d3:(wr.alloc (.cells #[.int .i64 s,.int .i64 nw] 70)).cell? ⟨w.heap.size,3,none⟩=some (.slice (some ⟨b,off,none⟩) nT cT):=by rw[cell_of_row _ w.heap.size 3 _ _ _ HEW.out.box];rfl
      clear hc hb b1 HCT;by_cases hn0:nw<0
      ·have hn0':=decide_eq_true hn0;have HX:=hdI <| hn0
       clear hn0;have HFB:Hid (stB D U k T nT=false):=stB_no (fun h=>by have:=(HTI.out.1 (h.2.2.2.2.2 m hlt)).2.1.1;have:=HX.out;omega);go_wp2
       go_ret
       exact⟨by rw[HFB.out];rfl,HBW.out⟩
      ·have hn0':=decide_eq_false hn0;by_cases hn1:4294967295<nw
       ·have hn1':=decide_eq_true hn1;have HX:=hdI <| hn1
        clear hn1 hn0;have HFB:Hid (stB D U k T nT=false):=stB_no (fun h=>by have:=(HTI.out.1 (h.2.2.2.2.2 m hlt)).2.1.2;have:=HX.out;omega);go_wp2
        go_ret
        exact⟨by rw[HFB.out];rfl,HBW.out⟩
       ·have hn1':=decide_eq_false hn1;have HNW:Hid (0≤nw∧nw≤4294967295):=⟨by omega,by omega⟩
        clear hn0 hn1;go_wp2_with fail;refine(holds_any aU nU cU U s _ HLN.out.2 mU (HAU.out.below HBW.out)).mono ?_;rintro e w5 ⟨rfl,rfl⟩;by_cases hin:s∈U
        ·rw[memB_yes hin];have HIN:=hdI <| hin
         clear hin;have d0:(wr.alloc (.cells #[.int .i64 s,.int .i64 nw] 70)).cell? ⟨wr.heap.size,0,none⟩=some (.int .i64 s):=by rw[cell_of_row _ wr.heap.size 0 _ _ _ HRT.out];rfl
         have t0':=HCW.out m hlt;clear t0 t1 t0' c1 c3;go_wp2_with fail;generalize wr.alloc (.cells #[.int .i64 s,.int .i64 nw] 70)=W at *
         go_loopw [5] (fun i wq=>∃ j:Nat,j≤m∧i=.int .i64 j∧Hid (∃ p,wq=W.drewN p)∧Hid (∀ l,l<j→T.getD (l*2) 0≠s)) (fun i _=>m-(intOf i).toNat)
         case atStart=>exact⟨0,Nat.zero_le _,rfl,⟨0,rfl⟩,fun l hl=>by omega⟩
         case round=>
          obtain⟨j,hj,rfl,hwp,hne⟩:=hrel;obtain⟨p,rfl⟩:=hwp.out;clear hwp;by_cases hjm:j<m
          ·have hjm':(j:Int)<m:=by omega
           have hjn:(j:Int)<nT:=by omega
           have tj:=HCW.out j (by omega);by_cases hes:T.getD (j*2) 0=s
           ·have HX:=hdI <| hes
            have HBQ:Hid (∀ n,Below w.heap.size w ((W.drewN p).drewN n)):=fun n=>below_dq (below_dq HBW.out p) n
            rw[hes] at tj;clear hes;have HFB:Hid (stB D U k T nT=false):=stB_no (fun h=>(HTI.out.1 (h.2.2.2.2.2 m hlt)).2.2 j hjm HX.out);go_wp2_with fail
            go_quiet (fail)
            go_wp2
            go_ret
            exact⟨by rw[HFB.out];rfl,by first|exact HBQ.out _|exact below_dq HBW.out _⟩
           ·have HN:Hid (∀ l,l<j+1→T.getD (l*2) 0≠s):=fun l hl=>by
             by_cases hlj:l<j
             ·exact hne.out l hlj
             ·have:l=j:=by omega
              rw[this];exact hes
            have hes':(T.getD (j*2) 0 == s)=false:=by simpa using hes
            clear hes hne;generalize T.getD (j*2) 0=y at *;go_wp2_with fail
            go_quiet (fail)
            go_wp2;go_roundw
            case rel=>exact⟨j+1,by omega,by go_num,by first|exact⟨_,rfl⟩|exact⟨_,dN _ _ _⟩,HN⟩
            case measure=>simp[intOf];omega
          ·have hjm':¬ ((j:Int)<m):=by omega
           have HN:Hid (∀ l,l<m+1→tapI U T l):=fun l hl=>by
            by_cases hlm:l<m
            ·exact hno.out l hlm
            ·have e:l=m:=by omega
             subst e;exact HTI.out.2 ⟨HIN.out,HNW.out,fun l' hl'=>hne.out l' (by omega)⟩
           have HEQ:=hdI <| HEW.out.drew p
           go_wp2;go_roundw
           case rel=>exact⟨m+1,by omega,by go_num,HEQ.out,HN⟩
           case measure=>simp[intOf];omega
        ·rw[memB_no hin];have HIN:=hdI <| hin
         clear hin;have HFB:Hid (stB D U k T nT=false):=stB_no (fun h=>HIN.out (HTI.out.1 (h.2.2.2.2.2 m hlt)).1);go_wp2
         go_ret
         exact⟨by rw[HFB.out];rfl,HBW.out⟩
     ·have hlt':¬ ((m:Int)<nT):=by omega
      have HYE:=hdI <| stB_yes ⟨HPD.out,by rw[HLN.out.1];exact h16,HPU.out,HK9.out,HKA.out,fun i hi=>hno.out i (by omega)⟩
      have HBW:=hdI <| HE.out.below
      go_wp2
      go_ret
      exact⟨by rw[HYE.out];rfl,HBW.out⟩
   ·have HKN:=hdI <| hka
    have hwr:(IntKind.i64.wrap (k+(nT:Int)) == (nU:Int))=false:=by
     have:=HKB.out;simp only[beq_eq_false_iff_ne,ne_eq];rw[IntKind.wrap_i64];omega
    have hwr2:(wrap64 (k+(nT:Int)) == (nU:Int))=false:=by
     have:=HKB.out;simp only[beq_eq_false_iff_ne,ne_eq];unfold wrap64;omega
    clear hka hk;have HFB:Hid (stB D U k T nT=false):=stB_no (fun h=>by have:=h.2.2.2.2.1;rw[HLN.out.2] at this;exact HKN.out this);go_wp2
    go_ret
    exact⟨by rw[HFB.out];rfl,HB.out⟩
 ·have h16':=decide_eq_true (by omega);have HFB:Hid (stB D U k T nT=false):=stB_no (fun h=>by have:=h.2.1;rw[HLN.out.1] at this;omega);go_wp2
  go_ret
  exact⟨by rw[HFB.out];rfl,HB.out⟩
end Go.Proofs.YtncomnkdlpoelaaGreatDoor
namespace Go.Proofs.YtncomnkdlpoelaaGreatDoor
set_option linter.unusedVariables false
def Asc (xs:List Int):Prop:=xs.Pairwise (·<·)
theorem asc_ext:∀(xs ys:List Int),Asc xs→Asc ys→(∀ z,z∈xs↔z∈ys)→xs=ys:=by
 intro xs
 induction xs with
 |nil=>
  intro ys _ _ h;cases ys with
  |nil=>rfl
  |cons y ys=>exact absurd ((h y).2 (by simp)) (by simp)
 |cons x xs ih=>
  intro ys hx hy h;cases ys with
  |nil=>exact absurd ((h x).1 (by simp)) (by simp)
  |cons y ys=>
   have hx':=List.pairwise_cons.1 hx;have hy':=List.pairwise_cons.1 hy;have e:x=y:=by
    rcases List.mem_cons.1 ((h x).1 (by simp)) with h1|h1
    ·exact h1
    ·rcases List.mem_cons.1 ((h y).2 (by simp)) with h2|h2
     ·exact h2.symm
     ·have:=hy'.1 x h1;have:=hx'.1 y h2;omega
   subst e;rw[ih ys hx'.2 hy'.2 (fun z=>?_)];constructor
   ·intro hz;rcases List.mem_cons.1 ((h z).1 (List.mem_cons_of_mem _ hz)) with h1|h1
    ·have:=hx'.1 z hz;omega
    ·exact h1
   ·intro hz;rcases List.mem_cons.1 ((h z).2 (List.mem_cons_of_mem _ hz)) with h1|h1
    ·have:=hy'.1 z hz;omega
    ·exact h1
theorem getD_el {xs:List Int} {i:Nat} (h:i<xs.length):xs.getD i 0=xs[i]:=by simp[List.getD,h]
theorem SerP.asc {xs:List Int} (h:SerP xs):Asc xs:=by
 have q:∀ d i,i+d+1<xs.length→xs.getD i 0<xs.getD (i+d+1) 0:=by
  intro d
  induction d with
  |zero=>intro i hi;exact(h (i+0+1) hi).2.2 (by omega)
  |succ d ih=>
   intro i hi;have h1:=ih i (by omega);have h2:=(h (i+(d+1)+1) hi).2.2 (by omega);rw[show i+(d+1)+1-1=i+d+1 by omega] at h2;omega
 refine List.pairwise_iff_getElem.2 (fun i j hi hj hij=>?_);have:=q (j-i-1) i (by omega);rw[show i+(j-i-1)+1=j by omega,getD_el hi,getD_el hj] at this;exact this
theorem SerP.range {xs:List Int} (h:SerP xs) {z:Int} (hz:z∈xs):0≤z∧z<256:=by
 obtain⟨i,hi,rfl⟩:=List.getElem_of_mem hz;have:=h i hi;unfold okI at this;rw[getD_el hi] at this;exact⟨this.1,this.2.1⟩
theorem SerP.of_asc {xs:List Int} (h:Asc xs) (hr:∀ z∈xs,0≤z∧z<256):SerP xs:=by
 intro i hi;have:=hr _ (List.getElem_mem hi);refine⟨by rw[getD_el hi];exact this.1,by rw[getD_el hi];exact this.2,fun h0=>?_⟩;rw[getD_el hi,getD_el (by omega:i-1<xs.length)];exact List.pairwise_iff_getElem.1 h (i-1) i (by omega) hi (by omega)
def upTo (P:Nat→Bool) (k:Nat):List Int:=((List.range k).filter P).map Int.ofNat
theorem upTo_succ (P:Nat→Bool) (k:Nat):upTo P (k+1)=if P k=true then upTo P k++[(k:Int)] else upTo P k:=by
 unfold upTo;rw[List.range_succ,List.filter_append,List.map_append];by_cases h:P k=true
 ·rw[if_pos h];simp[h]
 ·rw[if_neg h];simp[h]
theorem upTo_mem {P:Nat→Bool} {k:Nat} {z:Int}:z∈upTo P k↔∃ v:Nat,v<k∧P v=true∧z=v:=by
 unfold upTo;simp only[List.mem_map,List.mem_filter,List.mem_range];constructor
 ·rintro⟨v,⟨h1,h2⟩,rfl⟩;exact⟨v,h1,h2,rfl⟩
 ·rintro⟨v,h1,h2,rfl⟩;exact⟨v,⟨h1,h2⟩,rfl⟩
theorem upTo_asc (P:Nat→Bool) (k:Nat):Asc (upTo P k):=by
 induction k with
 |zero=>exact List.Pairwise.nil
 |succ k ih=>
  rw[upTo_succ];split
  ·refine List.pairwise_append.2 ⟨ih,List.pairwise_singleton _ _,fun a ha b hb=>?_⟩;obtain⟨v,hv,_,rfl⟩:=upTo_mem.1 ha;rw[List.mem_singleton.1 hb];omega
  ·exact ih
theorem upTo_len (P:Nat→Bool) (k:Nat):(upTo P k).length≤k:=by
 unfold upTo;rw[List.length_map];exact Nat.le_trans (List.length_filter_le _ _) (by rw[List.length_range];exact Nat.le_refl _)
theorem upTo_ser (P:Nat→Bool):SerP (upTo P 256):=SerP.of_asc (upTo_asc P 256) (fun z hz=>by
 obtain⟨v,hv,_,rfl⟩:=upTo_mem.1 hz;omega)
theorem SerP.eq_upTo {xs:List Int} (h:SerP xs) (P:Nat→Bool) (hP:∀ v,v<256→(P v=true↔(v:Int)∈xs)):upTo P 256=xs:=by
 refine asc_ext _ _ (upTo_asc P 256) h.asc (fun z=>?_);rw[upTo_mem];constructor
 ·rintro⟨v,hv,hp,rfl⟩;exact(hP v hv).1 hp
 ·intro hz;have hr:=h.range hz;obtain⟨v,rfl⟩:=Int.eq_ofNat_of_zero_le hr.1;exact⟨v,by omega,(hP v (by omega)).2 hz,rfl⟩
def pop8 (x:Nat):Nat:=((List.range 8).filter (fun j=>x/2^j%2 == 1)).length
def popS (bs:List Int) (k:Nat):Nat:=((List.range k).map (fun i=>pop8 (bs.getD i 0).toNat)).sum
theorem popS_succ (bs:List Int) (k:Nat):popS bs (k+1)=popS bs k+pop8 (bs.getD k 0).toNat:=by
 unfold popS;rw[List.range_succ,List.map_append,List.sum_append];simp
theorem upTo_add (P:Nat→Bool) (k n:Nat):(upTo P (k+n)).length=(upTo P k).length+((List.range n).filter (fun j=>P (k+j))).length:=by
 induction n with
 |zero=>simp
 |succ n ih=>
  rw[←Nat.add_assoc,upTo_succ,List.range_succ,List.filter_append,List.length_append,←Nat.add_assoc,←ih];by_cases h:P (k+n)=true
  ·rw[if_pos h];simp[h]
  ·rw[if_neg h];simp[h]
theorem popS_upTo {bs:List Int} {Q:Nat→Prop} (hs:SetB bs Q) (P:Nat→Bool) (hP:∀ v,v<256→(P v=true↔Q v)) (k:Nat) (hk:k≤32):popS bs k=(upTo P (k*8)).length:=by
 induction k with
 |zero=>rfl
 |succ k ih=>
  rw[popS_succ,ih (by omega),show(k+1)*8=k*8+8 by omega,upTo_add]
  congr 1
  unfold pop8
  congr 1
  refine List.filter_congr (fun j hj=>?_);have hj':=List.mem_range.1 hj;have h3:=hs.2.2 (k*8+j) (by omega);rw[show(k*8+j)/8=k by omega,show(k*8+j)%8=j by omega] at h3;have h0:=(hs.2.1.get k).1;obtain⟨x,hx⟩:=Int.eq_ofNat_of_zero_le h0;rw[hx] at h3;rw[hx,Int.toNat_natCast];have e:((x:Int)/2^j%2=1)↔(x/2^j%2=1):=by
   rw[show((2:Int)^j)=((2^j:Nat):Int) by simp,←Int.natCast_ediv];omega
  rw[e] at h3;have:=h3.trans (hP (k*8+j) (by omega)).symm;by_cases hp:P (k*8+j)=true
  ·rw[hp];simpa using this.2 hp
  ·have h4:¬ (x/2^j%2=1):=fun h=>hp (this.1 h)
   rw[Bool.not_eq_true] at hp;rw[hp];simpa using h4
theorem pop_len {bs D:List Int} (hs:SetB bs (fun v=>(v:Int)∈D)) (hD:SerP D):popS bs 32=D.length:=by
 have h:=popS_upTo hs (fun v=>decide ((v:Int)∈D)) (fun v _=>by simp) 32 (by omega);rw[h,hD.eq_upTo _ (fun v _=>by simp)]
theorem without_ser {D:List Int} (hD:SerP D) (x:Int):SerP (D.filter (fun z=>z != x)):=
 SerP.of_asc (List.Pairwise.filter _ hD.asc) (fun z hz=>hD.range (List.mem_filter.1 hz).1)
end Go.Proofs.YtncomnkdlpoelaaGreatDoor
namespace Go.Proofs.YtncomnkdlpoelaaGreatDoor
open Go.ChangeShapes Go.WideShapes Go.ChangeAt Go.RowKit
set_option linter.unusedVariables false
theorem Tryz.infoI64q:(Tryz.prog.info? 2).map (fun i=>(i.zero,i.size,i.bytes))=some (some (.int .i64 0),1,8):=by kernel_rfl
def IO (B:Nat) (w:World) (v:Value) (xs:List Int):Prop:=w.ownsRow B 2 1 v xs.length (xs.map (Value.int .i64))
theorem IO.nil (B:Nat) (w:World):IO B w (.slice none 0 0) []:=⟨by simp,.inl ⟨rfl,rfl⟩⟩
theorem IO.ownBlock {B:Nat} {w:World} {v:Value} {xs:List Int} (h:IO B w v xs):∀ k,v.ownBlock=some k→B≤k:=fun k hk=>by
 rcases h.2 with⟨h',_⟩|⟨g,c,cur,h',hb,_⟩
 ·rw[h'] at hk;simp[Value.ownBlock] at hk
 ·rw[h'] at hk;simp[Value.ownBlock] at hk;omega
theorem wpList_app1 (w:World) {ops:Array Oper} {rest:List Oper} {o:Oper} {a:Act} {Q:Exit→Act→World→Prop} (hg:o.guard=none) (sx x:Operand)
  (hop:o.op=Op.call { callee:=Callee.builtin Builtin.append,args:=#[sx,x],argTypes:=#[23,23] }) (B:Nat) (v:Value) (xs:List Int) (hs:a.eval sx=v) (hown:IO B w v xs)
  (wb:World) (z:Int) (hw:w=wb.alloc (.cells #[.int .i64 z] 2)) (hx:a.eval x=.slice (some ⟨wb.heap.size,0,none⟩) 1 1) (hm:xs.length≤1048576) (hB:B≤w.heap.size)
  (hK:∀ v' w',IO B w' v' (xs++[z])→Below B w w'→wpList Tryz.prog ops Q rest (a.put o.dst v') w') :
  wpList Tryz.prog ops Q (o::rest) a w:=by
 obtain⟨i0,hi,hz0,hz1,hz2⟩:=info_parts Tryz.infoI64q;refine wpList_append_own_at w hg sx x 23 hop B 2 i0 (.int .i64 0) 1 8 Tryz.underlying23 hi hz0 hz1 hz2 rfl (by decide) v xs.length _ hs hown ⟨wb.heap.size,0,none⟩ 1 1 [.int .i64 z] hx rfl (by rw[hw];exact cell_one_new wb _ _) (by simp[Value.oneCell']) (by unfold maxLen;omega) (by omega) hB ?_;intro v' w' h1 h2 _ _;refine hK v' w' ?_ ((Below.refl _ _).grown h2 hB hown.ownBlock);unfold IO;rw[List.map_append,List.length_append];exact h1
theorem IO.alloc {B:Nat} {w:World} {v:Value} {xs:List Int} (h:IO B w v xs) (o:Obj):IO B (w.alloc o) v xs:=World.ownsRow.alloc h _
structure LIS (w:World) (P:Nat→Bool) (k:Nat) (v:Value) (wr:World):Prop where
 own:IO w.heap.size wr v (upTo P k)
 below:Below w.heap.size w wr
set_option maxRecDepth 100000 in
set_option maxHeartbeats 1000000 in
theorem list_any (g o:Nat) (bs:List Int) (P:Nat→Bool) (w:World) (hb:∀ w',Below w.heap.size w w'→BAt w' g o bs) (hs:SetB bs (fun v=>P v=true)) :
  Calls Tryz.prog 51 #[.pointer (some ⟨g,o,none⟩)] w fun e w'=>∃ v,e=.returned v∧IO w.heap.size w' v (upTo P 256)∧Below w.heap.size w w':=by
 have HB:=hdI <| hb
 have HS:=hdI <| hs
 have H0:Hid (LIS w P 0 (.slice none 0 0) w):=⟨IO.nil _ _,Below.refl _ _⟩
 clear hb hs;go_enter Tryz.func51,Tryz.ntmps51;go_wp2_with fail
 go_loopw [3,5] (fun l i wr=>∃(k:Nat) (v:Value),k≤256∧i=.int .i64 k∧v=l∧LIS w P k v wr) (fun _ i _=>256-(intOf i).toNat)
 case atStart=>exact⟨0,_,by omega,rfl,rfl,H0.out⟩
 case round=>
  clear H0;obtain⟨k,l,hk,rfl,rfl,hst⟩:=hrel;by_cases hlt:k<256
  ·have hlt':(k:Int)<256:=by omega
   have HST:=hdI <| hst
   have HQ:Hid (P k=true↔(0≤(k:Int)∧(k:Int)<256∧P (k:Int).toNat=true)):=by
    show _↔_
    rw[Int.toNat_natCast];exact⟨fun h=>⟨by omega,by omega,h⟩,fun h=>h.2.2⟩
   clear hst;go_wp2_with fail;refine(hasS_any g o k bs _ (P k) _ (HB.out _ HST.out.below) HS.out HQ.out).mono ?_;rintro e w2 ⟨rfl,rfl⟩;by_cases hp:P k=true
   ·have HN:Hid (upTo P (k+1)=upTo P k++[(k:Int)]):=by show _=_;rw[upTo_succ,if_pos hp]
    rw[hp];have HL:Hid ((upTo P k).length≤1048576):=Nat.le_trans (upTo_len P k) (by omega);have HO:Hid (IO w.heap.size (w2.alloc (.cells #[.int .i64 (k:Int)] 2)) l (upTo P k)):=HST.out.own.alloc _;have HZ:Hid (w.heap.size≤(w2.alloc (.cells #[.int .i64 (k:Int)] 2)).heap.size):=by
     show _≤_
     have:=HST.out.below.size;simp;omega
    clear hp HQ;go_wp2_with (first
     |(refine wpList_app1 _ rfl (.tmp 11) (.tmp 13) rfl w.heap.size _ (upTo P k) rfl HO.out w2 k rfl rfl HL.out HZ.out ?_)
     |fail)
    intro v' w3 h1 h2;have HF:Hid (LIS w P (k+1) v' w3):=⟨by rw[HN.out];exact h1,(HST.out.below.alloc HST.out.below.size _).trans h2⟩
    clear h1 h2 HO HZ HL;go_wp2;go_roundw
    case rel=>exact⟨k+1,_,by omega,by go_num,rfl,HF.out⟩
    case measure=>simp[intOf];omega
   ·have HF:Hid (LIS w P (k+1) l w2):=⟨by rw[upTo_succ,if_neg hp];exact HST.out.own,HST.out.below⟩
    rw[Bool.not_eq_true] at hp;rw[hp];clear hp HQ;go_wp2;go_roundw
    case rel=>exact⟨k+1,_,by omega,by go_num,rfl,HF.out⟩
    case measure=>simp[intOf];omega
  ·have hke:k=256:=by omega
   subst hke;have HF:Hid (∃ v,Ending.returned l=.returned v∧IO w.heap.size wr v (upTo P 256)∧Below w.heap.size w wr):=⟨l,rfl,hst.own,hst.below⟩
   clear hst;go_wp2
   go_ret
   exact HF.out
theorem pop8_le (x:Nat):pop8 x≤8:=by
 unfold pop8;exact Nat.le_trans (List.length_filter_le _ _) (by simp)
theorem tab_pop (T:ByteArray) (h:∀ y:Fin T.size,(T[y.val]).toNat=pop8 y.val) (x:Nat) (hx:x<T.size):wrap64 ((T[x]).toNat:Int)=pop8 x:=by
 have e:(T[x]).toNat=pop8 x:=h ⟨x,hx⟩;rw[e];have:=pop8_le x;unfold wrap64;omega
set_option maxRecDepth 100000 in
set_option maxHeartbeats 1000000 in
theorem ones8_any (x:Nat) (hx:x<256) (w:World):Calls Tryz.prog 116 #[.int .u8 x] w fun e w'=>e=.returned (.int .i64 (pop8 x))∧w'=w:=by
 have hx':(x:Int)<256:=by omega
 go_enter Tryz.func116,Tryz.ntmps116;go_wp2
 go_ret
 exact⟨congrArg (fun z=>Ending.returned (Value.int .i64 z)) (tab_pop _ (by decide +kernel) x _),rfl⟩
set_option maxRecDepth 100000 in
set_option maxHeartbeats 1000000 in
theorem size_any (g o:Nat) (bs:List Int) (w:World) (hb:BAt w g o bs) :
  Calls Tryz.prog 94 #[.pointer (some ⟨g,o,none⟩)] w fun e w'=>e=.returned (.int .i64 (popS bs 32))∧w'=w:=by
 have HB:Hid (BAt w g o bs):=hb;clear hb;go_enter Tryz.func94,Tryz.ntmps94;go_wp2_with fail
 go_loopw [3,7] (fun s i wr=>∃ k:Nat,k≤32∧i=.int .i64 k∧s=.int .i64 (popS bs k)∧popS bs k≤8*k∧wr=w) (fun _ i _=>32-(intOf i).toNat)
 case atStart=>exact⟨0,by omega,rfl,rfl,Nat.le_refl _,rfl⟩
 case round=>
  obtain⟨k,hk,rfl,rfl,hle,rfl⟩:=hrel;by_cases hlt:k<32
  ·have hlt':(k:Int)<32:=by omega
   obtain⟨h1,h2,h3⟩:=HB.out;obtain⟨c0,f0⟩:=h3 k hlt;obtain⟨x0,x1⟩:=h2.get k;have HS:Hid (popS bs (k+1)=popS bs k+pop8 (bs.getD k 0).toNat):=popS_succ bs k;obtain⟨x,hx⟩:=Int.eq_ofNat_of_zero_le x0;rw[hx] at c0 x1;have HX:Hid ((bs.getD k 0).toNat=x):=by show _=_;rw[hx];exact Int.toNat_natCast x
   have hx256:x<256:=by omega
   have hp8:pop8 x≤8:=pop8_le x;rw[HX.out] at HS;clear h1 h2 h3 hx x0 HX f0 x1;generalize popS bs k=s at *;go_wp2_with fail;refine(ones8_any x hx256 _).mono ?_;rintro e w2 ⟨rfl,rfl⟩;generalize pop8 x=p at *;go_wp2;go_roundw
   case rel=>exact⟨k+1,by omega,by go_num,by rw[HS.out,Int.natCast_add],by have:=HS.out;omega,trivial⟩
   case measure=>simp[intOf];omega
  ·have hke:k=32:=by omega
   subst hke;go_wp2
   go_ret
   exact⟨rfl,rfl⟩
end Go.Proofs.YtncomnkdlpoelaaGreatDoor
namespace Go.Proofs.YtncomnkdlpoelaaGreatDoor
open Go.ChangeShapes Go.WideShapes Go.ChangeAt Go.RowKit
set_option linter.unusedVariables false
theorem bkC_get (d u:List Int) (k:Int) (v:Value) (i:Nat):(bkC d u k v)[i]?=(d.map (Value.int .u8)++u.map (Value.int .u8)++[.int .i64 k,v])[i]?:=by unfold bkC;simp
theorem bkC_d {d u:List Int} (hd:d.length=32) (hu:u.length=32) (k:Int) (v:Value) (i:Nat) (hi:i<32):(bkC d u k v)[i]?=some (.int .u8 (d.getD i 0)):=by
 rw[bkC_get,List.append_assoc,List.getElem?_append_left (by simp[hd,hi])];simp[hd,hi]
theorem bkC_u {d u:List Int} (hd:d.length=32) (hu:u.length=32) (k:Int) (v:Value) (i:Nat) (hi:i<32):(bkC d u k v)[32+i]?=some (.int .u8 (u.getD i 0)):=by
 rw[bkC_get,List.getElem?_append_left (by simp[hd,hu];omega),List.getElem?_append_right (by simp[hd])];simp[hd,hu,hi]
theorem bkC_k {d u:List Int} (hd:d.length=32) (hu:u.length=32) (k:Int) (v:Value):(bkC d u k v)[64]?=some (.int .i64 k):=by
 rw[bkC_get,List.getElem?_append_right (by simp[hd,hu])];simp[hd,hu]
theorem bkC_v {d u:List Int} (hd:d.length=32) (hu:u.length=32) (k:Int) (v:Value):(bkC d u k v)[65]?=some v:=by
 rw[bkC_get,List.getElem?_append_right (by simp[hd,hu])];simp[hd,hu]
theorem bkC_set_d {d u:List Int} (hd:d.length=32) (k:Int) (v:Value) (i:Nat) (hi:i<32) (x:Int):(bkC d u k v).setIfInBounds i (.int .u8 x)=bkC (d.set i x) u k v:=by
 unfold bkC;rw[List.setIfInBounds_toArray,List.append_assoc,List.set_append_left _ _ (by simp[hd,hi]),←List.append_assoc,←List.map_set]
theorem bkC_set_u {d u:List Int} (hd:d.length=32) (hu:u.length=32) (k:Int) (v:Value) (i:Nat) (hi:i<32) (x:Int):(bkC d u k v).setIfInBounds (32+i) (.int .u8 x)=bkC d (u.set i x) k v:=by
 unfold bkC;rw[List.setIfInBounds_toArray,List.set_append_left _ _ (by simp[hd,hu];omega),List.set_append_right _ _ (by simp[hd]),List.length_map,hd,Nat.add_sub_cancel_left,←List.map_set]
theorem bkC_set_k {d u:List Int} (hd:d.length=32) (hu:u.length=32) (k:Int) (v:Value) (k':Int):(bkC d u k v).setIfInBounds 64 (.int .i64 k')=bkC d u k' v:=by
 unfold bkC;rw[List.setIfInBounds_toArray,List.set_append_right _ _ (by simp[hd,hu])];simp[hd,hu]
theorem bkC_set_v {d u:List Int} (hd:d.length=32) (hu:u.length=32) (k:Int) (v v':Value):(bkC d u k v).setIfInBounds 65 v'=bkC d u k v':=by
 unfold bkC;rw[List.setIfInBounds_toArray,List.set_append_right _ _ (by simp[hd,hu])];simp[hd,hu]
structure Bk (w:World) (g:Nat) (d u:List Int) (k:Int) (v:Value):Prop where
 row:w.heap[g]?=some (.cells (bkC d u k v) 61 (0,0))
 ld:d.length=32
 lu:u.length=32
 bd:Byte d
 bu:Byte u
variable {w w':World} {g:Nat} {d u:List Int} {k:Int} {v:Value}
theorem Bk.lt (h:Bk w g d u k v):g<w.heap.size:=(Array.getElem?_eq_some_iff.1 h.row).1
theorem Bk.batd (h:Bk w g d u k v):BAt w g 0 d:=⟨h.ld,h.bd,fun i hi=>by
 rw[Nat.zero_add];exact⟨(cell_of_row _ _ _ _ _ _ h.row).trans (bkC_d h.ld h.lu k v i hi),frozen_of_row _ _ _ _ _ h.row⟩⟩
theorem Bk.batu (h:Bk w g d u k v):BAt w g 32 u:=⟨h.lu,h.bu,fun i hi=>⟨(cell_of_row _ _ _ _ _ _ h.row).trans (bkC_u h.ld h.lu k v i hi),frozen_of_row _ _ _ _ _ h.row⟩⟩
theorem Bk.ck (h:Bk w g d u k v):w.cell? ⟨g,64,none⟩=some (.int .i64 k):=(cell_of_row _ _ _ _ _ _ h.row).trans (bkC_k h.ld h.lu k v)
theorem Bk.cv (h:Bk w g d u k v):w.cell? ⟨g,65,none⟩=some v:=(cell_of_row _ _ _ _ _ _ h.row).trans (bkC_v h.ld h.lu k v)
theorem Bk.fz (h:Bk w g d u k v) (i:Nat):w.frozen? ⟨g,i,none⟩=false:=frozen_of_row _ _ _ _ _ h.row
theorem Bk.below (h:Bk w g d u k v) {B:Nat} (b:Below B w w') (hg:g<B):Bk w' g d u k v:=⟨by rw[b.block g hg];exact h.row,h.ld,h.lu,h.bd,h.bu⟩
theorem Bk.drew (h:Bk w g d u k v) (q:Nat):Bk (w.drewN q) g d u k v:=⟨h.row,h.ld,h.lu,h.bd,h.bu⟩
theorem addB_len (bs:List Int) (i:Nat):(addB bs i).length=bs.length:=by unfold addB;simp
theorem remB_len (bs:List Int) (i:Nat):(remB bs i).length=bs.length:=by unfold remB;simp
theorem addB_byte {bs:List Int} (h:Byte bs) (i:Nat):Byte (addB bs i):=by
 have hx:=h.get (i/8);obtain⟨a,b,c⟩:=u8_or_bit _ (i%8) hx.1 hx.2 (by omega);exact byte_set h _ _ a b
theorem remB_byte {bs:List Int} (h:Byte bs) (i:Nat):Byte (remB bs i):=by
 have hx:=h.get (i/8);obtain⟨a,b,c⟩:=u8_not_bit _ (i%8) hx.1 hx.2 (by omega);exact byte_set h _ _ a b
theorem addB_cell (bs:List Int) (i:Nat) (h:i/8<bs.length):bs.set (i/8) ((addB bs i).getD (i/8) 0)=addB bs i:=by
 unfold addB;rw[getD_set8 _ _ _ _ h,if_pos rfl]
theorem remB_cell (bs:List Int) (i:Nat) (h:i/8<bs.length):bs.set (i/8) ((remB bs i).getD (i/8) 0)=remB bs i:=by
 unfold remB;rw[getD_set8 _ _ _ _ h,if_pos rfl]
theorem Bk.addD (h:Bk w g d u k v) (i:Nat) (hi:i<256):Bk (w.setCell ⟨g,0+i/8,none⟩ (.int .u8 ((addB d i).getD (i/8) 0))) g (addB d i) u k v:=
 ⟨by rw[Nat.zero_add,heap_setCell_same _ _ _ _ _ _ h.row,bkC_set_d h.ld _ _ _ (by omega),addB_cell _ _ (by have:=h.ld;omega)],by rw[addB_len];exact h.ld,h.lu,addB_byte h.bd i,h.bu⟩
theorem Bk.remD (h:Bk w g d u k v) (i:Nat) (hi:i<256):Bk (w.setCell ⟨g,0+i/8,none⟩ (.int .u8 ((remB d i).getD (i/8) 0))) g (remB d i) u k v:=
 ⟨by rw[Nat.zero_add,heap_setCell_same _ _ _ _ _ _ h.row,bkC_set_d h.ld _ _ _ (by omega),remB_cell _ _ (by have:=h.ld;omega)],by rw[remB_len];exact h.ld,h.lu,remB_byte h.bd i,h.bu⟩
theorem Bk.addU (h:Bk w g d u k v) (i:Nat) (hi:i<256):Bk (w.setCell ⟨g,32+i/8,none⟩ (.int .u8 ((addB u i).getD (i/8) 0))) g d (addB u i) k v:=
 ⟨by rw[heap_setCell_same _ _ _ _ _ _ h.row,bkC_set_u h.ld h.lu _ _ _ (by omega),addB_cell _ _ (by have:=h.lu;omega)],h.ld,by rw[addB_len];exact h.lu,h.bd,addB_byte h.bu i⟩
theorem Bk.setK (h:Bk w g d u k v) (k':Int):Bk (w.setCell ⟨g,64,none⟩ (.int .i64 k')) g d u k' v:=
 ⟨by rw[heap_setCell_same _ _ _ _ _ _ h.row,bkC_set_k h.ld h.lu],h.ld,h.lu,h.bd,h.bu⟩
theorem Bk.setV (h:Bk w g d u k v) (v':Value):Bk (w.setCell ⟨g,65,none⟩ v') g d u k v':=
 ⟨by rw[heap_setCell_same _ _ _ _ _ _ h.row,bkC_set_v h.ld h.lu],h.ld,h.lu,h.bd,h.bu⟩
set_option maxRecDepth 100000 in
set_option maxHeartbeats 1000000 in
theorem admitted_any (a:Option Addr) (n c:Nat) (hb:Bk w g d u k (.slice a n c)) (h0:0≤k) (h1:k≤1048576) (hn:n≤1048576) :
  Calls Tryz.prog 78 #[.pointer (some ⟨g,0,none⟩)] w fun e w'=>e=.returned (.int .i64 (k+n))∧∃ q,w'=w.drewN q:=by
 have c0:=hb.ck;have c1:=hb.cv;clear hb;go_enter Tryz.func78,Tryz.ntmps78;go_wp2_with fail
 go_region
 go_wp2
 go_ret
 exact⟨rfl,1,rfl⟩
set_option maxRecDepth 100000 in
set_option maxHeartbeats 1000000 in
theorem full_any (hb:Bk w g d u k v) :
  Calls Tryz.prog 77 #[.pointer (some ⟨g,0,none⟩)] w fun e w'=>e=.returned (.bool (decide (popS d 32=16)))∧w'=w:=by
 have HB:=hdI <| hb.batd
 clear hb;go_enter Tryz.func77,Tryz.ntmps77;go_wp2_with fail;refine(size_any g 0 d _ HB.out).mono ?_;rintro e w2 ⟨rfl,rfl⟩;clear HB;by_cases hs:popS d 32=16
 ·have HD:=hdI <| decide_eq_true hs
  rw[hs];go_wp2
  go_ret
  exact⟨by rw[HD.out];rfl,rfl⟩
 ·have HD:=hdI <| decide_eq_false hs
  have HE:Hid ((((popS d 32:Nat):Int) == 16)=false):=by
   show _=_
   have:¬ (((popS d 32:Nat):Int)=16):=by omega
   simpa using this
  clear hs;go_wp2
  go_ret
  exact⟨by rw[HD.out,←HE.out];rfl,rfl⟩
end Go.Proofs.YtncomnkdlpoelaaGreatDoor
namespace Go.Proofs.YtncomnkdlpoelaaGreatDoor
open Go.ChangeShapes Go.WideShapes Go.ChangeAt Go.RowKit
set_option linter.unusedVariables false
variable {w w':World} {g:Nat} {d u:List Int} {k:Int} {v:Value}
set_option maxRecDepth 100000 in
set_option maxHeartbeats 1000000 in
theorem ackN_any (hb:Bk w g d u k (.slice none 0 0)) (h0:0≤k) (h1:k≤1048576) :
  Calls Tryz.prog 79 #[.pointer (some ⟨g,0,none⟩),.int .i64 k] w fun e w'=>e=.returned (.tuple #[])∧∃ q,w'=(((w.setCell ⟨g,65,none⟩ (.slice none 0 0)).drewN q).setCell ⟨g,64,none⟩ (.int .i64 k)):=by
 have c0:=hb.ck;have c1:=hb.cv;have f0:=hb.fz 64;have f1:=hb.fz 65;have hb2:=hb.setV (.slice none 0 0);have c2:=hb2.ck;have f2:=hb2.fz 64;clear hb hb2;go_enter Tryz.func79,Tryz.ntmps79;go_wp2_with fail
 go_region
 go_wp2
 go_end0
 exact⟨rfl,1,rfl⟩
def ackV (t o n c m:Nat):Value:=.slice (if c=m then some ⟨t,o,none⟩ else some ⟨t,o+m*2,none⟩) (n-m:Nat) (c-m:Nat)
set_option maxRecDepth 100000 in
set_option maxHeartbeats 1000000 in
theorem ackS_any (t o n c m:Nat) (hb:Bk w g d u k (.slice (some ⟨t,o,none⟩) n c)) (h0:0≤k) (h1:k≤1048576) (hm:m≤n) (hc:n≤c) (hn:n≤1048576) (hcm:c≤9223372036854775807) :
  Calls Tryz.prog 79 #[.pointer (some ⟨g,0,none⟩),.int .i64 (k+m)] w fun e w'=>e=.returned (.tuple #[])∧∃ q,w'=(((w.setCell ⟨g,65,none⟩ (ackV t o n c m)).drewN q).setCell ⟨g,64,none⟩ (.int .i64 (k+m))):=by
 have c0:=hb.ck;have c1:=hb.cv;have f0:=hb.fz 64;have f1:=hb.fz 65;have hb2:=hb.setV (ackV t o n c m);have c2:=hb2.ck;have f2:=hb2.fz 64;have HK:Hid ((k+(m:Int)-k).toNat=m):=by show _=_;omega
 have HV:Hid (Value.slice (if c=m then some ⟨t,o,none⟩ else some ⟨t,o+m*2,none⟩) (n-m:Nat) (c-m:Nat)=ackV t o n c m):=rfl;clear hb hb2;go_enter Tryz.func79,Tryz.ntmps79;go_wp2_with fail
 go_region
 rw[HK.out,HV.out];clear HK HV;go_wp2
 go_end0
 exact⟨rfl,1,rfl⟩
end Go.Proofs.YtncomnkdlpoelaaGreatDoor
namespace Go.Proofs.YtncomnkdlpoelaaGreatDoor
open Go.ChangeShapes Go.WideShapes Go.ChangeAt Go.RowKit
set_option linter.unusedVariables false
end Go.Proofs.YtncomnkdlpoelaaGreatDoor
