import Derived.Test.YtganeokokjodoaaGreatDkJ
import Derived.Test.YtganeokokjodoaaGreatMLe
namespace Go.Proofs.YtganeokokjodoaaGreat
open Go.ChangeShapes Go.WideShapes Go.ChangeAt Go.RowKit
set_option linter.unusedVariables false
theorem foldl_put (vs:List Value):∀(k off:Nat) (cs:Array Value),off+k+vs.length≤cs.size→
  (vs.zipIdx k).foldl (fun cs (p:Value×Nat)=>cs.setIfInBounds (off+p.2) p.1) cs=(cs.toList.take (off+k)++(vs++cs.toList.drop (off+k+vs.length))).toArray:=by
 induction vs with
 |nil=>intro k off cs h;simp
 |cons v vs ih=>
  intro k off cs h;simp only[List.length_cons] at h;rw[List.zipIdx_cons,List.foldl_cons,ih (k+1) off _ (by simp;omega)]
  congr 1
  have hlt:off+k<cs.toList.length:=by simp;omega
  have e:(cs.setIfInBounds (off+k) v).toList=cs.toList.set (off+k) v:=by simp
  rw[e];rw[show off+(k+1)=off+k+1 by omega,List.take_succ_eq_append_getElem (by simpa using hlt),List.take_set_of_le (Nat.le_refl _),List.getElem_set_self,List.drop_set_of_lt (by omega)];simp;rw[show off+k+1+vs.length=off+k+(vs.length+1) by omega]
theorem fill_one (vs:List Value) (off size:Nat) (cs:Array Value) (hs:vs.length=size) (hl:off+size≤cs.size) :
  (vs.toArray.zipIdx.foldl (fun cs (p:Value×Nat)=>cs.setIfInBounds (off+p.2) p.1) cs)=(cs.toList.take off++(vs++cs.toList.drop (off+size))).toArray:=by
 have:=foldl_put vs 0 off cs (by omega)
 rw[Nat.add_zero,hs] at this
 rw[←this]
 simp
set_option maxRecDepth 100000 in
theorem Tryz.infoSL:(Tryz.prog.info? 122).map (fun i=>(i.zero,i.size,i.bytes))=some (some (.agg Tryz.zeroCells122),128,128):=by kernel_rfl
set_option maxRecDepth 100000 in
theorem run_buildS (w:World) (xs ys:List Int) (hx:xs.length=64) (hy:ys.length=64) :
  (Instr.build 122 #[(0,.agg (xs.map (Value.int .u8)).toArray),(1,.agg (ys.map (Value.int .u8)).toArray)]).run Tryz.prog w=.ok (.agg ((xs++ys).map (Value.int .u8)).toArray) w:=by
 obtain⟨i0,hi,hz0,hz1,hz2⟩:=info_parts Tryz.infoSL
 have hzv:(zeroValue 122).run Tryz.prog w=.ok (.agg Tryz.zeroCells122) w:=by simp[zeroValue,typeInfo,hi,hz0]
 have hf:Instr.fill (fun i=>some (i*64,64)) Tryz.zeroCells122 [(0,.agg (xs.map (Value.int .u8)).toArray),(1,.agg (ys.map (Value.int .u8)).toArray)]=some ((xs++ys).map (Value.int .u8)).toArray:=by
  have hzl:Tryz.zeroCells122.size=128:=by rw[zcS];simp
  have q0:(Value.agg (xs.map (Value.int .u8)).toArray).cells=(xs.map (Value.int .u8)).toArray:=rfl;have q1:(Value.agg (ys.map (Value.int .u8)).toArray).cells=(ys.map (Value.int .u8)).toArray:=rfl;have s0:(xs.map (Value.int .u8)).toArray.size=64:=by simp[hx]
  have s1:(ys.map (Value.int .u8)).toArray.size=64:=by simp[hy]
  have f0:=fill_one (xs.map (Value.int .u8)) 0 64 Tryz.zeroCells122 (by simp[hx]) (by omega);have f1:=fill_one (ys.map (Value.int .u8)) 64 64 ((Tryz.zeroCells122).toList.take 0++(xs.map (Value.int .u8)++(Tryz.zeroCells122).toList.drop (0+64))).toArray (by simp[hy]) (by simp[hx,hzl]);unfold Instr.fill;simp only[q0,s0,Nat.zero_mul,hzl];rw[if_neg (by decide),f0];unfold Instr.fill;simp only[q1,s1,Nat.one_mul];rw[if_neg (by simp[hx,hzl]),f1];unfold Instr.fill
  congr 1
  simp[hx,List.drop_append,hzl]
 unfold Instr.build
 simp only[Sem.run_bind,hzv,Result.andThen_ok,run_underlying Tryz.underlying122,sizeSecR]
 rw[show(Value.agg Tryz.zeroCells122).cells=Tryz.zeroCells122 from rfl]
 simp only[hf]
 rfl
theorem wp_buildS {w:World} {o:Oper} {a:Act} {K:Act→World→Prop} {Q:Exit→Act→World→Prop} (x y:Operand) (ho:o.op=.build 122 #[(0,x),(1,y)]) (xs ys:List Int) (hx:xs.length=64) (hy:ys.length=64)
  (ex:a.eval x=.agg (xs.map (Value.int .u8)).toArray) (ey:a.eval y=.agg (ys.map (Value.int .u8)).toArray) (hK:K (a.put o.dst (.agg ((xs++ys).map (Value.int .u8)).toArray)) w):o.wp Tryz.prog a w K Q:=by
 have hr:=run_buildS w xs ys hx hy
 unfold Oper.wp execOp
 simp only[ho,Sem.run_bind,Sem.run_pure,Result.andThen_ok,List.map_toArray,List.map_cons,List.map_nil,ex,ey,hr]
 exact hK
end Go.Proofs.YtganeokokjodoaaGreat
namespace Go.Proofs.YtganeokokjodoaaGreat
open Go.ChangeShapes Go.WideShapes Go.ChangeAt Go.RowKit
set_option linter.unusedVariables false
theorem hid_ofL {p:Prop} (h:p):Hid p:=h
structure DvI (w:World) (g:Nat) (a x:Option Addr) (L c m cx:Nat) (f:Int) (d:Bool) (zs:List Int) (ps:List PD):Prop where
 row:w.heap[g]?=some (.cells #[.slice a L c,.slice x m cx,.int .i64 f,.bool d] 40 (0,0))
 at_:At .u8 w a zs
 pat:PAt w x ps
theorem DvI.lt {w:World} {g:Nat} {a x:Option Addr} {L c m cx:Nat} {f:Int} {d:Bool} {zs:List Int} {ps:List PD} (h:DvI w g a x L c m cx f d zs ps):g<w.heap.size:=(Array.getElem?_eq_some_iff.1 h.row).1
theorem DvI.below {w w':World} {g:Nat} {a x:Option Addr} {L c m cx:Nat} {f:Int} {d:Bool} {zs:List Int} {ps:List PD} (h:DvI w g a x L c m cx f d zs ps) (b:Below w.heap.size w w'):DvI w' g a x L c m cx f d zs ps:=
 ⟨by rw[b.block g h.lt];exact h.row,h.at_.below b,h.pat.below b⟩
section
variable {w:World} {g:Nat} {a x:Option Addr} {L c m cx:Nat} {f:Int} {d:Bool} {zs:List Int} {ps:List PD}
theorem jsec_any (h:DvI w g a x L c m cx f d zs ps) (F:DvF L c m f zs ps) :
  Calls Tryz.prog 67 #[.pointer (some ⟨g,0,none⟩)] w fun e w'=>e=.returned (.int .u32 ((L/64-4:Nat):Int))∧w'=w:=by
 have c0:=cell_of_row w g 0 _ _ _ h.row
 simp at c0
 obtain⟨b1,b2,b3,b4⟩:=F.base
 clear h F
 go_enter Tryz.func67,Tryz.ntmps67
 go_wp2
 go_ret
 refine⟨?_,rfl⟩
 simp
 omega
theorem fsec_any (h:DvI w g a x L c m cx f d zs ps) (F:DvF L c m f zs ps) (q:Nat) (hq:q<4294967296) :
  Calls Tryz.prog 69 #[.pointer (some ⟨g,0,none⟩),.int .u32 (q:Int)] w fun e w'=>e=.returned (.int .i64 ((4+q%(L/64-4):Nat):Int))∧w'=w:=by
 obtain⟨b1,b2,b3,b4⟩:=F.base
 have A:=hid_ofL (jsec_any h F)
 clear h F
 obtain⟨J,hJ⟩:∃ J,L/64-4=J:=⟨_,rfl⟩
 have hJ0:((J:Int) == 0)=false:=by simp;omega
 have hJ1:0<J:=by omega
 have hJ2:J≤252:=by omega
 rw[hJ] at A ⊢
 clear hJ b1 b2 b3 b4
 go_enter Tryz.func69,Tryz.ntmps69
 go_wp2_with fail
 refine A.out.mono ?_
 rintro e _ ⟨rfl,rfl⟩
 clear A
 have e1:(q:Int)%(J:Int)=((q%J:Nat):Int):=by simp
 have hlt:=Nat.mod_lt q hJ1
 generalize hr:q%J=r at *
 go_wp2
 go_ret
 refine⟨?_,rfl⟩
 simp
 exact e1.symm
theorem slotOf_any (q:Int) (h0:0≤q) (h1:q<4294967296) (w:World):Calls Tryz.prog 66 #[.int .u32 q] w fun e w'=>e=.returned (.int .i64 (q%2))∧w'=w:=by
 go_enter Tryz.func66,Tryz.ntmps66
 go_wp2
 go_ret
 exact⟨rfl,rfl⟩
theorem wpList_buildS {ops:Array Oper} {rest:List Oper} {o:Oper} {ac:Act} {Q:Exit→Act→World→Prop} (hg:o.guard=none) (y z:Operand) (ho:o.op=.build 122 #[(0,y),(1,z)]) (xs ys:List Int) (hx:xs.length=64) (hy:ys.length=64)
  (ex:ac.eval y=.agg (xs.map (Value.int .u8)).toArray) (ey:ac.eval z=.agg (ys.map (Value.int .u8)).toArray) (hK:wpList Tryz.prog ops Q rest (ac.put o.dst (.agg ((xs++ys).map (Value.int .u8)).toArray)) w):wpList Tryz.prog ops Q (o::rest) ac w:=
 wpList_plain hg fun K hK'=>wp_buildS y z ho xs ys hx hy ex ey (hK' _ _ hK)
set_option maxRecDepth 100000 in
set_option maxHeartbeats 2000000 in
theorem rslot_any (h:DvI w g a x L c m cx f d zs ps) (F:DvF L c m f zs ps) (i:Nat) (hi:i<2) :
  Calls Tryz.prog 64 #[.pointer (some ⟨g,0,none⟩),.int .i64 (i:Int)] w fun e w'=>e=.returned (.agg ((slZ zs ps i).map (Value.int .u8)).toArray)∧Below w.heap.size w w':=by
 obtain⟨b1,b2,b3,b4⟩:=F.base
 obtain rfl|rfl:i=0∨i=1:=by omega
 ·have HL:Hid ((rdV zs ps (0:Nat)).length=64∧(rdV zs ps (1:Nat)).length=64):=⟨(F.rd 0 (by omega)).1,(F.rd 1 (by omega)).1⟩
  have hsz:((rdV zs ps (0:Nat)++rdV zs ps (1:Nat)).map (Value.int .u8)).toArray.size=128:=by rw[List.size_toArray,List.length_map,List.length_append,HL.out.1,HL.out.2]
  have HSS:Hid ((Tryz.prog.info? 122).map (·.size)=some ((rdV zs ps (0:Nat)++rdV zs ps (1:Nat)).map (Value.int .u8)).toArray.size):=by show _=_;rw[hsz];kernel_rfl
  have HEQ:Hid ((Tryz.zeroCells122).size=((rdV zs ps (0:Nat)++rdV zs ps (1:Nat)).map (Value.int .u8)).toArray.size):=by show _=_;rw[hsz];kernel_rfl
  have HOK:Hid (((rdV zs ps (0:Nat)++rdV zs ps (1:Nat)).map (Value.int .u8)).toArray.all (fun x=>x.oneCell')=true):=by show _=_;simp[Value.oneCell']
  have A:=hid_ofL (fun ww (b:Below w.heap.size w ww)=>read_any g a x L c m cx f 0 d zs ps ww (h.below b).row (by omega) F.hc F.hl F.hm (by omega) (by omega) (h.below b).at_ (h.below b).pat (fun i hi=>F.len i hi));have B:=hid_ofL (fun ww (b:Below w.heap.size w ww)=>read_any g a x L c m cx f 1 d zs ps ww (h.below b).row (by omega) F.hc F.hl F.hm (by omega) (by omega) (h.below b).at_ (h.below b).pat (fun i hi=>F.len i hi));have HB0:Hid (Below w.heap.size w (w.alloc (.cells Tryz.zeroCells122 122))):=(Below.refl _ _).alloc (Nat.le_refl _) _;have HR0:Hid ((w.alloc (.cells Tryz.zeroCells122 122)).heap[w.heap.size]?=some (.cells Tryz.zeroCells122 122 (0,0))):=heap_alloc_new w _;have hlt0:w.heap.size<(w.alloc (.cells Tryz.zeroCells122 122)).heap.size:=by simp
  unfold slZ;clear h F hsz;go_enter Tryz.func64,Tryz.ntmps64;go_wp2_with fail;generalize w.alloc (.cells Tryz.zeroCells122 122)=w0 at *;refine(A.out w0 HB0.out).mono ?_;rintro e w1 ⟨rfl,b1⟩;have HB1:=hid_ofL (HB0.out.trans (b1.mono HB0.out.size));have HR1:Hid (w1.heap[w.heap.size]?=some (.cells Tryz.zeroCells122 122 (0,0))):=by show _=_;rw[b1.block _ hlt0];exact HR0.out
  have hlt1:w.heap.size<w1.heap.size:=Nat.lt_of_lt_of_le hlt0 b1.size;clear A b1 HB0 HR0;go_wp2_with fail;refine(B.out w1 HB1.out).mono ?_;rintro e w2 ⟨rfl,b2⟩;have HB2:=hid_ofL (HB1.out.trans (b2.mono HB1.out.size));have HR2:Hid (w2.heap[w.heap.size]?=some (.cells Tryz.zeroCells122 122 (0,0))):=by show _=_;rw[b2.block _ hlt1];exact HR1.out
  clear B b2 HB1 HR1;go_wp2_with (first
   |(refine wpList_buildS rfl (.tmp 8) (.tmp 13) rfl (rdV zs ps (0:Nat)) (rdV zs ps (1:Nat)) HL.out.1 HL.out.2 rfl rfl ?_)
   |(refine wpList_store_row rfl 122 (.tmp 4) (.tmp 14) rfl w.heap.size (((rdV zs ps (0:Nat)++rdV zs ps (1:Nat)).map (Value.int .u8)).toArray) rfl rfl 122 _ HR2.out HSS.out HEQ.out HOK.out ?_)
   |fail)
  (try simp only[Exit.inBlock,Exit.then])
  exact bodyPost_ret (v:=.agg ((rdV zs ps (0:Nat)++rdV zs ps (1:Nat)).map (Value.int .u8)).toArray) (results_cell_row rfl _ _ w.heap.size 122 _ (0,0) _ rfl (setRow_heap _ _ _ _ _ _ HR2.out) Tryz.underlying122 rfl HSS.out) rfl ⟨rfl,HB2.out.trans ((Wr.setRow _ _ _).below (Nat.le_refl _))⟩
 ·have HL:Hid ((rdV zs ps (2:Nat)).length=64∧(rdV zs ps (3:Nat)).length=64):=⟨(F.rd 2 (by omega)).1,(F.rd 3 (by omega)).1⟩
  have hsz:((rdV zs ps (2:Nat)++rdV zs ps (3:Nat)).map (Value.int .u8)).toArray.size=128:=by rw[List.size_toArray,List.length_map,List.length_append,HL.out.1,HL.out.2]
  have HSS:Hid ((Tryz.prog.info? 122).map (·.size)=some ((rdV zs ps (2:Nat)++rdV zs ps (3:Nat)).map (Value.int .u8)).toArray.size):=by show _=_;rw[hsz];kernel_rfl
  have HEQ:Hid ((Tryz.zeroCells122).size=((rdV zs ps (2:Nat)++rdV zs ps (3:Nat)).map (Value.int .u8)).toArray.size):=by show _=_;rw[hsz];kernel_rfl
  have HOK:Hid (((rdV zs ps (2:Nat)++rdV zs ps (3:Nat)).map (Value.int .u8)).toArray.all (fun x=>x.oneCell')=true):=by show _=_;simp[Value.oneCell']
  have A:=hid_ofL (fun ww (b:Below w.heap.size w ww)=>read_any g a x L c m cx f 2 d zs ps ww (h.below b).row (by omega) F.hc F.hl F.hm (by omega) (by omega) (h.below b).at_ (h.below b).pat (fun i hi=>F.len i hi));have B:=hid_ofL (fun ww (b:Below w.heap.size w ww)=>read_any g a x L c m cx f 3 d zs ps ww (h.below b).row (by omega) F.hc F.hl F.hm (by omega) (by omega) (h.below b).at_ (h.below b).pat (fun i hi=>F.len i hi));have HB0:Hid (Below w.heap.size w (w.alloc (.cells Tryz.zeroCells122 122))):=(Below.refl _ _).alloc (Nat.le_refl _) _;have HR0:Hid ((w.alloc (.cells Tryz.zeroCells122 122)).heap[w.heap.size]?=some (.cells Tryz.zeroCells122 122 (0,0))):=heap_alloc_new w _;have hlt0:w.heap.size<(w.alloc (.cells Tryz.zeroCells122 122)).heap.size:=by simp
  unfold slZ;clear h F hsz;go_enter Tryz.func64,Tryz.ntmps64;go_wp2_with fail;generalize w.alloc (.cells Tryz.zeroCells122 122)=w0 at *;refine(A.out w0 HB0.out).mono ?_;rintro e w1 ⟨rfl,b1⟩;have HB1:=hid_ofL (HB0.out.trans (b1.mono HB0.out.size));have HR1:Hid (w1.heap[w.heap.size]?=some (.cells Tryz.zeroCells122 122 (0,0))):=by show _=_;rw[b1.block _ hlt0];exact HR0.out
  have hlt1:w.heap.size<w1.heap.size:=Nat.lt_of_lt_of_le hlt0 b1.size;clear A b1 HB0 HR0;go_wp2_with fail;refine(B.out w1 HB1.out).mono ?_;rintro e w2 ⟨rfl,b2⟩;have HB2:=hid_ofL (HB1.out.trans (b2.mono HB1.out.size));have HR2:Hid (w2.heap[w.heap.size]?=some (.cells Tryz.zeroCells122 122 (0,0))):=by show _=_;rw[b2.block _ hlt1];exact HR1.out
  clear B b2 HB1 HR1;go_wp2_with (first
   |(refine wpList_buildS rfl (.tmp 8) (.tmp 13) rfl (rdV zs ps (2:Nat)) (rdV zs ps (3:Nat)) HL.out.1 HL.out.2 rfl rfl ?_)
   |(refine wpList_store_row rfl 122 (.tmp 4) (.tmp 14) rfl w.heap.size (((rdV zs ps (2:Nat)++rdV zs ps (3:Nat)).map (Value.int .u8)).toArray) rfl rfl 122 _ HR2.out HSS.out HEQ.out HOK.out ?_)
   |fail)
  (try simp only[Exit.inBlock,Exit.then])
  exact bodyPost_ret (v:=.agg ((rdV zs ps (2:Nat)++rdV zs ps (3:Nat)).map (Value.int .u8)).toArray) (results_cell_row rfl _ _ w.heap.size 122 _ (0,0) _ rfl (setRow_heap _ _ _ _ _ _ HR2.out) Tryz.underlying122 rfl HSS.out) rfl ⟨rfl,HB2.out.trans ((Wr.setRow _ _ _).below (Nat.le_refl _))⟩
end
end Go.Proofs.YtganeokokjodoaaGreat
