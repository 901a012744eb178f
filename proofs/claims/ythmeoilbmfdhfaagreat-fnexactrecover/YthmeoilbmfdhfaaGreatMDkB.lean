import Derived.Test.YthmeoilbmfdhfaaGreatDkJ
import Derived.Test.YthmeoilbmfdhfaaGreatMLe
import Derived.Test.YthmeoilbmfdhfaaGreatMDevRd
import Derived.Test.YthmeoilbmfdhfaaGreatMCatF
import Derived.Deep.MidRow
namespace Go.Proofs.YthmeoilbmfdhfaaGreat
open Go.ChangeShapes Go.WideShapes Go.ChangeAt Go.RowKit
set_option linter.unusedVariables false
theorem foldl_put (vs:List Value):∀(k off:Nat) (cs:Array Value),off+k+vs.length≤cs.size→
  (vs.zipIdx k).foldl (fun cs (p:Value×Nat)=>cs.setIfInBounds (off+p.2) p.1) cs=(cs.toList.take (off+k)++(vs++cs.toList.drop (off+k+vs.length))).toArray:=by
 induction vs with
 |nil=>intro k off cs h;simp
 |cons v vs ih=>
  intro k off cs h;simp only[List.length_cons] at h;rw[List.zipIdx_cons,List.foldl_cons,ih (k+1) off _ (by simp;omega)]
  congr 1
  have hlt:off+k<cs.toList.length:=by simp;omega
  have e:(cs.setIfInBounds (off+k) v).toList=cs.toList.set (off+k) v:=by simp
  rw[e];rw[show off+(k+1)=off+k+1 by omega,List.take_succ_eq_append_getElem (by simpa using hlt),List.take_set_of_le (Nat.le_refl _),List.getElem_set_self,List.drop_set_of_lt (by omega)];simp;rw[show off+k+1+vs.length=off+k+(vs.length+1) by omega]
theorem fill_one (vs:List Value) (off size:Nat) (cs:Array Value) (hs:vs.length=size) (hl:off+size≤cs.size) :
  (vs.toArray.zipIdx.foldl (fun cs (p:Value×Nat)=>cs.setIfInBounds (off+p.2) p.1) cs)=(cs.toList.take off++(vs++cs.toList.drop (off+size))).toArray:=by
 have:=foldl_put vs 0 off cs (by omega);rw[Nat.add_zero,hs] at this;rw[←this];simp
set_option maxRecDepth 100000 in
theorem Tryz.infoSL:(Tryz.prog.info? 124).map (fun i=>(i.zero,i.size,i.bytes))=some (some (.agg Tryz.zeroCells124),128,128):=by kernel_rfl
set_option maxRecDepth 100000 in
theorem run_buildS (w:World) (xs ys:List Int) (hx:xs.length=64) (hy:ys.length=64) :
  (Instr.build 124 #[(0,.agg (xs.map (Value.int .u8)).toArray),(1,.agg (ys.map (Value.int .u8)).toArray)]).run Tryz.prog w=.ok (.agg ((xs++ys).map (Value.int .u8)).toArray) w:=by
 obtain⟨i0,hi,hz0,hz1,hz2⟩:=info_parts Tryz.infoSL;have hzv:(zeroValue 124).run Tryz.prog w=.ok (.agg Tryz.zeroCells124) w:=by simp[zeroValue,typeInfo,hi,hz0]
 have hf:Instr.fill (fun i=>some (i*64,64)) Tryz.zeroCells124 [(0,.agg (xs.map (Value.int .u8)).toArray),(1,.agg (ys.map (Value.int .u8)).toArray)]=some ((xs++ys).map (Value.int .u8)).toArray:=by
  have hzl:Tryz.zeroCells124.size=128:=by rw[zcS];simp
  have q0:(Value.agg (xs.map (Value.int .u8)).toArray).cells=(xs.map (Value.int .u8)).toArray:=rfl;have q1:(Value.agg (ys.map (Value.int .u8)).toArray).cells=(ys.map (Value.int .u8)).toArray:=rfl;have s0:(xs.map (Value.int .u8)).toArray.size=64:=by simp[hx]
  have s1:(ys.map (Value.int .u8)).toArray.size=64:=by simp[hy]
  have f0:=fill_one (xs.map (Value.int .u8)) 0 64 Tryz.zeroCells124 (by simp[hx]) (by omega);have f1:=fill_one (ys.map (Value.int .u8)) 64 64 ((Tryz.zeroCells124).toList.take 0++(xs.map (Value.int .u8)++(Tryz.zeroCells124).toList.drop (0+64))).toArray (by simp[hy]) (by simp[hx,hzl]);unfold Instr.fill;simp only[q0,s0,Nat.zero_mul,hzl];rw[if_neg (by decide),f0];unfold Instr.fill;simp only[q1,s1,Nat.one_mul];rw[if_neg (by simp[hx,hzl]),f1];unfold Instr.fill
  congr 1
  simp[hx,List.drop_append,hzl]
 unfold Instr.build;simp only[Sem.run_bind,hzv,Result.andThen_ok,run_underlying Tryz.underlying124,sizeSecR];rw[show(Value.agg Tryz.zeroCells124).cells=Tryz.zeroCells124 from rfl];simp only[hf];rfl
theorem wp_buildS {w:World} {o:Oper} {a:Act} {K:Act→World→Prop} {Q:Exit→Act→World→Prop} (x y:Operand) (ho:o.op=.build 124 #[(0,x),(1,y)]) (xs ys:List Int) (hx:xs.length=64) (hy:ys.length=64)
  (ex:a.eval x=.agg (xs.map (Value.int .u8)).toArray) (ey:a.eval y=.agg (ys.map (Value.int .u8)).toArray) (hK:K (a.put o.dst (.agg ((xs++ys).map (Value.int .u8)).toArray)) w):o.wp Tryz.prog a w K Q:=by
 have hr:=run_buildS w xs ys hx hy;unfold Oper.wp execOp;simp only[ho,Sem.run_bind,Sem.run_pure,Result.andThen_ok,List.map_toArray,List.map_cons,List.map_nil,ex,ey,hr];exact hK
theorem hid_ofL {p:Prop} (h:p):Hid p:=h
structure DvI (w:World) (g:Nat) (a x:Option Addr) (L c m cx:Nat) (f:Int) (d:Bool) (zs:List Int) (ps:List PD):Prop where
 row:w.heap[g]?=some (.cells #[.slice a L c,.slice x m cx,.int .i64 f,.bool d] 40 (0,0))
 at_:At .u8 w a zs
 pat:PAt w x ps
theorem DvI.lt {w:World} {g:Nat} {a x:Option Addr} {L c m cx:Nat} {f:Int} {d:Bool} {zs:List Int} {ps:List PD} (h:DvI w g a x L c m cx f d zs ps):g<w.heap.size:=(Array.getElem?_eq_some_iff.1 h.row).1
theorem DvI.below {w w':World} {g:Nat} {a x:Option Addr} {L c m cx:Nat} {f:Int} {d:Bool} {zs:List Int} {ps:List PD} (h:DvI w g a x L c m cx f d zs ps) (b:Below w.heap.size w w'):DvI w' g a x L c m cx f d zs ps:=
 ⟨by rw[b.block g h.lt];exact h.row,h.at_.below b,h.pat.below b⟩
section
variable {w:World} {g:Nat} {a x:Option Addr} {L c m cx:Nat} {f:Int} {d:Bool} {zs:List Int} {ps:List PD}
theorem jsec_any (h:DvI w g a x L c m cx f d zs ps) (F:DvF L c m f zs ps) :
  Calls Tryz.prog 65 #[.pointer (some ⟨g,0,none⟩)] w fun e w'=>e=.returned (.int .u32 ((L/64-4:Nat):Int))∧w'=w:=by
 have c0:=cell_of_row w g 0 _ _ _ h.row;simp at c0;obtain⟨b1,b2,b3,b4⟩:=F.base;clear h F;go_enter Tryz.func65,Tryz.ntmps65;go_wp2
 go_ret
 refine⟨?_,rfl⟩;simp;omega
theorem fsec_any (h:DvI w g a x L c m cx f d zs ps) (F:DvF L c m f zs ps) (q:Nat) (hq:q<4294967296) :
  Calls Tryz.prog 81 #[.pointer (some ⟨g,0,none⟩),.int .u32 (q:Int)] w fun e w'=>e=.returned (.int .i64 ((4+q%(L/64-4):Nat):Int))∧w'=w:=by
 obtain⟨b1,b2,b3,b4⟩:=F.base;have A:=hid_ofL (jsec_any h F);clear h F;obtain⟨J,hJ⟩:∃ J,L/64-4=J:=⟨_,rfl⟩
 have hJ0:((J:Int) == 0)=false:=by simp;omega
 have hJ1:0<J:=by omega
 have hJ2:J≤252:=by omega
 rw[hJ] at A ⊢;clear hJ b1 b2 b3 b4;go_enter Tryz.func81,Tryz.ntmps81;go_wp2_with fail;refine A.out.mono ?_;rintro e _ ⟨rfl,rfl⟩;clear A;have e1:(q:Int)%(J:Int)=((q%J:Nat):Int):=by simp
 have hlt:=Nat.mod_lt q hJ1;generalize hr:q%J=r at *;go_wp2
 go_ret
 refine⟨?_,rfl⟩;simp;exact e1.symm
theorem slotOf_any (q:Int) (h0:0≤q) (h1:q<4294967296) (w:World):Calls Tryz.prog 79 #[.int .u32 q] w fun e w'=>e=.returned (.int .i64 (q%2))∧w'=w:=by
 go_enter Tryz.func79,Tryz.ntmps79;go_wp2
 go_ret
 exact⟨rfl,rfl⟩
theorem wpList_buildS {ops:Array Oper} {rest:List Oper} {o:Oper} {ac:Act} {Q:Exit→Act→World→Prop} (hg:o.guard=none) (y z:Operand) (ho:o.op=.build 124 #[(0,y),(1,z)]) (xs ys:List Int) (hx:xs.length=64) (hy:ys.length=64)
  (ex:ac.eval y=.agg (xs.map (Value.int .u8)).toArray) (ey:ac.eval z=.agg (ys.map (Value.int .u8)).toArray) (hK:wpList Tryz.prog ops Q rest (ac.put o.dst (.agg ((xs++ys).map (Value.int .u8)).toArray)) w):wpList Tryz.prog ops Q (o::rest) ac w:=
 wpList_plain hg fun K hK'=>wp_buildS y z ho xs ys hx hy ex ey (hK' _ _ hK)
set_option maxRecDepth 100000 in
set_option maxHeartbeats 2000000 in
theorem rslot_any (h:DvI w g a x L c m cx f d zs ps) (F:DvF L c m f zs ps) (i:Nat) (hi:i<2) :
  Calls Tryz.prog 77 #[.pointer (some ⟨g,0,none⟩),.int .i64 (i:Int)] w fun e w'=>e=.returned (.agg ((slZ zs ps i).map (Value.int .u8)).toArray)∧Below w.heap.size w w':=by
 obtain⟨b1,b2,b3,b4⟩:=F.base;obtain rfl|rfl:i=0∨i=1:=by omega
 ·have HL:Hid ((rdV zs ps (0:Nat)).length=64∧(rdV zs ps (1:Nat)).length=64):=⟨(F.rd 0 (by omega)).1,(F.rd 1 (by omega)).1⟩
  have hsz:((rdV zs ps (0:Nat)++rdV zs ps (1:Nat)).map (Value.int .u8)).toArray.size=128:=by rw[List.size_toArray,List.length_map,List.length_append,HL.out.1,HL.out.2]
  have HSS:Hid ((Tryz.prog.info? 124).map (·.size)=some ((rdV zs ps (0:Nat)++rdV zs ps (1:Nat)).map (Value.int .u8)).toArray.size):=by show _=_;rw[hsz];kernel_rfl
  have HEQ:Hid ((Tryz.zeroCells124).size=((rdV zs ps (0:Nat)++rdV zs ps (1:Nat)).map (Value.int .u8)).toArray.size):=by show _=_;rw[hsz];kernel_rfl
  have HOK:Hid (((rdV zs ps (0:Nat)++rdV zs ps (1:Nat)).map (Value.int .u8)).toArray.all (fun x=>x.oneCell')=true):=by show _=_;simp[Value.oneCell']
  have A:=hid_ofL (fun ww (b:Below w.heap.size w ww)=>read_any g a x L c m cx f 0 d zs ps ww (h.below b).row (by omega) F.hc F.hl F.hm (by omega) (by omega) (h.below b).at_ (h.below b).pat (fun i hi=>F.len i hi));have B:=hid_ofL (fun ww (b:Below w.heap.size w ww)=>read_any g a x L c m cx f 1 d zs ps ww (h.below b).row (by omega) F.hc F.hl F.hm (by omega) (by omega) (h.below b).at_ (h.below b).pat (fun i hi=>F.len i hi));have HB0:Hid (Below w.heap.size w (w.alloc (.cells Tryz.zeroCells124 124))):=(Below.refl _ _).alloc (Nat.le_refl _) _;have HR0:Hid ((w.alloc (.cells Tryz.zeroCells124 124)).heap[w.heap.size]?=some (.cells Tryz.zeroCells124 124 (0,0))):=heap_alloc_new w _;have hlt0:w.heap.size<(w.alloc (.cells Tryz.zeroCells124 124)).heap.size:=by simp
  unfold slZ;clear h F hsz;go_enter Tryz.func77,Tryz.ntmps77;go_wp2_with fail;generalize w.alloc (.cells Tryz.zeroCells124 124)=w0 at *;refine(A.out w0 HB0.out).mono ?_;rintro e w1 ⟨rfl,b1⟩;have HB1:=hid_ofL (HB0.out.trans (b1.mono HB0.out.size));have HR1:Hid (w1.heap[w.heap.size]?=some (.cells Tryz.zeroCells124 124 (0,0))):=by show _=_;rw[b1.block _ hlt0];exact HR0.out
  have hlt1:w.heap.size<w1.heap.size:=Nat.lt_of_lt_of_le hlt0 b1.size;clear A b1 HB0 HR0;go_wp2_with fail;refine(B.out w1 HB1.out).mono ?_;rintro e w2 ⟨rfl,b2⟩;have HB2:=hid_ofL (HB1.out.trans (b2.mono HB1.out.size));have HR2:Hid (w2.heap[w.heap.size]?=some (.cells Tryz.zeroCells124 124 (0,0))):=by show _=_;rw[b2.block _ hlt1];exact HR1.out
  clear B b2 HB1 HR1;go_wp2_with (first
   |(refine wpList_buildS rfl (.tmp 8) (.tmp 13) rfl (rdV zs ps (0:Nat)) (rdV zs ps (1:Nat)) HL.out.1 HL.out.2 rfl rfl ?_)
   |(refine wpList_store_row rfl 124 (.tmp 4) (.tmp 14) rfl w.heap.size (((rdV zs ps (0:Nat)++rdV zs ps (1:Nat)).map (Value.int .u8)).toArray) rfl rfl 124 _ HR2.out HSS.out HEQ.out HOK.out ?_)
   |fail)
  (try simp only[Exit.inBlock,Exit.then])
  exact bodyPost_ret (v:=.agg ((rdV zs ps (0:Nat)++rdV zs ps (1:Nat)).map (Value.int .u8)).toArray) (results_cell_row rfl _ _ w.heap.size 124 _ (0,0) _ rfl (setRow_heap _ _ _ _ _ _ HR2.out) Tryz.underlying124 rfl HSS.out) rfl ⟨rfl,HB2.out.trans ((Wr.setRow _ _ _).below (Nat.le_refl _))⟩
 ·have HL:Hid ((rdV zs ps (2:Nat)).length=64∧(rdV zs ps (3:Nat)).length=64):=⟨(F.rd 2 (by omega)).1,(F.rd 3 (by omega)).1⟩
  have hsz:((rdV zs ps (2:Nat)++rdV zs ps (3:Nat)).map (Value.int .u8)).toArray.size=128:=by rw[List.size_toArray,List.length_map,List.length_append,HL.out.1,HL.out.2]
  have HSS:Hid ((Tryz.prog.info? 124).map (·.size)=some ((rdV zs ps (2:Nat)++rdV zs ps (3:Nat)).map (Value.int .u8)).toArray.size):=by show _=_;rw[hsz];kernel_rfl
  have HEQ:Hid ((Tryz.zeroCells124).size=((rdV zs ps (2:Nat)++rdV zs ps (3:Nat)).map (Value.int .u8)).toArray.size):=by show _=_;rw[hsz];kernel_rfl
  have HOK:Hid (((rdV zs ps (2:Nat)++rdV zs ps (3:Nat)).map (Value.int .u8)).toArray.all (fun x=>x.oneCell')=true):=by show _=_;simp[Value.oneCell']
  have A:=hid_ofL (fun ww (b:Below w.heap.size w ww)=>read_any g a x L c m cx f 2 d zs ps ww (h.below b).row (by omega) F.hc F.hl F.hm (by omega) (by omega) (h.below b).at_ (h.below b).pat (fun i hi=>F.len i hi));have B:=hid_ofL (fun ww (b:Below w.heap.size w ww)=>read_any g a x L c m cx f 3 d zs ps ww (h.below b).row (by omega) F.hc F.hl F.hm (by omega) (by omega) (h.below b).at_ (h.below b).pat (fun i hi=>F.len i hi));have HB0:Hid (Below w.heap.size w (w.alloc (.cells Tryz.zeroCells124 124))):=(Below.refl _ _).alloc (Nat.le_refl _) _;have HR0:Hid ((w.alloc (.cells Tryz.zeroCells124 124)).heap[w.heap.size]?=some (.cells Tryz.zeroCells124 124 (0,0))):=heap_alloc_new w _;have hlt0:w.heap.size<(w.alloc (.cells Tryz.zeroCells124 124)).heap.size:=by simp
  unfold slZ;clear h F hsz;go_enter Tryz.func77,Tryz.ntmps77;go_wp2_with fail;generalize w.alloc (.cells Tryz.zeroCells124 124)=w0 at *;refine(A.out w0 HB0.out).mono ?_;rintro e w1 ⟨rfl,b1⟩;have HB1:=hid_ofL (HB0.out.trans (b1.mono HB0.out.size));have HR1:Hid (w1.heap[w.heap.size]?=some (.cells Tryz.zeroCells124 124 (0,0))):=by show _=_;rw[b1.block _ hlt0];exact HR0.out
  have hlt1:w.heap.size<w1.heap.size:=Nat.lt_of_lt_of_le hlt0 b1.size;clear A b1 HB0 HR0;go_wp2_with fail;refine(B.out w1 HB1.out).mono ?_;rintro e w2 ⟨rfl,b2⟩;have HB2:=hid_ofL (HB1.out.trans (b2.mono HB1.out.size));have HR2:Hid (w2.heap[w.heap.size]?=some (.cells Tryz.zeroCells124 124 (0,0))):=by show _=_;rw[b2.block _ hlt1];exact HR1.out
  clear B b2 HB1 HR1;go_wp2_with (first
   |(refine wpList_buildS rfl (.tmp 8) (.tmp 13) rfl (rdV zs ps (2:Nat)) (rdV zs ps (3:Nat)) HL.out.1 HL.out.2 rfl rfl ?_)
   |(refine wpList_store_row rfl 124 (.tmp 4) (.tmp 14) rfl w.heap.size (((rdV zs ps (2:Nat)++rdV zs ps (3:Nat)).map (Value.int .u8)).toArray) rfl rfl 124 _ HR2.out HSS.out HEQ.out HOK.out ?_)
   |fail)
  (try simp only[Exit.inBlock,Exit.then])
  exact bodyPost_ret (v:=.agg ((rdV zs ps (2:Nat)++rdV zs ps (3:Nat)).map (Value.int .u8)).toArray) (results_cell_row rfl _ _ w.heap.size 124 _ (0,0) _ rfl (setRow_heap _ _ _ _ _ _ HR2.out) Tryz.underlying124 rfl HSS.out) rfl ⟨rfl,HB2.out.trans ((Wr.setRow _ _ _).below (Nat.le_refl _))⟩
end
theorem nwK_a {zs:List Int} {ps:List PD} {q:Nat} (h:(dkF (slZ zs ps q)).ok=false):nwK zs ps (q+1)=nwK zs ps q:=by
 have e:slF zs ps q=dkNo:=by unfold slF;rw[if_neg (by rw[h];simp)]
 show(if _ then _ else _)=_
 rw[if_neg (by rw[e];simp[dkNo])]
theorem nwK_b {zs:List Int} {ps:List PD} {q:Nat} (h:¬ (dkF (slZ zs ps q)).g%2=(q:Int)):nwK zs ps (q+1)=nwK zs ps q:=by
 have e:slF zs ps q=dkNo:=by unfold slF;rw[if_neg (fun k=>h k.2)]
 show(if _ then _ else _)=_
 rw[if_neg (by rw[e];simp[dkNo])]
theorem slF_yes {zs:List Int} {ps:List PD} {q:Nat} (h:(dkF (slZ zs ps q)).ok=true) (h2:(dkF (slZ zs ps q)).g%2=(q:Int)):slF zs ps q=dkF (slZ zs ps q):=by unfold slF;rw[if_pos ⟨h,h2⟩]
theorem nwK_c {zs:List Int} {ps:List PD} {q:Nat} (h:(dkF (slZ zs ps q)).ok=true) (h2:(dkF (slZ zs ps q)).g%2=(q:Int)) (h3:(nwK zs ps q).ok=false∨(nwK zs ps q).g<(dkF (slZ zs ps q)).g):nwK zs ps (q+1)=dkF (slZ zs ps q):=by
 have e:=slF_yes h h2;show(if _ then _ else _)=_
 rw[e,if_pos ⟨h,h3⟩]
theorem nwK_d {zs:List Int} {ps:List PD} {q:Nat} (h:(dkF (slZ zs ps q)).ok=true) (h2:(dkF (slZ zs ps q)).g%2=(q:Int)) (h3:(nwK zs ps q).ok=true) (h4:¬ (nwK zs ps q).g<(dkF (slZ zs ps q)).g):nwK zs ps (q+1)=nwK zs ps q:=by
 have e:=slF_yes h h2;show(if _ then _ else _)=_
 rw[e,if_neg (by rw[h3];simp;intro _;omega)]
theorem dkF_u32 {zs:List Int} (h:Byte zs):0≤(dkF zs).g∧(dkF zs).g<4294967296:=by
 unfold dkF;split
 ·have:=num4_u3n zs h 0;unfold U32 at this;exact⟨by show 0≤num4 zs 0;omega,by show num4 zs 0<_;omega⟩
 ·exact⟨by decide,by decide⟩
structure NX (w:World) (r:DkR) (wr:World):Prop where
 bel:Below w.heap.size w wr
 res:wr.heap[w.heap.size]?=some (.cells #[.bool false,.int .u32 0,.int .u32 0,.slice none 0 0,.slice none 0 0] 63 (0,0))
 new:∃ aD nD cD aU nU cU,wr.heap[w.heap.size+1]?=some (.cells #[.bool r.ok,.int .u32 r.g,.int .u32 r.t,.slice aD nD cD,.slice aU nU cU] 63 (0,0))∧S3 (w.heap.size+2) wr aD aU none nD nU 0 r.D r.U []
theorem NX.lt {w wr:World} {r:DkR} (h:NX w r wr):w.heap.size+1<wr.heap.size:=by obtain⟨_,_,_,_,_,_,h1,_⟩:=h.new;exact(Array.getElem?_eq_some_iff.1 h1).1
theorem NX.below {w wr w':World} {r:DkR} (h:NX w r wr) (b:Below wr.heap.size wr w'):NX w r w':=by
 have hl:=h.lt;obtain⟨aD,nD,cD,aU,nU,cU,h1,h2⟩:=h.new;exact⟨h.bel.trans (b.mono h.bel.size),by rw[b.block _ (by omega)];exact h.res,aD,nD,cD,aU,nU,cU,by rw[b.block _ hl];exact h1,h2.below b⟩
theorem NX.start (w:World):NX w dkNo ((w.alloc (.cells #[.bool false,.int .u32 0,.int .u32 0,.slice none 0 0,.slice none 0 0] 63)).alloc (.cells #[.bool false,.int .u32 0,.int .u32 0,.slice none 0 0,.slice none 0 0] 63)):=by
 refine⟨((Below.refl _ _).alloc (Nat.le_refl _) _).alloc (by simp) _,?_,none,0,0,none,0,0,?_,.inl rfl,.inl rfl,.inl rfl,rfl,rfl,rfl,fun _ h=>(by cases h),fun _ h=>(by cases h),fun _ h=>(by cases h),fun _ _ h=>(by cases h),fun _ _ h=>(by cases h),fun _ _ h=>(by cases h)⟩
 ·rw[Below.heap_alloc _ _ w.heap.size (by simp)];exact heap_alloc_new w _
 ·have:=heap_alloc_new (w.alloc (.cells #[.bool false,.int .u32 0,.int .u32 0,.slice none 0 0,.slice none 0 0] 63)) (.cells #[.bool false,.int .u32 0,.int .u32 0,.slice none 0 0,.slice none 0 0] 63);rw[World.size_alloc] at this;exact this
set_option maxRecDepth 100000 in
set_option maxHeartbeats 4000000 in
theorem newest_any {w:World} {g:Nat} {a x:Option Addr} {L c m cx:Nat} {f:Int} {d:Bool} {zs:List Int} {ps:List PD} (h:DvI w g a x L c m cx f d zs ps) (F:DvF L c m f zs ps) :
  Calls Tryz.prog 35 #[.pointer (some ⟨g,0,none⟩)] w fun e w'=>∃ v,e=.returned v∧DVA w.heap.size w' v (nwK zs ps 2)∧Below w.heap.size w w':=by
 have HD:=hid_ofL h;have HN0:=hid_ofL (NX.start w);have HSR:Hid ((Tryz.prog.info? 63).map (·.size)=some 5):=by show _=_;kernel_rfl
 clear h;go_enter Tryz.func35,Tryz.ntmps35;go_wp2_with fail
 go_loopw [7] (fun i wr=>∃ q:Nat,q≤2∧i=.int .i64 q∧NX w (nwK zs ps q) wr) (fun i _=>2-(intOf i).toNat)
 case atStart=>exact⟨0,by omega,rfl,HN0.out⟩
 case round=>
  clear HN0;obtain⟨q,hq,rfl,hN⟩:=hrel;have HN:=hid_ofL hN;clear hN;by_cases hlt:q<2
  ·have hlt':(q:Int)<2:=by omega
   obtain⟨sl,sb⟩:=F.sl q hlt;have A:=hid_ofL (rslot_any (HD.out.below (HN.out.bel)) F q hlt);have HU:=hid_ofL (dkF_u32 sb);have hsz:((slZ zs ps q).map (Value.int .u8)).toArray.size=128:=by rw[List.size_toArray,List.length_map];exact sl
   have HSS:Hid ((Tryz.prog.info? 124).map (·.size)=some ((slZ zs ps q).map (Value.int .u8)).toArray.size):=by show _=_;rw[hsz];kernel_rfl
   have HEQ:Hid ((Tryz.zeroCells124).size=((slZ zs ps q).map (Value.int .u8)).toArray.size):=by show _=_;rw[hsz];kernel_rfl
   have HOK:Hid (((slZ zs ps q).map (Value.int .u8)).toArray.all (fun x=>x.oneCell')=true):=by show _=_;simp[Value.oneCell']
   have HLB:=hid_ofL (And.intro sl sb);clear hsz sl sb;go_wp2_with fail;refine A.out.mono ?_;rintro e w1 ⟨rfl,b1⟩;have HN1:=hid_ofL (HN.out.below b1);clear A b1 HN;have HB2:Hid (Below w1.heap.size w1 ((w1.alloc (.cells Tryz.zeroCells124 124)).setRow w1.heap.size ((slZ zs ps q).map (Value.int .u8)).toArray)):=((Below.refl _ _).alloc (Nat.le_refl _) _).trans ((Wr.setRow _ _ _).below (Nat.le_refl _));have HR2:Hid (Row ((w1.alloc (.cells Tryz.zeroCells124 124)).setRow w1.heap.size ((slZ zs ps q).map (Value.int .u8)).toArray) w1.heap.size 124 (slZ zs ps q)):=setRow_heap _ _ _ _ _ _ (heap_alloc_new w1 _);go_wp2_with (first
    |(refine wpList_store_row rfl 124 (.tmp 5) (.tmp 12) rfl w1.heap.size (((slZ zs ps q).map (Value.int .u8)).toArray) rfl rfl 124 _ (heap_alloc_new w1 _) HSS.out HEQ.out HOK.out ?_)
    |fail)
   have HN2:=hid_ofL (HN1.out.below HB2.out);clear HN1 HB2 HSS HEQ HOK;generalize (w1.alloc (.cells Tryz.zeroCells124 124)).setRow w1.heap.size ((slZ zs ps q).map (Value.int .u8)).toArray=w2 at *;have A:=hid_ofL (snap_any w1.heap.size (slZ zs ps q) w2 HR2.out HLB.out.1 HLB.out.2);clear HR2;go_wp2_with fail;refine A.out.mono ?_;rintro e w3 ⟨v3,rfl,hv3,b3⟩;obtain⟨aD,nD,cD,aU,nU,cU,rfl,s3⟩:=hv3;have HN3:=hid_ofL (HN2.out.below b3);have HS3:Hid (S3 (w.heap.size+2) w3 aD aU none nD nU 0 (dkF (slZ zs ps q)).D (dkF (slZ zs ps q)).U []):=by
    have:=HN2.out.lt;exact⟨s3.d,s3.u,s3.t,s3.nd,s3.nu,s3.nt,s3.ld.mono (by omega) (Nat.le_refl _),s3.lu.mono (by omega) (Nat.le_refl _),s3.lt.mono (by omega) (Nat.le_refl _),s3.du,s3.dt,s3.ut⟩
   have Ka:=hid_ofL (nwK_a (zs:=zs) (ps:=ps) (q:=q));have Kb:=hid_ofL (nwK_b (zs:=zs) (ps:=ps) (q:=q));have Kc:=hid_ofL (nwK_c (zs:=zs) (ps:=ps) (q:=q));have Kd:=hid_ofL (nwK_d (zs:=zs) (ps:=ps) (q:=q));clear A b3 s3 HN2 HLB;generalize dkF (slZ zs ps q)=s at *;have hB4:Below w3.heap.size w3 ((w3.alloc (.cells #[.bool false,.int .u32 0,.int .u32 0,.slice none 0 0,.slice none 0 0] 63)).setRow w3.heap.size #[.bool s.ok,.int .u32 s.g,.int .u32 s.t,.slice aD nD cD,.slice aU nU cU]):=((Below.refl _ _).alloc (Nat.le_refl _) _).trans ((Wr.setRow _ _ _).below (Nat.le_refl _));have HR4:Hid (((w3.alloc (.cells #[.bool false,.int .u32 0,.int .u32 0,.slice none 0 0,.slice none 0 0] 63)).setRow w3.heap.size #[.bool s.ok,.int .u32 s.g,.int .u32 s.t,.slice aD nD cD,.slice aU nU cU]).heap[w3.heap.size]?=some (.cells #[.bool s.ok,.int .u32 s.g,.int .u32 s.t,.slice aD nD cD,.slice aU nU cU] 63 (0,0))):=setRow_heap _ _ _ _ _ _ (heap_alloc_new w3 _);have HN4:=hid_ofL (HN3.out.below hB4);have HS4:=hid_ofL (HS3.out.below hB4);have hl3:=HN3.out.lt;clear hB4
   go_upto_region 7 with (first
    |(refine wpList_store_row rfl 63 (.tmp 6) (.tmp 13) rfl w3.heap.size #[.bool s.ok,.int .u32 s.g,.int .u32 s.t,.slice aD nD cD,.slice aU nU cU] rfl rfl 63 _ (heap_alloc_new w3 _) HSR.out rfl (all5s _ _ _ _ _ _ _ _ _) ?_)
    |fail)
   clear HN3 HS3;generalize (w3.alloc (.cells #[.bool false,.int .u32 0,.int .u32 0,.slice none 0 0,.slice none 0 0] 63)).setRow w3.heap.size #[.bool s.ok,.int .u32 s.g,.int .u32 s.t,.slice aD nD cD,.slice aU nU cU]=w4 at *;generalize w3.heap.size=Q at *;have c0:=cell_of_row w4 Q 0 _ _ _ HR4.out;have c1:=cell_of_row w4 Q 1 _ _ _ HR4.out;simp at c0 c1;generalize hr:nwK zs ps q=r at *;obtain⟨bD,mD,kD,bU,mU,kU,hnw,hns⟩:=HN4.out.new;have n0:=cell_of_row w4 (w.heap.size+1) 0 _ _ _ hnw;have n1:=cell_of_row w4 (w.heap.size+1) 1 _ _ _ hnw;simp at n0 n1;clear hnw hns;obtain⟨u0,u1⟩:=HU.out;cases hok:s.ok with
   |false=>
    have HK:=hid_ofL (Ka.out hok);rw[hok] at c0;clear Ka Kb Kc Kd n0 n1 c1 HS4;go_wp2;go_roundw
    case rel=>exact⟨q+1,by omega,by go_num,by rw[HK.out];exact HN4.out⟩
    case measure=>simp[intOf];omega
   |true=>
    rw[hok] at c0;have hmod:s.g%2=0∨s.g%2=1:=by omega
    go_wp2_with fail;refine(slotOf_any s.g u0 u1 _).mono ?_;rintro e w9 ⟨rfl,h9⟩;obtain rfl:w4=w9:=h9.symm;by_cases he:s.g%2=(q:Int)
    ·have hne:(s.g%2 != (q:Int))=false:=by simp[he]
     cases hrk:r.ok with
     |false=>
      have HK:=hid_ofL (Kc.out hok he (.inl hrk));rw[hrk] at n0;clear Ka Kb Kc Kd;have HR5:Hid (w4.heap[Q]?=some (.cells #[.bool true,.int .u32 s.g,.int .u32 s.t,.slice aD nD cD,.slice aU nU cU] 63 (0,0))):=by show _=_;have:=HR4.out;rw[hok] at this;exact this
      have HNT:Hid (NX w s (w4.setRow (w.heap.size+1) #[.bool true,.int .u32 s.g,.int .u32 s.t,.slice aD nD cD,.slice aU nU cU])):=by
       have hw:=Wr.setRow (w.heap.size+1) w4 #[.bool true,.int .u32 s.g,.int .u32 s.t,.slice aD nD cD,.slice aU nU cU];obtain⟨_,_,_,_,_,_,hnw,_⟩:=HN4.out.new;exact⟨HN4.out.bel.trans (hw.below (Nat.le_succ _)),by rw[hw.block _ (by omega)];exact HN4.out.res,aD,nD,cD,aU,nU,cU,by rw[hok];exact setRow_heap _ _ _ _ _ _ hnw,HS4.out.keep (by rw[hw.size];exact Nat.le_refl _) (fun k hk _=>hw.block k (by omega))⟩
      have HNW:Hid (∃ cs,cs.size=5∧w4.heap[w.heap.size+1]?=some (.cells cs 63 (0,0))):=by obtain⟨_,_,_,_,_,_,hnw,_⟩:=HN4.out.new;exact⟨_,rfl,hnw⟩
      obtain⟨cs,hcs,hnw⟩:=HNW.out;have HCS:=hid_ofL hcs;have HNW2:=hid_ofL hnw;clear hcs hnw HNW HN4 HS4;go_wp2_with (first
       |(refine wpList_load_row rfl 63 (.tmp 6) rfl Q rfl 63 _ (0,0) _ HR5.out Tryz.underlying63 rfl HSR.out ?_)
       |(refine wpList_store_row rfl 63 (.tmp 3) (.tmp 37) rfl (w.heap.size+1) #[.bool true,.int .u32 s.g,.int .u32 s.t,.slice aD nD cD,.slice aU nU cU] rfl rfl 63 _ HNW2.out HSR.out HCS.out (all5s _ _ _ _ _ _ _ _ _) ?_)
       |fail)
      clear n0 n1 c0 c1 HR4 HR5 HNW2;generalize w4.setRow (w.heap.size+1) #[.bool true,.int .u32 s.g,.int .u32 s.t,.slice aD nD cD,.slice aU nU cU]=w5 at *;go_wp2;go_roundw
      case rel=>exact⟨q+1,by omega,by go_num,by rw[HK.out];exact HNT.out⟩
      case measure=>simp[intOf];omega
     |true=>
      rw[hrk] at n0;by_cases hgt:r.g<s.g
      ·have HK:=hid_ofL (Kc.out hok he (.inr hgt));clear Ka Kb Kc Kd;have HR5:Hid (w4.heap[Q]?=some (.cells #[.bool true,.int .u32 s.g,.int .u32 s.t,.slice aD nD cD,.slice aU nU cU] 63 (0,0))):=by show _=_;have:=HR4.out;rw[hok] at this;exact this
       have HNT:Hid (NX w s (w4.setRow (w.heap.size+1) #[.bool true,.int .u32 s.g,.int .u32 s.t,.slice aD nD cD,.slice aU nU cU])):=by
        have hw:=Wr.setRow (w.heap.size+1) w4 #[.bool true,.int .u32 s.g,.int .u32 s.t,.slice aD nD cD,.slice aU nU cU];obtain⟨_,_,_,_,_,_,hnw,_⟩:=HN4.out.new;exact⟨HN4.out.bel.trans (hw.below (Nat.le_succ _)),by rw[hw.block _ (by omega)];exact HN4.out.res,aD,nD,cD,aU,nU,cU,by rw[hok];exact setRow_heap _ _ _ _ _ _ hnw,HS4.out.keep (by rw[hw.size];exact Nat.le_refl _) (fun k hk _=>hw.block k (by omega))⟩
       have HNW:Hid (∃ cs,cs.size=5∧w4.heap[w.heap.size+1]?=some (.cells cs 63 (0,0))):=by obtain⟨_,_,_,_,_,_,hnw,_⟩:=HN4.out.new;exact⟨_,rfl,hnw⟩
       obtain⟨cs,hcs,hnw⟩:=HNW.out;have HCS:=hid_ofL hcs;have HNW2:=hid_ofL hnw;clear hcs hnw HNW HN4 HS4;go_wp2_with (first
        |(refine wpList_load_row rfl 63 (.tmp 6) rfl Q rfl 63 _ (0,0) _ HR5.out Tryz.underlying63 rfl HSR.out ?_)
        |(refine wpList_store_row rfl 63 (.tmp 3) (.tmp 37) rfl (w.heap.size+1) #[.bool true,.int .u32 s.g,.int .u32 s.t,.slice aD nD cD,.slice aU nU cU] rfl rfl 63 _ HNW2.out HSR.out HCS.out (all5s _ _ _ _ _ _ _ _ _) ?_)
        |fail)
       clear n0 n1 c0 c1 HR4 HR5 HNW2;generalize w4.setRow (w.heap.size+1) #[.bool true,.int .u32 s.g,.int .u32 s.t,.slice aD nD cD,.slice aU nU cU]=w5 at *;go_wp2;go_roundw
       case rel=>exact⟨q+1,by omega,by go_num,by rw[HK.out];exact HNT.out⟩
       case measure=>simp[intOf];omega
      ·have HK:=hid_ofL (Kd.out hok he hrk (by omega));clear Ka Kb Kc Kd HS4;go_wp2;go_roundw
       case rel=>exact⟨q+1,by omega,by go_num,by rw[HK.out];exact HN4.out⟩
       case measure=>simp[intOf];omega
    ·have hne:(s.g%2 != (q:Int))=true:=by simp[he]
     have HK:=hid_ofL (Kb.out he);clear Ka Kb Kc Kd HS4 n0 n1;go_wp2;go_roundw
     case rel=>exact⟨q+1,by omega,by go_num,by rw[HK.out];exact HN4.out⟩
     case measure=>simp[intOf];omega
  ·obtain rfl:q=2:=by omega
   obtain⟨aD,nD,cD,aU,nU,cU,hnw,hns⟩:=HN.out.new;have HW:Hid (wr.heap[w.heap.size+1]?=some (.cells #[.bool (nwK zs ps 2).ok,.int .u32 (nwK zs ps 2).g,.int .u32 (nwK zs ps 2).t,.slice aD nD cD,.slice aU nU cU] 63 (0,0))):=hnw;have HS:=hid_ofL hns;clear hnw hns;obtain⟨r,hr⟩:∃ r,r=nwK zs ps 2:=⟨_,rfl⟩
   rw[←hr] at HW HS;have HRR:=hid_ofL hr;clear hr;go_wp2_with (first
    |(refine wpList_load_row rfl 63 (.tmp 3) rfl (w.heap.size+1) rfl 63 _ (0,0) _ HW.out Tryz.underlying63 rfl HSR.out ?_)
    |(refine wpList_store_row rfl 63 (.tmp 2) (.tmp 39) rfl w.heap.size #[.bool r.ok,.int .u32 r.g,.int .u32 r.t,.slice aD nD cD,.slice aU nU cU] rfl rfl 63 _ HN.out.res HSR.out rfl (all5s _ _ _ _ _ _ _ _ _) ?_)
    |fail)
   (try simp only[Exit.inBlock,Exit.then])
   have hw:=Wr.setRow w.heap.size wr #[.bool r.ok,.int .u32 r.g,.int .u32 r.t,.slice aD nD cD,.slice aU nU cU];have h3:=HS.out.keep (w':=wr.setRow w.heap.size #[.bool r.ok,.int .u32 r.g,.int .u32 r.t,.slice aD nD cD,.slice aU nU cU]) (by rw[hw.size];exact Nat.le_refl _) (fun k hk _=>hw.block k (by omega));refine bodyPost_ret (v:=.agg #[.bool r.ok,.int .u32 r.g,.int .u32 r.t,.slice aD nD cD,.slice aU nU cU]) (results_cell_row rfl _ _ w.heap.size 63 _ (0,0) _ rfl (setRow_heap _ _ _ _ _ _ HN.out.res) Tryz.underlying63 rfl HSR.out) rfl ⟨_,rfl,?_,HN.out.bel.trans (hw.below (Nat.le_refl _))⟩;rw[←HRR.out];exact⟨aD,nD,cD,aU,nU,cU,rfl,h3.d,h3.u,h3.t,h3.nd,h3.nu,h3.nt,h3.ld.mono (by omega) (Nat.le_refl _),h3.lu.mono (by omega) (Nat.le_refl _),h3.lt.mono (by omega) (Nat.le_refl _),h3.du,h3.dt,h3.ut⟩
def zer (n:Nat):List Int:=List.replicate n 0
def enc0 (s k a b:Int):List Int:=putK (putK ((((putK (zer 64) 0 s 4).set 4 74).set 5 49).set 6 (k%256)) 8 a 4) 12 b 4
def encI (s k a b:Int):List Int:=putK (putK (enc0 s k a b) 56 (crc ((enc0 s k a b).take 56)) 4) 60 s 4
theorem set_byte {zs:List Int} (h:Byte zs) (i:Nat) (x:Int) (hx:0≤x∧x<256):Byte (zs.set i x):=fun z hz=>by
 rcases List.mem_or_eq_of_mem_set hz with h1|h1
 ·exact h z h1
 ·subst h1;exact hx
theorem putK_byte (zs:List Int) (p:Nat) (v:Int) (h:Byte zs) (k:Nat):Byte (putK zs p v k):=by
 induction k with
 |zero=>exact h
 |succ k ih=>exact set_byte ih _ _ (by omega)
theorem zer_byte (n:Nat):Byte (zer n):=fun z hz=>by simp[zer] at hz;omega
theorem enc0_byte (s k a b:Int):Byte (enc0 s k a b):=by
 unfold enc0;exact putK_byte _ _ _ (putK_byte _ _ _ (set_byte (set_byte (set_byte (putK_byte _ _ _ (zer_byte _) _) _ _ (by omega)) _ _ (by omega)) _ _ (by omega)) _) _
theorem encI_byte (s k a b:Int):Byte (encI s k a b):=by
 unfold encI;exact putK_byte _ _ _ (putK_byte _ _ _ (enc0_byte _ _ _ _) _) _
theorem enc0_len (s k a b:Int):(enc0 s k a b).length=64:=by unfold enc0;simp[putK_len,zer]
theorem encI_len (s k a b:Int):(encI s k a b).length=64:=by unfold encI;simp[putK_len,enc0_len]
structure Est (w w':World) (zs:List Int):Prop where
 below:Below w.heap.size w w'
 size:w'.heap.size=w.heap.size+2
 r0:Row w' w.heap.size 122 (zer 64)
 r1:Row w' (w.heap.size+1) 122 zs
theorem Est.wr {w w' w'':World} {zs zs':List Int} (h:Est w w' zs) (k:Wr (w.heap.size+1) w' w'') (r:Row w'' (w.heap.size+1) 122 zs'):Est w w'' zs':=
 ⟨h.below.trans (k.below (by omega)),k.size.trans h.size,k.row h.r0 (by omega),r⟩
theorem Est.set {w w':World} {zs:List Int} (h:Est w w' zs) (i:Nat) (x:Int):Est w (w'.setCell ⟨w.heap.size+1,i,none⟩ (.int .u8 x)) (zs.set i x):=
 h.wr ((Wr.refl _ _).setCell i _) (h.r1.set i x)
set_option maxHeartbeats 1000000 in
theorem encoded_any (h:Nat) (s k a b:Int) (w:World) (hh:h<w.heap.size) (c0:w.cell? ⟨h,0,none⟩=some (.int .u32 s)) (c1:w.cell? ⟨h,1,none⟩=some (.int .i64 k))
  (c2:w.cell? ⟨h,2,none⟩=some (.int .u32 a)) (c3:w.cell? ⟨h,3,none⟩=some (.int .u32 b)) (us:U32 s) (ua:U32 a) (ub:U32 b) :
  Calls Tryz.prog 134 #[.pointer (some ⟨h,0,none⟩)] w fun e w'=>e=.returned (.agg ((encI s k a b).map (Value.int .u8)).toArray)∧Below w.heap.size w w':=by
 go_enter Tryz.func134,Tryz.ntmps134;go_wp2_with fail;refine(setN_any (w.heap.size+1) 122 0 s (zer 64) _ ?r (by rfl) (by omega) (by omega) us).mono ?_
 case r=>exact heap_alloc2_new _ _ _
 rintro e w3 ⟨rfl,hrow,hwr⟩;have st3:Est w w3 (putK (zer 64) 0 s 4):=by
  refine⟨(((Below.refl _ _).alloc (Nat.le_refl _) _).alloc (by simp) _).trans (hwr.below (by omega)),?_,hwr.row (zs:=zer 64) ?_ (by omega),hrow⟩
  ·rw[hwr.size];simp
  ·exact heap_alloc2_old _ _ _
 clear hrow hwr;have l3:(putK (zer 64) 0 s 4).length=64:=by rw[putK_len];rfl
 have f4:=st3.r1.frozen 4;have f5:=st3.r1.frozen 5;have f6:=st3.r1.frozen 6;have g4:=st3.r1.cell 4 (by omega);have g5:=st3.r1.cell 5 (by omega);have g6:=st3.r1.cell 6 (by omega);have d0:w3.cell? ⟨h,0,none⟩=some (.int .u32 s):=by rw[st3.below.cell (p:=⟨h,0,none⟩) hh];exact c0
 have d1:w3.cell? ⟨h,1,none⟩=some (.int .i64 k):=by rw[st3.below.cell (p:=⟨h,1,none⟩) hh];exact c1
 have d2:w3.cell? ⟨h,2,none⟩=some (.int .u32 a):=by rw[st3.below.cell (p:=⟨h,2,none⟩) hh];exact c2
 have hne:¬ h=w.heap.size+1:=by omega
 generalize (putK (zer 64) 0 s 4).getD 4 0=y4 at *;generalize (putK (zer 64) 0 s 4).getD 5 0=y5 at *;generalize (putK (zer 64) 0 s 4).getD 6 0=y6 at *;have ST3:Hid _:=st3;clear st3;go_wp2_with fail;clear f4 f5 f6 g4 g5 g6 d0 d1 d2;have st6:=((ST3.out.set 4 74).set 5 49).set 6 (k%256);clear ST3;refine(setN_any (w.heap.size+1) 122 8 a _ _ st6.r1 (by simp[l3]) (by omega) (by omega) ua).mono ?_;rintro e w8 ⟨rfl,hrow,hwr⟩;have st8:=st6.wr hwr hrow;clear hrow hwr st6;have l8:(putK ((((putK (zer 64) 0 s 4).set 4 74).set 5 49).set 6 (k%256)) (Int.toNat 8) a 4).length=64:=by rw[putK_len];simp[l3]
 have d3:w8.cell? ⟨h,3,none⟩=some (.int .u32 b):=by rw[st8.below.cell (p:=⟨h,3,none⟩) hh];exact c3
 have ST8:Hid _:=st8;clear st8;go_wp2_with fail;refine(setN_any (w.heap.size+1) 122 12 b _ _ ST8.out.r1 l8 (by omega) (by omega) ub).mono ?_;rintro e w9 ⟨rfl,hrow,hwr⟩;have st9:Est w w9 (enc0 s k a b):=ST8.out.wr hwr hrow;clear hrow hwr ST8 d3 l8 l3;have l9:(enc0 s k a b).length=64:=by unfold enc0;simp[putK_len,zer]
 have HE:Hid (encI s k a b=putK (putK (enc0 s k a b) 56 (crc ((enc0 s k a b).take 56)) 4) 60 s 4):=rfl;have hby:Byte ((enc0 s k a b).take 56):=fun z hz=>enc0_byte s k a b z (List.mem_of_mem_take hz)
 generalize enc0 s k a b=z9 at *;have ST9:Hid _:=st9;clear st9;go_wp2_with fail;refine(crcI_any _ 56 _ (z9.take 56) _ (by simp;omega) (by omega) (ST9.out.r1.atTake 56) hby).mono ?_;rintro e w10 ⟨rfl,rfl⟩;go_wp2_with fail;refine(setN_any (w.heap.size+1) 122 56 _ _ _ ST9.out.r1 l9 (by omega) (by omega) (crc_bd _)).mono ?_;rintro e w11 ⟨rfl,hrow,hwr⟩;have st11:=ST9.out.wr hwr hrow;have l11:(putK z9 56 (crc (z9.take 56)) 4).length=64:=by rw[putK_len];exact l9
 have hE2:Int.toNat 56=56:=rfl;rw[hE2] at st11;clear hrow hwr ST9;generalize putK z9 56 (crc (z9.take 56)) 4=z11 at *;have d0:w11.cell? ⟨h,0,none⟩=some (.int .u32 s):=by rw[st11.below.cell (p:=⟨h,0,none⟩) hh];exact c0
 have ST11:Hid _:=st11;clear st11;go_wp2_with fail;refine(setN_any (w.heap.size+1) 122 60 _ _ _ ST11.out.r1 l11 (by omega) (by omega) us).mono ?_;rintro e w12 ⟨rfl,hrow,hwr⟩;have st12:=ST11.out.wr hwr hrow;have l12:(putK z11 60 s 4).length=64:=by rw[putK_len];exact l11
 have hE3:Int.toNat 60=60:=rfl;rw[hE3,←HE.out] at st12;rw[←HE.out] at l12;clear hrow hwr ST11 c0 c1 c2 c3 d0 hE2 hE3 HE;generalize hz12:encI s k a b=z12 at *;have HZ:Hid _:=hz12;clear hz12;have ST12:Hid _:=st12;clear st12;have hs1:(Tryz.prog.info? 122).map (·.size)=some ((z12.map (Value.int .u8)).toArray).size:=by
  have:(Tryz.prog.info? 122).map (·.size)=some 64:=by kernel_rfl
  rw[this];simp[l12]
 have HS1:Hid _:=hs1;clear hs1;go_wp2_with (first
  |(refine wpList_load_row rfl 122 _ rfl (w.heap.size+1) rfl 122 _ (0,0) _ ST12.out.r1 Tryz.underlying122 rfl HS1.out ?_)
  |(refine wpList_store_row rfl 122 (.tmp 2) (.tmp 35) rfl w.heap.size ((z12.map (Value.int .u8)).toArray) rfl rfl 122 _ ST12.out.r0 HS1.out (by simp[zer,l12]) (all_oneCell_toArray (ints_oneCell _ _)) ?_))
 refine bodyPost_ret (v:=.agg (z12.map (Value.int .u8)).toArray) (results_cell_row rfl _ _ w.heap.size 122 _ (0,0) _ rfl (setRow_heap _ _ _ _ _ _ ST12.out.r0) Tryz.underlying122 rfl HS1.out) rfl ⟨by rw[HZ.out],?_⟩;exact ST12.out.below.trans ((Wr.setRow _ _ _).below (Nat.le_refl _))
end Go.Proofs.YthmeoilbmfdhfaaGreat
