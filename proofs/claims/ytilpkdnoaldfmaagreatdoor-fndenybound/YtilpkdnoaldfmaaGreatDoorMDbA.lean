import Derived.Test.YtilpkdnoaldfmaaGreatDoorMAfF
import Derived.Test.YtilpkdnoaldfmaaGreatDoorMSuT
import Derived.Test.YtilpkdnoaldfmaaGreatDoorMDyA
namespace Go.Proofs.YtilpkdnoaldfmaaGreatDoor
open Go.ChangeShapes Go.WideShapes Go.ChangeAt Go.RowKit
set_option linter.unusedVariables false
def kv (c k:Nat):Nat:=if k=15 then 255 else c+3*k
def wl (c k:Nat):List Int:=(List.range k).map fun i=>((kv c i:Nat):Int)
def wt (c:Nat):List Int:=(List.range 15).map fun i=>((kv c (i+1):Nat):Int)
theorem kv_lt {c k:Nat} (hc:c<100) (hk:k<16):kv c k<256:=by unfold kv;split<;>omega
theorem kv_mono {c i k:Nat} (hc:c<100) (hi:i<k) (hk:k<16):kv c i<kv c k:=by unfold kv;split<;>split<;>omega
theorem wl_succ (c k:Nat):wl c (k+1)=wl c k++[((kv c k:Nat):Int)]:=by unfold wl;rw[List.range_succ,List.map_append];rfl
theorem wl_len (c k:Nat):(wl c k).length=k:=by unfold wl;simp
theorem wl_mem {c k:Nat} {z:Int}:z∈wl c k↔∃ i,i<k∧z=((kv c i:Nat):Int):=by
 unfold wl;simp only[List.mem_map,List.mem_range];constructor
 ·rintro⟨i,hi,rfl⟩;exact⟨i,hi,rfl⟩
 ·rintro⟨i,hi,rfl⟩;exact⟨i,hi,rfl⟩
theorem wl_asc {c:Nat} (hc:c<100):∀ k,k≤16→Asc (wl c k)
 |0,_=>List.Pairwise.nil
 |k+1,hk=>by
  rw[wl_succ];unfold Asc;rw[List.pairwise_append];refine⟨wl_asc hc k (by omega),List.pairwise_singleton _ _,fun a ha b hb=>?_⟩;obtain⟨i,hi,rfl⟩:=wl_mem.1 ha;rw[List.mem_singleton] at hb;subst hb;have:=kv_mono hc hi (by omega);omega
theorem wl_ser {c k:Nat} (hc:c<100) (hk:k≤16):SerP (wl c k):=SerP.of_asc (wl_asc hc k hk) (fun z hz=>by
 obtain⟨i,hi,rfl⟩:=wl_mem.1 hz;have:=kv_lt hc (show i<16 by omega);omega)
theorem wl_with {c k:Nat} (hc:c<100) (hk:k<16):withS (wl c k) (kv c k)=wl c (k+1):=by
 unfold withS;refine(wl_ser hc hk).eq_upTo _ (fun v hv=>?_);rw[decide_eq_true_eq,wl_succ,List.mem_append,List.mem_singleton];constructor
 ·rintro (h|rfl)
  ·exact .inl h
  ·exact .inr rfl
 ·rintro (h|h)
  ·exact .inl h
  ·exact .inr (by omega)
theorem wl_new {c k:Nat} (hc:c<100) (hk:k<16):¬ ((kv c k:Nat):Int)∈wl c k:=fun h=>by
 obtain⟨i,hi,e⟩:=wl_mem.1 h;have:=kv_mono hc hi hk;omega
theorem wl_cons (c:Nat):wl c 16=(c:Int)::wt c:=by
 unfold wl wt;rw[List.range_succ_eq_map,List.map_cons,List.map_map];rfl
theorem wt_mem {c:Nat} {z:Int} (h:z∈wt c):(c:Int)+3≤z∧z<256∨100≤c:=by
 by_cases hc:c<100
 ·unfold wt at h;simp only[List.mem_map,List.mem_range] at h;obtain⟨i,hi,rfl⟩:=h;have:=kv_lt hc (show i+1<16 by omega);have h2:c+3≤kv c (i+1):=by unfold kv;split<;>omega
  exact .inl (by omega)
 ·exact .inr (by omega)
theorem wl_more {c:Nat} (hc:c<100):¬ ((c+1:Nat):Int)∈wl c 16:=fun h=>by
 rw[wl_cons,List.mem_cons] at h;rcases h with h|h
 ·omega
 ·rcases wt_mem h with h|h<;>omega
theorem wl_less {c:Nat} (hc:c<100):lessS (wl c 16) c=wt c:=by
 unfold lessS;rw[wl_cons,List.filter_cons,if_neg (by simp)];refine List.filter_eq_self.2 fun z hz=>?_
 rcases wt_mem hz with h|h
 ·simp;omega
 ·omega
theorem wt_len (c:Nat):(wt c).length=15:=by unfold wt;simp
theorem wt_new {c:Nat} (hc:c<100):¬ ((c+1:Nat):Int)∈wt c:=fun h=>by rcases wt_mem h with h|h<;>omega
theorem wt_with {c:Nat} (hc:c<100):withS (wt c) (c+1)=(wl c 16).set 0 ((c+1:Nat):Int):=by
 rw[wl_cons,List.set_cons_zero];have ha:=wl_asc hc 16 (Nat.le_refl _);rw[wl_cons] at ha;have hs:SerP (((c+1:Nat):Int)::wt c):=SerP.of_asc (List.pairwise_cons.2 ⟨fun z hz=>by rcases wt_mem hz with h|h<;>omega,(List.pairwise_cons.1 ha).2⟩) (fun z hz=>by
  rw[List.mem_cons] at hz;rcases hz with rfl|hz
  ·omega
  ·rcases wt_mem hz with h|h<;>omega)
 unfold withS;refine hs.eq_upTo _ (fun v hv=>?_);rw[decide_eq_true_eq,List.mem_cons];constructor
 ·rintro (h|rfl)
  ·exact .inr h
  ·exact .inl rfl
 ·rintro (h|h)
  ·exact .inr (by omega)
  ·exact .inl h
def dvC (C:Array Value):List Value:=C.toList.take 4
section
variable {lo:Nat} {w w':World} {C:Array Value} {zs ks:List Int} {fs:List (Nat×Nat)} {D:List Int} {X:Array Value} {c:Int}
theorem GJ.dat (h:GJ lo w C zs ks fs D):DAt w (.agg (dvC C).toArray) zs [] (-1) false∧(dvC C).length=4:=by
 obtain⟨⟨da,dc,ca,cc,ka,kc,aSD,nSD,cSD,aSU,nSU,cSU,aF,mF,cF,aD,nD,cD,aU,nU,cU,aT,cT,rfl,h1,h2,h3,h4,h5⟩,_⟩:=h;exact⟨⟨da,dc,ca,cc,rfl,h2.1,.inl rfl,h1.1⟩,rfl⟩
theorem GJ.deny (h:GJ lo w C zs ks fs D):∃ a cp,C[11]?=some (.slice a D.length cp)∧At .i64 w a D:=by
 obtain⟨⟨da,dc,ca,cc,ka,kc,aSD,nSD,cSD,aSU,nSU,cSU,aF,mF,cF,aD,nD,cD,aU,nU,cU,aT,cT,rfl,h1,h2,h3,h4,h5⟩,_⟩:=h;exact⟨aD,cD,by rw[show D.length=nD from h4.2.2.2.2.2.2.2.2.2.1];rfl,h4.2.2.2.1⟩
theorem GJ.row (h:GJ lo w C zs ks fs D):C.size=16∧C.all (·.oneCell')=true:=h.1.row
theorem RJ.row (h:RJ lo w X c zs ks fs D):X.size=17∧X.all (·.oneCell')=true:=by
 obtain⟨C,rfl,hg⟩:=h;obtain⟨h1,h2⟩:=hg.row;refine⟨by rw[Array.size_append,h1];rfl,?_⟩;rw[Array.all_append,h2];simp[Value.oneCell']
theorem dcr_any (h:GJ lo w C zs ks fs D):Calls Tryz.prog 8 #[.agg (dvC C).toArray,.agg #[.slice none 0 0,.int .i64 0,.int .i64 0]] w fun e w'=>∃ r,e=.returned r∧DPl w' w.heap.size r zs (-1)∧Below w.heap.size w w':=by
 have hl:=h.2.1.len;have hv:validB zs.length [] (-1)=true:=by rw[hl];decide
 have q:=icr_any (.agg (dvC C).toArray) (.agg #[.slice none 0 0,.int .i64 0,.int .i64 0]) zs [] (-1) false [] 0 0 w h.dat.1 ⟨none,0,rfl,.inl rfl⟩ (by rw[hl];decide) (by decide) (fun i=>by simp) (by decide);have e1:crZ zs [] (-1) [] 0 0=zs:=by unfold crZ;rw[if_pos hv];rfl
 have e2:crF zs.length [] (-1)=-1:=by unfold crF;rw[if_pos hv]
 rw[e1,e2] at q;exact q
theorem rcv_any {B:Nat} {r:Value} {ka:Option Addr} {kc:Nat} (h:DPl w B r zs (-1)) (hB:B≤w.heap.size) (hj:Jn zs fs) (hd:Dn fs D) (hf:fs.length≤18) (hk:ks.length=32) (hA:At .u8 w ka ks) :
  Calls Tryz.prog 7 #[r,.slice ka 32 kc] w fun e w'=>∃ X,e=.returned (.agg X)∧RJ w.heap.size w' X 9 zs ks fs D∧Below w.heap.size w w':=by
 have hl:=hj.len;have hv:validB zs.length [] (-1)=true:=by rw[hl];decide
 have hD:=(h.mine hB).at_;obtain⟨dv,rfl,ho⟩:=h;obtain⟨a,c,rfl⟩:=ho.sl';have q:=irc_any a none c 0 zs [] (-1) false ka kc ks w hD hA (by rw[hl];decide) (by decide) (fun i=>by simp) hj.byt (by rw[hk];decide);have e:rcO zs [] (-1) false ks=⟨9,zs,[],ks,-1,false,jnI fs D⟩:=by
  unfold rcO;rw[if_pos ⟨⟨hv,rfl,rfl⟩,hk⟩,jn_im hj hd,if_pos (show(jnI fs D).ok=true from rfl)];unfold rcY;rw[if_neg (by
   show ¬ zs.length/64-4<2*((flF 1 fs).length/4)
   rw[flF_len,hl];omega)]
 rw[e,hk] at q;refine q.mono ?_;rintro e w' ⟨X,rfl,⟨C',hX,hg⟩,hb⟩;exact⟨X,rfl,⟨C',hX,gtq_gl hg,hj,hd,hk⟩,hb⟩
theorem fmt_any {ka:Option Addr} {kc:Nat} (hk:ks.length=32) (hA:At .u8 w ka ks) :
  Calls Tryz.prog 5 #[.int .i64 40,.slice ka 32 kc] w fun e w'=>∃ X,e=.returned (.agg X)∧RJ w.heap.size w' X 9 (fsD (List.replicate 2560 0)) ks [] []∧Below w.heap.size w w':=by
 refine(ifm_yes 40 kc ka ks (jnI [] []) w (by decide) (by decide) hk hA (jn_im jn_start Dn.nil)).mono ?_;rintro e w' ⟨X,rfl,⟨C',hX,hg⟩,hb⟩;exact⟨X,rfl,⟨C',hX,hg.gl,jn_start,Dn.nil,hk⟩,hb⟩
end
theorem wpList_app1w (w:World) {ops:Array Oper} {rest:List Oper} {o:Oper} {a:Act} {Q:Exit→Act→World→Prop} (hg:o.guard=none) (sx x:Operand)
  (hop:o.op=Op.call { callee:=Callee.builtin Builtin.append,args:=#[sx,x],argTypes:=#[24,24] }) (B:Nat) (v:Value) (xs:List Int) (hs:a.eval sx=v) (hown:Iow B w v xs)
  (wb:World) (z:Int) (hw:w=wb.alloc (.cells #[.int .i64 z] 2)) (hx:a.eval x=.slice (some ⟨wb.heap.size,0,none⟩) 1 1) (hm:xs.length≤1048576) (hB:B≤w.heap.size)
  (hK:∀ v' w',Iow B w' v' (xs++[z])→w.grownBy w' v.ownBlock→wpList Tryz.prog ops Q rest (a.put o.dst v') w') :
  wpList Tryz.prog ops Q (o::rest) a w:=by
 obtain⟨i0,hi,hz0,hz1,hz2⟩:=info_parts Tryz.infoI64q;refine wpList_append_own_at w hg sx x 24 hop B 2 i0 (.int .i64 0) 1 8 Tryz.underlying24 hi hz0 hz1 hz2 rfl (by decide) v xs.length _ hs hown ⟨wb.heap.size,0,none⟩ 1 1 [.int .i64 z] hx rfl (by rw[hw];exact cell_one_new wb _ _) (by simp[Value.oneCell']) (by unfold maxLen;omega) (by omega) hB ?_;intro v' w' h1 h2 _ _;refine hK v' w' ?_ h2;unfold Iow;rw[List.map_append,List.length_append];exact h1
theorem Iow.empty (w:World) (B:Nat) (hB:B≤w.heap.size):Iow B (w.alloc (.cells #[] 2)) (.slice (some ⟨w.heap.size,0,none⟩) 0 0) []:=World.ownsRow_lit w #[] 0 hB (by simp) (by simp)
theorem Iow.lt_ {B:Nat} {w:World} {v:Value} {xs:List Int} (h:Iow B w v xs):∀ q,v.ownBlock=some q→B≤q∧q<w.heap.size:=fun q hq=>by
 rcases h.2 with⟨h',_⟩|⟨b,c,cur,h',hb,hh,_⟩
 ·rw[h'] at hq;simp[Value.ownBlock] at hq
 ·rw[h'] at hq;simp[Value.ownBlock] at hq;subst hq;exact⟨hb,(Array.getElem?_eq_some_iff.1 hh).1⟩
theorem GJ.keep {lo:Nat} {w w':World} {C:Array Value} {zs ks:List Int} {fs:List (Nat×Nat)} {D:List Int} (h:GJ lo w C zs ks fs D) (hs:w.heap.size≤w'.heap.size) (hb:∀ k,lo≤k→k<w.heap.size→w'.heap[k]?=w.heap[k]?):GJ lo w' C zs ks fs D:=⟨h.1.keep hs hb,h.2⟩
structure DbK (w:World) (B:Nat) (q:Nat) (ks:List Int) (want:Value) (xs:List Int) (wr:World):Prop where
 below:Below w.heap.size w wr
 key:At .u8 wr (some ⟨q,0,none⟩) ks
 want:Iow B wr want xs
 hq:q<B
 hwB:w.heap.size≤B
section
variable {w wr w':World} {B q G lo:Nat} {ks xs zs D:List Int} {want want':Value} {C X:Array Value} {fs:List (Nat×Nat)}
theorem At.keepQ {k:IntKind} {q:Nat} {zs:List Int} (h:At k wr (some ⟨q,0,none⟩) zs) (hs:wr.heap.size≤w'.heap.size) (hb:q<wr.heap.size→w'.heap[q]?=wr.heap[q]?):At k w' (some ⟨q,0,none⟩) zs:=by
 rcases h with h|⟨b,o,e,hl,hc⟩
 ·exact .inl h
 ·cases e;exact .inr ⟨q,0,rfl,Nat.lt_of_lt_of_le hl hs,fun i hi=>by rw[World.cell?_of_block (a:=⟨q,0+i,none⟩) (w:=wr) (hb hl)];exact hc i hi⟩
theorem DbK.call (h:DbK w B q ks want xs wr) (b:Below wr.heap.size wr w'):DbK w B q ks want xs w':=
 ⟨h.below.trans (b.mono h.below.size),h.key.keepQ b.size (fun hl=>b.block _ hl),h.want.below b,h.hq,h.hwB⟩
theorem DbK.put (h:DbK w B q ks want xs wr) (hw:Wr G wr w') {cs:Array Value} {T:TypeId} (hG:wr.heap[G]?=some (.cells cs T (0,0))) (hT:T≠2) (hB:B≤G):DbK w B q ks want xs w':=
 ⟨h.below.trans (hw.below (Nat.le_trans h.hwB hB)),h.key.keepQ (by rw[hw.size];exact Nat.le_refl _) (fun _=>hw.block _ (by have:=h.hq;omega)),h.want.keepN hG hT hw,h.hq,h.hwB⟩
theorem DbK.app (h:DbK w B q ks want xs wr) {z:Int} {o:Obj} (h1:Iow B w' want' (xs++[z])) (h2:(wr.alloc o).grownBy w' want.ownBlock):DbK w B q ks want' (xs++[z]) w':=by
 have hz:wr.heap.size≤(wr.alloc o).heap.size:=by simp
 have hlt:=h.want.lt_;refine⟨(h.below.alloc h.below.size o).grown h2 (Nat.le_trans h.below.size hz) (fun k hk=>by have:=hlt k hk;have:=h.hwB;omega),h.key.keepQ (Nat.le_trans hz h2.size) (fun hl=>?_),h1,h.hq,h.hwB⟩;rw[h2.block q (by omega) (fun e=>by have:=hlt q e.symm;have:=h.hq;omega),(below_new wr o).block q hl]
structure DbG (w:World) (B q G:Nat) (ks:List Int) (want:Value) (xs:List Int) (lo:Nat) (C:Array Value) (zs:List Int) (fs:List (Nat×Nat)) (D:List Int) (wr:World):Prop where
 dk:DbK w B q ks want xs wr
 row:wr.heap[G]?=some (.cells C 38 (0,0))
 gate:GJ lo wr C zs ks fs D
 hBG:B≤G
 hwl:∀ p,want.ownBlock=some p→p<lo
theorem DbG.call (h:DbG w B q G ks want xs lo C zs fs D wr) (b:Below wr.heap.size wr w'):DbG w B q G ks want xs lo C zs fs D w':=
 ⟨h.dk.call b,by rw[b.block _ (lt_ofD h.row)];exact h.row,h.gate.below b,h.hBG,h.hwl⟩
theorem DbG.put (h:DbK w B q ks want xs wr) {C':Array Value} (hr:wr.heap[G]?=some (.cells C' 38 (0,0))) (hg:GJ lo wr C zs ks fs D) (hB:B≤G) (hl:G<lo) (hwl:∀ p,want.ownBlock=some p→p<lo):DbG w B q G ks want xs lo C zs fs D (wr.setRow G C):=by
 have hw:Wr G wr (wr.setRow G C):=Wr.setRow _ _ _;exact⟨h.put hw hr (by decide) hB,setRow_heap _ _ _ _ _ _ hr,hg.keep (by rw[hw.size];exact Nat.le_refl _) (fun k hk _=>hw.block k (by omega)),hB,hwl⟩
theorem DbG.app (h:DbG w B q G ks want xs lo C zs fs D wr) {z:Int} {o:Obj} (h1:Iow B w' want' (xs++[z])) (h2:(wr.alloc o).grownBy w' want.ownBlock):DbK w B q ks want' (xs++[z]) w'∧w'.heap[G]?=some (.cells C 38 (0,0))∧GJ lo w' C zs ks fs D:=by
 have hz:wr.heap.size≤(wr.alloc o).heap.size:=by simp
 have hG:=lt_ofD h.row;have hne:want.ownBlock≠some G:=fun e=>by have h1:=h.dk.want;obtain⟨a,n,c,rfl⟩:=h1.form;rcases a with _|ad;(· cases e);exact h1.ne h.row (by decide) ad rfl (by simpa[Value.ownBlock] using e)
 refine⟨h.dk.app h1 h2,by rw[h2.block G (by omega) (fun e=>hne e.symm),(below_new wr o).block G hG];exact h.row,h.gate.keep (Nat.le_trans hz h2.size) (fun k hk hl=>?_)⟩;rw[h2.block k (by omega) (fun e=>by have:=h.hwl k e.symm;omega),(below_new wr o).block k hl]
end
theorem run_g17 (wz:World) (c v0 v1 v2 v3 v4 v5 v6 v7 v8 v9 v10 v11 v12 v13 v14 v15:Value):(Instr.field 40 (.agg #[c,v0,v1,v2,v3,v4,v5,v6,v7,v8,v9,v10,v11,v12,v13,v14,v15]) 1).run Tryz.prog wz=.ok (.agg #[v0,v1,v2,v3,v4,v5,v6,v7,v8,v9,v10,v11,v12,v13,v14,v15]) wz:=by kernel_rfl
theorem run_gx {lo:Nat} {w:World} {C X:Array Value} {c:Int} {zs ks:List Int} {fs:List (Nat×Nat)} {D:List Int} (h:GJ lo w C zs ks fs D) (hX:X=#[.int .i64 c]++C) (wz:World):(Instr.field 40 (.agg X) 1).run Tryz.prog wz=.ok (.agg C) wz:=by
 obtain⟨⟨da,dc,ca,cc,ka,kc,aSD,nSD,cSD,aSU,nSU,cSU,aF,mF,cF,aD,nD,cD,aU,nU,cU,aT,cT,rfl,h1,h2,h3,h4,h5⟩,_⟩:=h;subst hX;exact run_g17 wz _ _ _ _ _ _ _ _ _ _ _ _ _ _ _ _ _
structure DbR (lo R:Nat) (X C:Array Value) (c:Int) (zs ks:List Int) (fs:List (Nat×Nat)) (D:List Int) (w:World):Prop where
 row:w.heap[R]?=some (.cells X 40 (0,0))
 x:X=#[.int .i64 c]++C
 gate:GJ lo w C zs ks fs D
section
variable {w wr w':World} {lo R G:Nat} {X C C':Array Value} {c:Int} {zs ks:List Int} {fs:List (Nat×Nat)} {D:List Int}
theorem DbR.call (h:DbR lo R X C c zs ks fs D w) (b:Below w.heap.size w w'):DbR lo R X C c zs ks fs D w':=⟨by rw[b.block _ (lt_ofD h.row)];exact h.row,h.x,h.gate.below b⟩
theorem DbR.new (hx:X=#[.int .i64 c]++C) (h:GJ lo w C zs ks fs D):DbR lo w.heap.size X C c zs ks fs D (w.alloc (.cells X 40)):=⟨heap_alloc_new w _,hx,h.below (below_new w _)⟩
theorem DbR.code (h:DbR lo R X C c zs ks fs D w):w.cell? ⟨R,0,none⟩=some (.int .i64 c):=by
 rw[cell_of_row w _ 0 _ _ _ h.row,h.x,Array.getElem?_append_left (show 0<(#[Value.int .i64 c]:Array Value).size from Nat.one_pos)];rfl
theorem DbR.at1 (h:DbR lo R X C c zs ks fs D w) (j:Nat):w.cell? ⟨R,1+j,none⟩=C[j]?:=by
 rw[cell_of_row w _ (1+j) _ _ _ h.row,h.x,Array.getElem?_append_right (show(#[Value.int .i64 c]:Array Value).size≤1+j by show 1≤1+j;omega)];show C[1+j-1]?=C[j]?
 rw[Nat.add_sub_cancel_left]
theorem DbR.mid (h:DbR lo R X C c zs ks fs D w):w.rangeAt R 1 C.toList:=fun j v hv=>by
 rw[h.at1,←Array.getElem?_toList];exact hv
theorem DbR.midD (h:DbR lo R X C c zs ks fs D w):w.rangeAt R 1 (dvC C):=fun j v hv=>by
 rw[h.at1,←Array.getElem?_toList];unfold dvC at hv;rw[List.getElem?_take] at hv;split at hv
 ·exact hv
 ·cases hv
theorem midG (hr:w.heap[G]?=some (.cells C 38 (0,0))):w.rangeAt G 0 (dvC C):=fun j v hv=>by
 rw[cell_of_row w _ (0+j) _ _ _ hr,Nat.zero_add,←Array.getElem?_toList];unfold dvC at hv;rw[List.getElem?_take] at hv;split at hv
 ·exact hv
 ·cases hv
theorem DbR.deny (h:DbR lo R X C c zs ks fs D w):∃ a cp,w.cell? ⟨R,12,none⟩=some (.slice a D.length cp)∧At .i64 w a D:=by
 obtain⟨a,cp,h1,h2⟩:=h.gate.deny;exact⟨a,cp,by rw[←h1];exact h.at1 11,h2⟩
end
theorem Iow.some_ {B:Nat} {w:World} {v:Value} {xs:List Int} (h:Iow B w v xs) (hx:0<xs.length):∃ p cp,v=.slice (some ⟨p,0,none⟩) xs.length cp∧B≤p∧p<w.heap.size∧At .i64 w (some ⟨p,0,none⟩) xs∧∀ i,w.frozen? ⟨p,i,none⟩=false:=by
 have h0:=h;rcases h.2 with⟨_,h'⟩|⟨p,cp,cur,rfl,hb,hh,_⟩
 ·omega
 ·exact⟨p,cp,rfl,hb,(Array.getElem?_eq_some_iff.1 hh).1,h0.sat.1.at_,fun i=>frozen_of_row w p i cur _ hh⟩
theorem Iow.set_ {B:Nat} {w:World} {p n cp:Nat} {xs:List Int} (h:Iow B w (.slice (some ⟨p,0,none⟩) n cp) xs) (i:Nat) (y:Int):Iow B (w.setCell ⟨p,i,none⟩ (.int .i64 y)) (.slice (some ⟨p,0,none⟩) n cp) (xs.set i y):=by
 obtain rfl:xs.length=n:=h.sat.2.1;have hst:=World.ownsRow.stored h i (.int .i64 y);rw[←List.map_set] at hst;unfold Iow;rw[List.length_set];exact hst.1
structure DbT (w:World) (B q M R:Nat) (ks:List Int) (want:Value) (xs:List Int) (m lo:Nat) (X C:Array Value) (c:Int) (zs:List Int) (fs:List (Nat×Nat)) (D:List Int) (wr:World):Prop where
 dk:DbK w B q ks want xs wr
 op:wr.heap[M]?=some (.cells #[.int .i64 2,.slice none 0 0,.int .i64 0,.int .i64 (m:Int)] 44 (0,0))
 r:DbR lo R X C c zs ks fs D wr
 hM:B≤M
 hMR:M<R
 hwl:∀ p,want.ownBlock=some p→p<lo
section
variable {w wr w':World} {B q M R m lo:Nat} {ks xs zs zs' D D':List Int} {want:Value} {X C X' C':Array Value} {c c':Int} {fs fs':List (Nat×Nat)}
theorem DbT.call (h:DbT w B q M R ks want xs m lo X C c zs fs D wr) (b:Below wr.heap.size wr w'):DbT w B q M R ks want xs m lo X C c zs fs D w':=⟨h.dk.call b,by rw[b.block _ (lt_ofD h.op)];exact h.op,h.r.call b,h.hM,h.hMR,h.hwl⟩
theorem DbT.put (h:DbT w B q M R ks want xs m lo X C c zs fs D wr) (b:Below wr.heap.size wr w') (hx:X'=#[.int .i64 c']++C') (g:GJ wr.heap.size w' C' zs' ks fs' D'):DbT w B q M R ks want xs m wr.heap.size X' C' c' zs' fs' D' (w'.setRow R X'):=by
 have h1:=h.call b;have hR:=lt_ofD h.r.row;have hw:Wr R w' (w'.setRow R X'):=Wr.setRow _ _ _;have hBR:B≤R:=by have:=h.hM;have:=h.hMR;omega
 exact⟨h1.dk.put hw h1.r.row (by decide) hBR,by rw[hw.block _ (by have:=h.hMR;omega)];exact h1.op,⟨setRow_heap _ _ _ _ _ _ h1.r.row,hx,g.keep (by rw[hw.size];exact Nat.le_refl _) (fun k hk _=>hw.block k (by omega))⟩,h.hM,h.hMR,fun p hp=>(h.dk.want.lt_ p hp).2⟩
theorem DbT.set {p n cp:Nat} (h:DbT w B q M R ks (.slice (some ⟨p,0,none⟩) n cp) xs m lo X C c zs fs D wr) (i:Nat) (y:Int):DbT w B q M R ks (.slice (some ⟨p,0,none⟩) n cp) (xs.set i y) m lo X C c zs fs D (wr.setCell ⟨p,i,none⟩ (.int .i64 y)):=by
 have hw:Wr p wr (wr.setCell ⟨p,i,none⟩ (.int .i64 y)):=(Wr.refl p wr).setCell i _;have hp:=h.dk.want.lt_ p rfl;have n1:=h.dk.want.ne h.op (by decide) _ rfl;have n2:=h.dk.want.ne h.r.row (by decide) _ rfl;have hl:=h.hwl p rfl;have hq:=h.dk.hq;have hB:=h.dk.hwB;exact⟨⟨h.dk.below.trans (hw.below (by omega)),h.dk.key.keepQ (by rw[hw.size];exact Nat.le_refl _) (fun _=>hw.block _ (by omega)),h.dk.want.set_ i y,hq,hB⟩,by rw[hw.block _ (fun e=>n1 e.symm)];exact h.op,⟨by rw[hw.block _ (fun e=>n2 e.symm)];exact h.r.row,h.r.x,h.r.gate.keep (by rw[hw.size];exact Nat.le_refl _) (fun k hk _=>hw.block k (by omega))⟩,h.hM,h.hMR,h.hwl⟩
end
set_option maxHeartbeats 400000 in
theorem nms_any (a a':Option Addr) (n cap cap':Nat) (zs:List Int) (w:World) (hn:zs.length=n) (hm:n≤1048576) (ha:At .i64 w a zs) (ha':At .i64 w a' zs) :
  Calls Tryz.prog 9 #[.slice a n cap,.slice a' n cap'] w fun e w'=>e=.returned (.bool true)∧∃ q,w'=w.drewN q:=by
 have h0:((n:Int) != (n:Int))=false:=by simp
 go_enter Tryz.func9,Tryz.ntmps9;go_wp2
 go_loopw [5] (fun i wr=>∃ k q:Nat,k≤n∧i=.int .i64 k∧wr=w.drewN q) (fun i _=>n-(intOf i).toNat)
 case atStart=>exact⟨0,0,Nat.zero_le _,rfl,rfl⟩
 case round=>
  obtain⟨k,q,hk,rfl,rfl⟩:=hrel;by_cases hlt:k<n
  ·obtain⟨b,off,rfl,hb,hc⟩:=ha.get (by omega);obtain⟨b',off',rfl,hb',hc'⟩:=ha'.get (by omega);have g1:=hc k (by omega);have g2:=hc' k (by omega);generalize zs.getD k 0=x at *;have hx:(x != x)=false:=by simp
   have hlt':(k:Int)<(n:Int):=by omega
   clear hc hc' ha ha';go_wp2
   go_quiet (fail)
   go_wp2;go_roundw
   case rel=>exact⟨k+1,_,by omega,by go_num,rfl⟩
   case measure=>simp[intOf];omega
  ·go_wp2
   go_ret
   exact⟨rfl,q,rfl⟩
set_option maxRecDepth 100000 in
set_option maxHeartbeats 16000000 in
theorem dby_any (x:Option Addr) (n cap:Nat) (ys:List Int) (w:World) (hl:ys.length=n) (hz:Byte ys) (ha:At .u8 w x ys) :
  Calls Tryz.prog 3 #[.slice x n cap] w fun e w'=>e=.returned (.bool true)∧Below w.heap.size w w':=by
 have HZ:Hid (ys.length=n∧Byte ys∧At .u8 w x ys):=⟨hl,hz,ha⟩
 have HSG:Hid (∀ cs:Array Value,cs.size=16→(Tryz.prog.info? 38).map (·.size)=some cs.toList.length):=fun cs h=>by rw[Array.length_toList,h];kernel_rfl
 have HSD:Hid (∀ cs:List Value,cs.length=4→(Tryz.prog.info? 27).map (·.size)=some cs.length):=fun cs h=>by rw[h];kernel_rfl
 clear ha hl hz;by_cases hn:1048576<n
 ·have hn':(1048576:Int)<(n:Int):=by omega
  go_enter Tryz.func3,Tryz.ntmps3;go_wp2_with fail
  go_ret
  exact⟨rfl,Below.refl _ _⟩
 have hn':¬ (1048576:Int)<(n:Int):=by omega
 go_enter Tryz.func3,Tryz.ntmps3;go_wp2_with fail;clear hn hn'
 go_loopw [3,4] (fun v i wr=>∃(k:Nat) (zs:List Int) (l:Value),k≤32∧i=.int .i64 k∧l=v∧zs.length=k∧Byte zs∧Own wr w.heap.size l zs∧Below w.heap.size w wr) (fun _ i _=>32-(intOf i).toNat)
 case atStart=>exact⟨0,[],_,by omega,rfl,rfl,rfl,(fun v hv=>by cases hv),Own.empty _ _ (Nat.le_refl _),(Below.refl _ _).alloc (Nat.le_refl _) _⟩
 case round=>
  obtain⟨k,zs,l,hk,rfl,rfl,hl,hzb,hown,hbel⟩:=hrel;have hsz:=hbel.size;by_cases hlt:k<32
  ·have hlt':(k:Int)<32:=by omega
   have HO0:=hid_ofV (And.intro hown hbel);clear hown hbel;go_wp2_with fail;refine(lwAt_any x n cap k ys wr HZ.out.1 (HZ.out.2.2.below HO0.out.2) HZ.out.2.1 (by omega)).mono ?_;rintro e w2 ⟨y,rfl,y0,y1,h2⟩;obtain rfl:wr=w2:=h2.symm;have hy:y%256=y:=by omega
   have HOA:Hid (Own (wr.alloc (.cells #[.int .u8 y] 5)) w.heap.size l zs):=HO0.out.1.alloc _;go_wp2_with (at_builtin;refine wpList_app _ rfl _ _ rfl w.heap.size _ _ rfl HOA.out ⟨wr.heap.size,0,none⟩ 1 1 [y] rfl rfl ?c1 ?c2 ?c3 ?_);all_goals first|(intro j hj;obtain rfl:j=0:=by omega
                                                                                                                                                                                                                                                         simp[Addr.add];done)|skip
   case c2=>omega
   case c3=>first|omega|(rw[World.size_alloc];omega)
   intro v' w1 hown' hbel' _;have HO:=hid_ofE (And.intro hown' ((HO0.out.2.alloc (by omega) _).trans hbel'));clear hown' hbel' HOA HO0;go_wp2_with fail;go_roundw
   case rel=>exact⟨k+1,zs++[y],_,by omega,by go_num,rfl,by simp;omega,byte_app1 hzb (by omega),HO.out.1,HO.out.2⟩
   case measure=>simp[intOf];omega
  ·obtain rfl:k=32:=by omega
   obtain⟨q,kc,rfl,hqB,hq,hqc,hqa,hqo⟩:=hown.at_;have hle:¬ ((32:Nat):Int)<32:=by decide
   have HKY:Hid (At .u8 wr (some ⟨q,0,none⟩) zs∧Byte zs∧zs.length=32∧q<wr.heap.size∧Below w.heap.size w wr):=⟨hqa,hzb,hl,hq,hbel⟩
   rw[hl];clear hown hqB hq hqc hqa hqo hzb hlt hl hsz hbel hk;go_wp2_with fail;refine(lwAt_any x n cap 32 ys wr HZ.out.1 (HZ.out.2.2.below HKY.out.2.2.2.2) HZ.out.2.1 (by omega)).mono ?_;rintro e w2 ⟨y,rfl,y0,y1,h2⟩;obtain rfl:wr=w2:=h2.symm;obtain⟨c,hc⟩:=Int.eq_ofNat_of_zero_le (show 0≤y%100 by omega);have hc1:c<100:=by omega
   have hcc:y%100=(c:Int):=hc;clear hc
   go_upto_region 10 with fail
   rw[hcc];clear hcc y0 y1;have HDK:Hid (DbK w wr.heap.size q zs (.slice (some ⟨wr.heap.size,0,none⟩) 0 0) [] (wr.alloc (.cells #[] 2))):=⟨HKY.out.2.2.2.2.alloc HKY.out.2.2.2.2.size _,HKY.out.1.below (below_new wr _),Iow.empty _ _ (Nat.le_refl _),HKY.out.2.2.2.1,HKY.out.2.2.2.2.size⟩
   have HKL:Hid (zs.length=32):=HKY.out.2.2.1;generalize hB:wr.heap.size=B at *;generalize hw1:wr.alloc (.cells #[] 2)=w1 at *;clear hw1 hB HKY;go_wp2_with fail;refine(fmt_any (ka:=some ⟨q,0,none⟩) (kc:=kc) HKL.out HDK.out.key).mono ?_;rintro e w2 ⟨X,rfl,⟨C,hX,hg⟩,hb⟩;have hfx:=run_gx hg hX;have hlB:=HDK.out.want.lt_ B rfl;have HCS:Hid ((Tryz.prog.info? 38).map (·.size)=some C.size∧C.size=16∧C.all (fun x=>x.oneCell')=true):=⟨by rw[hg.row.1];exact Tryz.sizeG,hg.row.1,hg.row.2⟩
   have HG3:Hid (DbG w B q w2.heap.size zs (.slice (some ⟨B,0,none⟩) 0 0) [] w1.heap.size C (fsD (List.replicate 2560 0)) [] [] (w2.alloc (.cells C 38))):=⟨(HDK.out.call hb).call (below_new w2 _),heap_alloc_new w2 _,hg.below (below_new w2 _),by have:=hb.size;omega,fun p hp=>by cases hp;exact hlB.2⟩
   clear hg hb HDK hX hlB
   go_upto_region 11 with (first
    |(refine wpList_store_row rfl 38 (.tmp 7) (.tmp 36) rfl w2.heap.size C rfl rfl 38 _ (heap_alloc_new w2 _) HCS.out.1 (by rw[HCS.out.2.1];rfl) HCS.out.2.2 ?_)
    |fail)
   try rw[World.setRow_alloc_new]
   generalize w2.alloc (.cells C 38)=w3 at *;have HC:Hid (c<100∧zs.length=32):=⟨hc1,HKL.out⟩
   generalize w2.heap.size=G at *;generalize w1.heap.size=lo at *;have HST:Hid (∃(lo:Nat) (C:Array Value) (zd:List Int) (fs:List (Nat×Nat)),DbG w B q G zs (.slice (some ⟨B,0,none⟩) 0 0) (wl c 0) lo C zd fs (wl c 0) w3∧fs.length=0):=⟨_,_,_,[],HG3.out,rfl⟩
   clear HG3 HCS hfx HKL;try dsimp only[Act.put]
   go_wp2_with fail
   go_loopw [6,8] (fun v i wr=>∃(k:Nat) (l:Value),k≤16∧i=.int .i64 k∧l=v∧∃(lo:Nat) (C:Array Value) (zd:List Int) (fs:List (Nat×Nat)),DbG w B q G zs l (wl c k) lo C zd fs (wl c k) wr∧fs.length=k) (fun _ i _=>16-(intOf i).toNat)
   case atStart=>exact⟨0,_,by omega,rfl,rfl,HST.out⟩
   case round=>
    clear HST;obtain⟨k,l,hk,rfl,rfl,lo,C,zd,fs,hst,hfs⟩:=hrel;have HST:=hid_ofV hst;clear hst;by_cases hlt:k<16
    ·have hlt':(k:Int)<16:=by omega
     go_upto_region 15 with fail
     by_cases hk15:k=15
     ·have e15:(k:Int)=15:=by omega
      have hmod:¬ (k:Int)%3=2:=by omega
      go_upto_region 17 with fail
      rw[show(255:Int)=((kv c k:Nat):Int) by rw[hk15];rfl];obtain⟨m,hm⟩:∃ m,kv c k=m:=⟨_,rfl⟩
      rw[hm];clear e15 hk15;have HM:Hid (m<256∧¬ (m:Int)∈wl c k∧withS (wl c k) m=wl c k++[(m:Int)]∧wl c (k+1)=wl c k++[(m:Int)]):=by
       rw[←hm];exact⟨kv_lt HC.out.1 hlt,wl_new HC.out.1 hlt,by rw[wl_with HC.out.1 hlt,wl_succ],wl_succ _ _⟩
      have HO:Hid (Iow B (wr.alloc (.cells #[.int .i64 (m:Int)] 2)) l (wl c k)):=HST.out.dk.want.alloc _;have HL:Hid ((wl c k).length≤1048576):=by show _≤_;rw[wl_len];omega
      have HZB:Hid (B≤(wr.alloc (.cells #[.int .i64 (m:Int)] 2)).heap.size):=by
       show _≤_
       have:=lt_ofD HST.out.row;have:=HST.out.hBG;simp;omega
      clear hm
      go_upto_region 18 with (first
       |(refine wpList_app1w _ rfl (.tmp 47) (.tmp 49) rfl B _ (wl c k) rfl HO.out wr m rfl rfl HL.out HZB.out ?_)
       |fail)
      intro v' w4 h1 h2;have HA:=hid_ofV (HST.out.app h1 h2);have HBG:Hid (B≤G):=HST.out.hBG;have HCS:Hid ((Tryz.prog.info? 38).map (·.size)=some C.size∧C.size=16):=⟨by rw[HST.out.gate.row.1];exact Tryz.sizeG,HST.out.gate.row.1⟩
      clear h1 h2 HO HZB HST
      go_upto_region 18 with fail
      go_wp2_with (first
       |(refine wpList_load_row rfl 38 (.tmp 7) rfl G rfl 38 C (0,0) _ HA.out.2.1 Tryz.underlying38 rfl HCS.out.1 ?_)
       |fail)
      refine(gd_add C zd zs fs (wl c k) m none 0 0 0 w4 HA.out.2.2 HM.out.1 (by omega) HM.out.2.1 (by rw[wl_len];omega)).mono ?_;rintro e w5 ⟨X',z',rfl,⟨C',hX',hg'⟩,hb'⟩;rw[HM.out.2.2.1] at hg';have HX:=hid_ofV (DbR.new hX' hg');have HK5:Hid (DbK w B q zs v' (wl c k++[(m:Int)]) (w5.alloc (.cells X' 40))∧(w5.alloc (.cells X' 40)).heap[G]?=some (.cells C 38 (0,0))∧G<w4.heap.size∧∀ p,v'.ownBlock=some p→p<w4.heap.size):=by
       have hG:=lt_ofD HA.out.2.1;exact⟨(HA.out.1.call hb').call (below_new w5 _),by rw[(below_new w5 _).block _ (Nat.lt_of_lt_of_le hG hb'.size),hb'.block _ hG];exact HA.out.2.1,hG,fun p hp=>(HA.out.1.want.lt_ p hp).2⟩
      have HXS:Hid ((Tryz.prog.info? 40).map (·.size)=some X'.size∧X'.size=17∧X'.all (fun x=>x.oneCell')=true):=by
       have hr:=RJ.row ⟨C',hX',hg'⟩;exact⟨by rw[hr.1];exact Tryz.sizeR,hr.1,hr.2⟩
      have HC5:Hid ((Tryz.prog.info? 38).map (·.size)=some C'.size∧C'.size=16∧C'.all (fun x=>x.oneCell')=true):=⟨by rw[hg'.row.1];exact Tryz.sizeG,hg'.row.1,hg'.row.2⟩
      clear hX' hg' hb' HA
      go_upto_region 19 with (first
       |(refine wpList_store_row rfl 40 (.tmp 10) (.tmp 54) rfl w5.heap.size X' rfl rfl 40 _ (heap_alloc_new w5 _) HXS.out.1 (by rw[HXS.out.2.1];rfl) HXS.out.2.2 ?_)
       |fail)
      try rw[World.setRow_alloc_new]
      generalize w5.heap.size=R at *;generalize w5.alloc (.cells X' 40)=w6 at *;have x0:=HX.out.code;try dsimp only[Act.put]
      go_upto_region 22 with (first
       |(refine wpList_load_mid rfl 38 (.tmp 58) rfl R 1 rfl C'.toList _ HX.out.mid Tryz.underlying38 rfl (HSG.out _ HC5.out.2.1) ?_)
       |(refine wpList_store_row rfl 38 (.tmp 7) (.tmp 59) rfl G C' rfl rfl 38 _ HK5.out.2.1 HC5.out.1 (by rw[HC5.out.2.1];exact HCS.out.2) HC5.out.2.2 ?_)
       |fail)
      have HG7:Hid (DbG w B q G zs v' (wl c k++[(m:Int)]) w4.heap.size C' z' (fs++[(m,1)]) (wl c k++[(m:Int)]) (w6.setRow G C')):=DbG.put HK5.out.1 HK5.out.2.1 HX.out.gate HBG.out HK5.out.2.2.1 HK5.out.2.2.2;generalize w6.setRow G C'=w7 at *;clear x0 HX HK5 HXS;try dsimp only[Act.put]
      go_wp2_with fail;go_roundw
      case rel=>exact⟨k+1,_,by omega,by go_num,rfl,_,_,_,_,by rw[HM.out.2.2.2];exact HG7.out,by simp;omega⟩
      case measure=>simp[intOf];omega
     ·have e15:¬ (k:Int)=15:=by omega
      go_upto_region 17 with fail
      rw[show(c:Int)+3*(k:Int)=((kv c k:Nat):Int) by unfold kv;rw[if_neg hk15];omega];obtain⟨m,hm⟩:∃ m,kv c k=m:=⟨_,rfl⟩
      rw[hm];clear e15 hk15;by_cases hmod:(k:Int)%3=2
      ·skip
       have HM:Hid (m<256∧¬ (m:Int)∈wl c k∧withS (wl c k) m=wl c k++[(m:Int)]∧wl c (k+1)=wl c k++[(m:Int)]):=by
        rw[←hm];exact⟨kv_lt HC.out.1 hlt,wl_new HC.out.1 hlt,by rw[wl_with HC.out.1 hlt,wl_succ],wl_succ _ _⟩
       have HO:Hid (Iow B (wr.alloc (.cells #[.int .i64 (m:Int)] 2)) l (wl c k)):=HST.out.dk.want.alloc _;have HL:Hid ((wl c k).length≤1048576):=by show _≤_;rw[wl_len];omega
       have HZB:Hid (B≤(wr.alloc (.cells #[.int .i64 (m:Int)] 2)).heap.size):=by
        show _≤_
        have:=lt_ofD HST.out.row;have:=HST.out.hBG;simp;omega
       clear hm
       go_upto_region 18 with (first
        |(refine wpList_app1w _ rfl (.tmp 47) (.tmp 49) rfl B _ (wl c k) rfl HO.out wr m rfl rfl HL.out HZB.out ?_)
        |fail)
       intro v' w4 h1 h2;have HA:=hid_ofV (HST.out.app h1 h2);have HBG:Hid (B≤G):=HST.out.hBG;have HCS:Hid ((Tryz.prog.info? 38).map (·.size)=some C.size∧C.size=16):=⟨by rw[HST.out.gate.row.1];exact Tryz.sizeG,HST.out.gate.row.1⟩
       clear h1 h2 HO HZB HST
       go_upto_region 18 with fail
       go_wp2_with (first
        |(refine wpList_load_row rfl 38 (.tmp 7) rfl G rfl 38 C (0,0) _ HA.out.2.1 Tryz.underlying38 rfl HCS.out.1 ?_)
        |fail)
       refine(gd_add C zd zs fs (wl c k) m none 0 0 0 w4 HA.out.2.2 HM.out.1 (by omega) HM.out.2.1 (by rw[wl_len];omega)).mono ?_;rintro e w5 ⟨X',z',rfl,⟨C',hX',hg'⟩,hb'⟩;rw[HM.out.2.2.1] at hg';have HX:=hid_ofV (DbR.new hX' hg');have HK5:Hid (DbK w B q zs v' (wl c k++[(m:Int)]) (w5.alloc (.cells X' 40))∧(w5.alloc (.cells X' 40)).heap[G]?=some (.cells C 38 (0,0))∧G<w4.heap.size∧∀ p,v'.ownBlock=some p→p<w4.heap.size):=by
        have hG:=lt_ofD HA.out.2.1;exact⟨(HA.out.1.call hb').call (below_new w5 _),by rw[(below_new w5 _).block _ (Nat.lt_of_lt_of_le hG hb'.size),hb'.block _ hG];exact HA.out.2.1,hG,fun p hp=>(HA.out.1.want.lt_ p hp).2⟩
       have HXS:Hid ((Tryz.prog.info? 40).map (·.size)=some X'.size∧X'.size=17∧X'.all (fun x=>x.oneCell')=true):=by
        have hr:=RJ.row ⟨C',hX',hg'⟩;exact⟨by rw[hr.1];exact Tryz.sizeR,hr.1,hr.2⟩
       have HC5:Hid ((Tryz.prog.info? 38).map (·.size)=some C'.size∧C'.size=16∧C'.all (fun x=>x.oneCell')=true):=⟨by rw[hg'.row.1];exact Tryz.sizeG,hg'.row.1,hg'.row.2⟩
       clear hX' hg' hb' HA
       go_upto_region 19 with (first
        |(refine wpList_store_row rfl 40 (.tmp 10) (.tmp 54) rfl w5.heap.size X' rfl rfl 40 _ (heap_alloc_new w5 _) HXS.out.1 (by rw[HXS.out.2.1];rfl) HXS.out.2.2 ?_)
        |fail)
       try rw[World.setRow_alloc_new]
       generalize w5.heap.size=R at *;generalize w5.alloc (.cells X' 40)=w6 at *;have x0:=HX.out.code;try dsimp only[Act.put]
       go_upto_region 22 with (first
        |(refine wpList_load_mid rfl 38 (.tmp 58) rfl R 1 rfl C'.toList _ HX.out.mid Tryz.underlying38 rfl (HSG.out _ HC5.out.2.1) ?_)
        |(refine wpList_store_row rfl 38 (.tmp 7) (.tmp 59) rfl G C' rfl rfl 38 _ HK5.out.2.1 HC5.out.1 (by rw[HC5.out.2.1];exact HCS.out.2) HC5.out.2.2 ?_)
        |fail)
       have HG7:Hid (DbG w B q G zs v' (wl c k++[(m:Int)]) w4.heap.size C' z' (fs++[(m,1)]) (wl c k++[(m:Int)]) (w6.setRow G C')):=DbG.put HK5.out.1 HK5.out.2.1 HX.out.gate HBG.out HK5.out.2.2.1 HK5.out.2.2.2;generalize w6.setRow G C'=w7 at *;clear x0 HX HK5 HXS;try dsimp only[Act.put]
       have HDD:Hid (w7.rangeAt G 0 (dvC C')∧(dvC C').length=4):=⟨midG HG7.out.row,HG7.out.gate.dat.2⟩
       go_wp2_with (first
        |(refine wpList_load_mid rfl 27 (.tmp 63) rfl G 0 rfl (dvC C') _ HDD.out.1 Tryz.underlying27 rfl (HSD.out _ HDD.out.2) ?_)
        |fail)
       refine(dcr_any HG7.out.gate).mono ?_;rintro e w8 ⟨r8,rfl,hp8,hb8⟩;have HG8:=hid_ofV (HG7.out.call hb8);have HP8:=hid_ofV (And.intro hp8 hb8.size);clear hp8 hb8 HDD;go_wp2_with fail;refine(rcv_any (ka:=some ⟨q,0,none⟩) (kc:=kc) HP8.out.1 HP8.out.2 HG8.out.gate.2.1 HG8.out.gate.2.2.1 (by simp;omega) HC.out.2 HG8.out.dk.key).mono ?_;rintro e w9 ⟨X9,rfl,⟨C9,hX9,hg9⟩,hb9⟩;have HX9:=hid_ofV (DbR.new hX9 hg9);have HK9:Hid (DbK w B q zs v' (wl c k++[(m:Int)]) (w9.alloc (.cells X9 40))∧(w9.alloc (.cells X9 40)).heap[G]?=some (.cells C' 38 (0,0))∧G<w8.heap.size∧∀ p,v'.ownBlock=some p→p<w8.heap.size):=by
        have hG:=lt_ofD HG8.out.row;exact⟨(HG8.out.dk.call hb9).call (below_new w9 _),by rw[(below_new w9 _).block _ (Nat.lt_of_lt_of_le hG hb9.size),hb9.block _ hG];exact HG8.out.row,hG,fun p hp=>(HG8.out.dk.want.lt_ p hp).2⟩
       have HXS:Hid ((Tryz.prog.info? 40).map (·.size)=some X9.size∧X9.size=17∧X9.all (fun x=>x.oneCell')=true):=by
        have hr:=RJ.row ⟨C9,hX9,hg9⟩;exact⟨by rw[hr.1];exact Tryz.sizeR,hr.1,hr.2⟩
       have HC9:Hid ((Tryz.prog.info? 38).map (·.size)=some C9.size∧C9.size=16∧C9.all (fun x=>x.oneCell')=true):=⟨by rw[hg9.row.1];exact Tryz.sizeG,hg9.row.1,hg9.row.2⟩
       clear hX9 hg9 hb9 HG7 HG8 HP8
       go_upto_region 24 with (first
        |(refine wpList_store_row rfl 40 (.tmp 11) (.tmp 68) rfl w9.heap.size X9 rfl rfl 40 _ (heap_alloc_new w9 _) HXS.out.1 (by rw[HXS.out.2.1];rfl) HXS.out.2.2 ?_)
        |fail)
       try rw[World.setRow_alloc_new]
       generalize w9.heap.size=R9 at *;generalize w9.alloc (.cells X9 40)=wA at *;have x9:=HX9.out.code;try dsimp only[Act.put]
       go_upto_region 13 with (first
        |(refine wpList_load_mid rfl 38 (.tmp 72) rfl R9 1 rfl C9.toList _ HX9.out.mid Tryz.underlying38 rfl (HSG.out _ HC9.out.2.1) ?_)
        |(refine wpList_store_row rfl 38 (.tmp 7) (.tmp 73) rfl G C9 rfl rfl 38 _ HK9.out.2.1 HC9.out.1 (by rw[HC9.out.2.1];exact HC5.out.2.1) HC9.out.2.2 ?_)
        |fail)
       have HGB:Hid (DbG w B q G zs v' (wl c k++[(m:Int)]) w8.heap.size C9 z' (fs++[(m,1)]) (wl c k++[(m:Int)]) (wA.setRow G C9)):=DbG.put HK9.out.1 HK9.out.2.1 HX9.out.gate HBG.out HK9.out.2.2.1 HK9.out.2.2.2;generalize wA.setRow G C9=wB at *;clear x9 HX9 HK9 HXS;try dsimp only[Act.put]
       go_wp2_with fail;go_roundw
       case rel=>exact⟨k+1,_,by omega,by go_num,rfl,_,_,_,_,by rw[HM.out.2.2.2];exact HGB.out,by simp;omega⟩
       case measure=>simp[intOf];omega
      ·skip
       have HM:Hid (m<256∧¬ (m:Int)∈wl c k∧withS (wl c k) m=wl c k++[(m:Int)]∧wl c (k+1)=wl c k++[(m:Int)]):=by
        rw[←hm];exact⟨kv_lt HC.out.1 hlt,wl_new HC.out.1 hlt,by rw[wl_with HC.out.1 hlt,wl_succ],wl_succ _ _⟩
       have HO:Hid (Iow B (wr.alloc (.cells #[.int .i64 (m:Int)] 2)) l (wl c k)):=HST.out.dk.want.alloc _;have HL:Hid ((wl c k).length≤1048576):=by show _≤_;rw[wl_len];omega
       have HZB:Hid (B≤(wr.alloc (.cells #[.int .i64 (m:Int)] 2)).heap.size):=by
        show _≤_
        have:=lt_ofD HST.out.row;have:=HST.out.hBG;simp;omega
       clear hm
       go_upto_region 18 with (first
        |(refine wpList_app1w _ rfl (.tmp 47) (.tmp 49) rfl B _ (wl c k) rfl HO.out wr m rfl rfl HL.out HZB.out ?_)
        |fail)
       intro v' w4 h1 h2;have HA:=hid_ofV (HST.out.app h1 h2);have HBG:Hid (B≤G):=HST.out.hBG;have HCS:Hid ((Tryz.prog.info? 38).map (·.size)=some C.size∧C.size=16):=⟨by rw[HST.out.gate.row.1];exact Tryz.sizeG,HST.out.gate.row.1⟩
       clear h1 h2 HO HZB HST
       go_upto_region 18 with fail
       go_wp2_with (first
        |(refine wpList_load_row rfl 38 (.tmp 7) rfl G rfl 38 C (0,0) _ HA.out.2.1 Tryz.underlying38 rfl HCS.out.1 ?_)
        |fail)
       refine(gd_add C zd zs fs (wl c k) m none 0 0 0 w4 HA.out.2.2 HM.out.1 (by omega) HM.out.2.1 (by rw[wl_len];omega)).mono ?_;rintro e w5 ⟨X',z',rfl,⟨C',hX',hg'⟩,hb'⟩;rw[HM.out.2.2.1] at hg';have HX:=hid_ofV (DbR.new hX' hg');have HK5:Hid (DbK w B q zs v' (wl c k++[(m:Int)]) (w5.alloc (.cells X' 40))∧(w5.alloc (.cells X' 40)).heap[G]?=some (.cells C 38 (0,0))∧G<w4.heap.size∧∀ p,v'.ownBlock=some p→p<w4.heap.size):=by
        have hG:=lt_ofD HA.out.2.1;exact⟨(HA.out.1.call hb').call (below_new w5 _),by rw[(below_new w5 _).block _ (Nat.lt_of_lt_of_le hG hb'.size),hb'.block _ hG];exact HA.out.2.1,hG,fun p hp=>(HA.out.1.want.lt_ p hp).2⟩
       have HXS:Hid ((Tryz.prog.info? 40).map (·.size)=some X'.size∧X'.size=17∧X'.all (fun x=>x.oneCell')=true):=by
        have hr:=RJ.row ⟨C',hX',hg'⟩;exact⟨by rw[hr.1];exact Tryz.sizeR,hr.1,hr.2⟩
       have HC5:Hid ((Tryz.prog.info? 38).map (·.size)=some C'.size∧C'.size=16∧C'.all (fun x=>x.oneCell')=true):=⟨by rw[hg'.row.1];exact Tryz.sizeG,hg'.row.1,hg'.row.2⟩
       clear hX' hg' hb' HA
       go_upto_region 19 with (first
        |(refine wpList_store_row rfl 40 (.tmp 10) (.tmp 54) rfl w5.heap.size X' rfl rfl 40 _ (heap_alloc_new w5 _) HXS.out.1 (by rw[HXS.out.2.1];rfl) HXS.out.2.2 ?_)
        |fail)
       try rw[World.setRow_alloc_new]
       generalize w5.heap.size=R at *;generalize w5.alloc (.cells X' 40)=w6 at *;have x0:=HX.out.code;try dsimp only[Act.put]
       go_upto_region 22 with (first
        |(refine wpList_load_mid rfl 38 (.tmp 58) rfl R 1 rfl C'.toList _ HX.out.mid Tryz.underlying38 rfl (HSG.out _ HC5.out.2.1) ?_)
        |(refine wpList_store_row rfl 38 (.tmp 7) (.tmp 59) rfl G C' rfl rfl 38 _ HK5.out.2.1 HC5.out.1 (by rw[HC5.out.2.1];exact HCS.out.2) HC5.out.2.2 ?_)
        |fail)
       have HG7:Hid (DbG w B q G zs v' (wl c k++[(m:Int)]) w4.heap.size C' z' (fs++[(m,1)]) (wl c k++[(m:Int)]) (w6.setRow G C')):=DbG.put HK5.out.1 HK5.out.2.1 HX.out.gate HBG.out HK5.out.2.2.1 HK5.out.2.2.2;generalize w6.setRow G C'=w7 at *;clear x0 HX HK5 HXS;try dsimp only[Act.put]
       go_wp2_with fail;go_roundw
       case rel=>exact⟨k+1,_,by omega,by go_num,rfl,_,_,_,_,by rw[HM.out.2.2.2];exact HG7.out,by simp;omega⟩
       case measure=>simp[intOf];omega
    ·obtain rfl:k=16:=by omega
     have hle:¬ ((16:Nat):Int)<16:=by decide
     go_upto_region 27 with fail
     have HOZ:Hid ((Tryz.prog.info? 44).map (·.size)=some 4):=by show _=_;kernel_rfl
     go_upto_region 28 with (first
      |(refine wpList_store_row rfl 44 (.tmp 12) (.tmp 76) rfl wr.heap.size #[.int .i64 2,.slice none 0 0,.int .i64 0,.int .i64 ((c:Int)+1)] rfl rfl 44 _ (heap_alloc_new wr _) HOZ.out rfl (by simp[Value.oneCell']) ?_)
      |fail)
     try rw[World.setRow_alloc_new]
     rw[show(c:Int)+1=((c+1:Nat):Int) by omega];obtain⟨m,hm⟩:∃ m,c+1=m:=⟨_,rfl⟩
     rw[hm];have HM:Hid (m=c+1):=hm.symm;have HG1:Hid (DbG w B q G zs l (wl c 16) lo C zd fs (wl c 16) (wr.alloc (.cells #[.int .i64 2,.slice none 0 0,.int .i64 0,.int .i64 (m:Int)] 44))∧(wr.alloc (.cells #[.int .i64 2,.slice none 0 0,.int .i64 0,.int .i64 (m:Int)] 44)).heap[wr.heap.size]?=some (.cells #[.int .i64 2,.slice none 0 0,.int .i64 0,.int .i64 (m:Int)] 44 (0,0))∧G<wr.heap.size):=⟨HST.out.call (below_new wr _),heap_alloc_new wr _,lt_ofD HST.out.row⟩
     have HCS:Hid ((Tryz.prog.info? 38).map (·.size)=some C.size∧C.size=16):=⟨by rw[HST.out.gate.row.1];exact Tryz.sizeG,HST.out.gate.row.1⟩
     clear hm HST;generalize wr.alloc (.cells #[.int .i64 2,.slice none 0 0,.int .i64 0,.int .i64 (m:Int)] 44)=w1 at *;generalize wr.heap.size=M at *;try dsimp only[Act.put]
     go_wp2_with (first
      |(refine wpList_load_row rfl 38 (.tmp 7) rfl G rfl 38 C (0,0) _ HG1.out.1.row Tryz.underlying38 rfl HCS.out.1 ?_)
      |(refine wpList_load_row rfl 44 (.tmp 12) rfl M rfl 44 #[.int .i64 2,.slice none 0 0,.int .i64 0,.int .i64 (m:Int)] (0,0) _ HG1.out.2.1 Tryz.underlying44 rfl HOZ.out ?_)
      |fail)
     refine(gd_full C zd zs fs (wl c 16) m none 0 0 0 w1 HG1.out.1.gate (by have:=HM.out;have:=HC.out.1;omega) (by omega) (by rw[HM.out];exact wl_more HC.out.1) (wl_len _ _)).mono ?_;rintro e w2 ⟨X2,rfl,⟨C2,hX2,hg2⟩,hb2⟩;have HT:Hid (DbT w B q M w2.heap.size zs l (wl c 16) m w1.heap.size X2 C2 10 zd fs (wl c 16) (w2.alloc (.cells X2 40))):=by
      have h1:=HG1.out.1;have hM:=lt_ofD HG1.out.2.1;exact⟨(h1.dk.call hb2).call (below_new w2 _),by rw[(below_new w2 _).block _ (Nat.lt_of_lt_of_le hM hb2.size),hb2.block _ hM];exact HG1.out.2.1,DbR.new hX2 hg2,by have:=h1.hBG;have:=HG1.out.2.2;omega,Nat.lt_of_lt_of_le hM hb2.size,fun p hp=>(h1.dk.want.lt_ p hp).2⟩
     have HXS:Hid ((Tryz.prog.info? 40).map (·.size)=some X2.size∧X2.size=17∧X2.all (fun x=>x.oneCell')=true):=by
      have hr:=RJ.row ⟨C2,hX2,hg2⟩;exact⟨by rw[hr.1];exact Tryz.sizeR,hr.1,hr.2⟩
     clear hX2 hg2 hb2 HG1 HCS
     go_upto_region 29 with (first
      |(refine wpList_store_row rfl 40 (.tmp 13) (.tmp 79) rfl w2.heap.size X2 rfl rfl 40 _ (heap_alloc_new w2 _) HXS.out.1 (by rw[HXS.out.2.1];rfl) HXS.out.2.2 ?_)
      |fail)
     try rw[World.setRow_alloc_new]
     generalize w2.heap.size=R at *;generalize w2.alloc (.cells X2 40)=w3 at *;have x0:=HT.out.r.code;obtain⟨a1,c1,x12,hA1⟩:=HT.out.r.deny;rw[wl_len] at x12;obtain⟨p,cp,rfl,hBp,hp,hAp,hfz⟩:=HT.out.dk.want.some_ (by rw[wl_len];decide);rw[wl_len] at HT ⊢;have HA1:=hid_ofV (And.intro hA1 hAp);clear hA1 hAp hBp hp hfz;try dsimp only[Act.put]
     go_wp2_with fail;refine(nms_any a1 (some ⟨p,0,none⟩) 16 c1 cp (wl c 16) w3 (wl_len _ _) (by decide) HA1.out.1 HA1.out.2).mono ?_;rintro e w4 ⟨rfl,d4,rfl⟩;have HT4:=hid_ofV (HT.out.call (w':=w3.drewN d4) ⟨rfl,rfl,rfl,Nat.le_refl _,fun _ _=>rfl⟩);generalize w3.drewN d4=w4 at *;have HC2:Hid ((Tryz.prog.info? 38).map (·.size)=some C2.size∧C2.size=16):=⟨by rw[HT4.out.r.gate.row.1];exact Tryz.sizeG,HT4.out.r.gate.row.1⟩
     clear HT HA1 x0 x12;go_wp2_with (first
      |(refine wpList_load_mid rfl 38 (.tmp 93) rfl R 1 rfl C2.toList _ HT4.out.r.mid Tryz.underlying38 rfl (HSG.out _ HC2.out.2) ?_)
      |fail)
     refine(gd_rem C2 zd zs fs (wl c 16) c none 0 0 0 w4 HT4.out.r.gate (by have:=HC.out.1;omega) (by omega) (by rw[wl_cons];exact List.mem_cons_self)).mono ?_;rintro e w5 ⟨X5,z5,rfl,⟨C5,hX5,hg5⟩,hb5⟩;rw[wl_less HC.out.1] at hg5;have HT5:=hid_ofV (HT4.out.put hb5 hX5 hg5);have HRW:Hid (w5.heap[R]?=some (.cells X2 40 (0,0))∧X2.size=17):=⟨(HT4.out.call hb5).r.row,(RJ.row ⟨C2,HT4.out.r.x,HT4.out.r.gate⟩).1⟩
     have HXS:Hid ((Tryz.prog.info? 40).map (·.size)=some X5.size∧X5.size=17∧X5.all (fun x=>x.oneCell')=true):=by
      have hr:=RJ.row ⟨C5,hX5,hg5⟩;exact⟨by rw[hr.1];exact Tryz.sizeR,hr.1,hr.2⟩
     have HC5:Hid (C5.size=16):=hg5.row.1;clear hX5 hg5 hb5 HT4 HC2
     go_upto_region 32 with (first
      |(refine wpList_store_row rfl 40 (.tmp 13) (.tmp 97) rfl R X5 rfl rfl 40 _ HRW.out.1 HXS.out.1 (by rw[HXS.out.2.1];exact HRW.out.2) HXS.out.2.2 ?_)
      |fail)
     have HX5:Hid (X5.size=17):=HXS.out.2.1;clear HRW HXS;generalize w5.setRow R X5=w6 at *;generalize w4.heap.size=lo5 at *;have x5:=HT5.out.r.code;try dsimp only[Act.put]
     go_wp2_with (first
      |(refine wpList_load_mid rfl 38 (.tmp 101) rfl R 1 rfl C5.toList _ HT5.out.r.mid Tryz.underlying38 rfl (HSG.out _ HC5.out) ?_)
      |(refine wpList_load_row rfl 44 (.tmp 12) rfl M rfl 44 #[.int .i64 2,.slice none 0 0,.int .i64 0,.int .i64 (m:Int)] (0,0) _ HT5.out.op Tryz.underlying44 rfl HOZ.out ?_)
      |fail)
     refine(gd_add C5 z5 zs (fs++[(c,0)]) (wt c) m none 0 0 0 w6 HT5.out.r.gate (by have:=HM.out;have:=HC.out.1;omega) (by simp;omega) (by rw[HM.out];exact wt_new HC.out.1) (by rw[wt_len];decide)).mono ?_;rintro e w7 ⟨X7,z7,rfl,⟨C7,hX7,hg7⟩,hb7⟩;have hD7:withS (wt c) m=(wl c 16).set 0 (m:Int):=by rw[HM.out];exact wt_with HC.out.1
     rw[hD7] at hg7;have HT7:=hid_ofV (HT5.out.put hb7 hX7 hg7);have HRW:Hid (w7.heap[R]?=some (.cells X5 40 (0,0))∧X5.size=17):=⟨(HT5.out.call hb7).r.row,HX5.out⟩
     have HXS:Hid ((Tryz.prog.info? 40).map (·.size)=some X7.size∧X7.size=17∧X7.all (fun x=>x.oneCell')=true):=by
      have hr:=RJ.row ⟨C7,hX7,hg7⟩;exact⟨by rw[hr.1];exact Tryz.sizeR,hr.1,hr.2⟩
     have HC7:Hid (C7.size=16):=hg7.row.1;clear hX7 hg7 hb7 HT5 HC5 x5 hD7
     go_upto_region 35 with (first
      |(refine wpList_store_row rfl 40 (.tmp 13) (.tmp 104) rfl R X7 rfl rfl 40 _ HRW.out.1 HXS.out.1 (by rw[HXS.out.2.1];exact HRW.out.2) HXS.out.2.2 ?_)
      |fail)
     clear HRW HXS HX5;generalize w7.setRow R X7=w8 at *;generalize w6.heap.size=lo7 at *;obtain⟨p',cp',ep,hBp,hp,hAp,hfz⟩:=HT7.out.dk.want.some_ (by rw[wl_len];decide);cases ep;obtain⟨y0,hc0⟩:∃ y0,w8.cell? ⟨p,0,none⟩=some (.int .i64 y0):=by
      obtain⟨b,o,e,_,hc⟩:=hAp.get (by rw[wl_len];decide);cases e;exact⟨_,by simpa using hc 0 (by rw[wl_len];decide)⟩
     have hf0:=hfz 0;have HT8:=hid_ofV (HT7.out.set 0 (m:Int));have hcm:(c:Int)+1=(m:Int):=by have:=HM.out;omega
     clear hBp hp hAp hfz;try dsimp only[Act.put]
     go_upto_region 36 with fail
     generalize w8.setCell ⟨p,0,none⟩ (.int .i64 (m:Int))=w9 at *;clear HT7 hc0 hf0 hcm;have HDD:Hid ((dvC C7).length=4):=HT8.out.r.gate.dat.2;go_wp2_with (first
      |(refine wpList_load_mid rfl 27 (.tmp 110) rfl R 1 rfl (dvC C7) _ HT8.out.r.midD Tryz.underlying27 rfl (HSD.out _ HDD.out) ?_)
      |fail)
     refine(dcr_any HT8.out.r.gate).mono ?_;rintro e wA ⟨rA,rfl,hpA,hbA⟩;have HTA:=hid_ofV (HT8.out.call hbA);have HPA:=hid_ofV (And.intro hpA hbA.size);clear hpA hbA HDD HT8;go_wp2_with fail;refine(rcv_any (ka:=some ⟨q,0,none⟩) (kc:=kc) HPA.out.1 HPA.out.2 HTA.out.r.gate.2.1 HTA.out.r.gate.2.2.1 (by simp;omega) HC.out.2 HTA.out.dk.key).mono ?_;rintro e wB ⟨XB,rfl,⟨CB,hXB,hgB⟩,hbB⟩;have HXB:=hid_ofV (DbR.new hXB hgB);have HTB:=hid_ofV ((HTA.out.call hbB).call (below_new wB (.cells XB 40)));have HXS:Hid ((Tryz.prog.info? 40).map (·.size)=some XB.size∧XB.size=17∧XB.all (fun x=>x.oneCell')=true):=by
      have hr:=RJ.row ⟨CB,hXB,hgB⟩;exact⟨by rw[hr.1];exact Tryz.sizeR,hr.1,hr.2⟩
     clear hXB hgB hbB HTA HPA
     go_upto_region 37 with (first
      |(refine wpList_store_row rfl 40 (.tmp 14) (.tmp 115) rfl wB.heap.size XB rfl rfl 40 _ (heap_alloc_new wB _) HXS.out.1 (by rw[HXS.out.2.1];rfl) HXS.out.2.2 ?_)
      |fail)
     try rw[World.setRow_alloc_new]
     generalize wB.heap.size=RB at *;generalize wB.alloc (.cells XB 40)=wC at *;have xA:=HTB.out.r.code;have xB:=HXB.out.code;obtain⟨aB,cB,xB12,hAB⟩:=HXB.out.deny;have hlB:((wl c 16).set 0 (m:Int)).length=16:=by rw[List.length_set,wl_len]
     rw[hlB] at xB12;have HAB:Hid (At .i64 wC aB ((wl c 16).set 0 (m:Int))∧At .i64 wC (some ⟨p,0,none⟩) ((wl c 16).set 0 (m:Int))∧((wl c 16).set 0 (m:Int)).length=16∧Below w.heap.size w wC):=⟨hAB,by
      obtain⟨p',cp',ep,_,_,h1,_⟩:=HTB.out.dk.want.some_ (by rw[hlB];decide);cases ep;exact h1,hlB,HTB.out.dk.below⟩
     clear hAB HXB HTB HXS hlB;try dsimp only[Act.put]
     go_wp2_with fail;refine(nms_any aB (some ⟨p,0,none⟩) 16 cB cp _ wC HAB.out.2.2.1 (by decide) HAB.out.1 HAB.out.2.1).mono ?_;rintro e wD ⟨rfl,dD,rfl⟩;go_wp2_with fail
     go_ret
     exact⟨rfl,belD HAB.out.2.2.2 dD⟩
end Go.Proofs.YtilpkdnoaldfmaaGreatDoor
