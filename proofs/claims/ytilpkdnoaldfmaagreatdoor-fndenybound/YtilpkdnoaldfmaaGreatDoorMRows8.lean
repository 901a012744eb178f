import Derived.Test.YtilpkdnoaldfmaaGreatDoorMRows8a
import Derived.Test.YtilpkdnoaldfmaaGreatDoorMCatF
import Derived.Test.YtilpkdnoaldfmaaGreatDoorMCatC
import Derived.Test.YtilpkdnoaldfmaaGreatDoorMBase
import Derived.Test.YtilpkdnoaldfmaaGreatDoorMArgDev
import Derived.Deep.Cut
import Derived.Deep.MidRow
namespace Go.Proofs.YtilpkdnoaldfmaaGreatDoor
open Go.ChangeShapes Go.WideShapes Go.ChangeAt Go.RowKit
set_option linter.unusedVariables false
def num4 (zs:List Int) (p:Nat):Int:=zs.getD p 0+256*zs.getD (p+1) 0+65536*zs.getD (p+2) 0+16777216*zs.getD (p+3) 0
theorem or_join (x y:Int) (i:Nat) (hx:0≤x) (hx':x<2^i) (hy:0≤y) (hy':y<4294967296) (hm:y%2^i=0) (hi:i≤32):bits .or .u32 x y=x+y:=by
 obtain⟨x,rfl⟩:=Int.eq_ofNat_of_zero_le hx;obtain⟨y,rfl⟩:=Int.eq_ofNat_of_zero_le hy;have hx2:x<2^i:=by exact_mod_cast hx'
 have hm2:y%2^i=0:=by exact_mod_cast hm
 have hi2:2^i≤2^32:=Nat.pow_le_pow_right (by decide) hi;rw[u32_or_nat x y (by omega) (by omega),Nat.or_comm,nat_join i y x hm2 hx2];omega
theorem num_bits (a b c d:Int) (ha:0≤a∧a<256) (hb:0≤b∧b<256) (hc:0≤c∧c<256) (hd:0≤d∧d<256) :
  bits .or .u32 (bits .or .u32 (bits .or .u32 a (b*256)) (c*65536)) (d*16777216)=a+256*b+65536*c+16777216*d:=by
 rw[or_join a (b*256) 8 (by omega) (by omega) (by omega) (by omega) (by omega) (by decide),
  or_join _ (c*65536) 16 (by omega) (by omega) (by omega) (by omega) (by omega) (by decide),
  or_join _ (d*16777216) 24 (by omega) (by omega) (by omega) (by omega) (by omega) (by decide)]
 omega
set_option maxHeartbeats 400000 in
theorem num_any (g:Nat) (t:TypeId) (p:Int) (zs:List Int) (w:World) (hr:Row w g t zs) (hz:Byte zs) (hl:zs.length=64) (hp:0≤p) (hp':p≤60) :
  Calls Tryz.prog 87 #[.pointer (some ⟨g,0,none⟩),.int .i64 p] w fun e w'=>e=.returned (.int .u32 (num4 zs p.toNat))∧∃ q,w'=w.drewN q:=by
 obtain⟨p,rfl⟩:=Int.eq_ofNat_of_zero_le hp;have c0:=hr.cell p (by omega);have c1:=hr.cell (p+1) (by omega);have c2:=hr.cell (p+2) (by omega);have c3:=hr.cell (p+3) (by omega);have b0:=hz.get p;have b1:=hz.get (p+1);have b2:=hz.get (p+2);have b3:=hz.get (p+3);have HN:Hid (num4 zs p=zs.getD p 0+256*zs.getD (p+1) 0+65536*zs.getD (p+2) 0+16777216*zs.getD (p+3) 0):=rfl;generalize zs.getD p 0=a at *;generalize zs.getD (p+1) 0=b at *;generalize zs.getD (p+2) 0=c at *;generalize zs.getD (p+3) 0=d at *;have HB:=num_bits a b c d b0 b1 b2 b3;have HH:Hid _:=HB;clear HB;obtain⟨b01,b02⟩:=b0;obtain⟨b11,b12⟩:=b1;obtain⟨b21,b22⟩:=b2;obtain⟨b31,b32⟩:=b3;go_enter Tryz.func87,Tryz.ntmps87;go_wp2
 go_quiet (fail)
 go_wp2
 go_ret
 exact⟨ret_int (by rw[HH.out,Int.toNat_natCast,HN.out]),nq,rfl⟩
theorem wpList_storeW {ops:Array Oper} {rest:List Oper} {o:Oper} {a:Act} {w:World} {Q:Exit→Act→World→Prop} (hgd:o.guard=none) (ty:TypeId) (x y:Operand) (ho:o.op=.store ty x y)
  (g:Nat) (cells:Array Value) (hx:a.eval x=.pointer (some ⟨g,0,none⟩)) (hy:a.eval y=.agg cells)
  (t:TypeId) (old:Array Value) (hg:w.heap[g]?=some (.cells old t (0,0))) (hi:(Tryz.prog.info? ty).map (·.size)=some cells.size)
  (hold:old.size=cells.size) (h1:cells.all (·.oneCell')=true)
  (h:∀ w',w'.heap[g]?=some (.cells cells t (0,0))→Wr g w w'→wpList Tryz.prog ops Q rest (a.put o.dst undef) w'):wpList Tryz.prog ops Q (o::rest) a w:=
 wpList_store_row hgd ty x y ho g cells hx hy t old hg hi hold h1 (h _ (setRow_heap _ _ _ _ _ _ hg) (Wr.setRow _ _ _))
theorem all2p (s:Int) (a:Option Addr) (l c:Nat):(#[Value.int .i64 s,.slice a l c].all (fun v=>v.oneCell'))=true:=by simp[Value.oneCell']
theorem Tryz.sizePd:(Tryz.prog.info? 63).map (·.size)=some 2:=by kernel_rfl
theorem row2 {w:World} {g:Nat} {t:TypeId} {a0 a1:Value} (h:w.heap[g]?=some (.cells #[a0,a1] t (0,0))) :
  w.cell? ⟨g,0,none⟩=some a0∧w.cell? ⟨g,1,none⟩=some a1:=
 ⟨cell_of_row _ _ _ _ _ _ h,cell_of_row _ _ _ _ _ _ h⟩
theorem PAt.entry {w:World} {a:Option Addr} {ps:List PD} (h:PAt w a ps) {i:Nat} (hi:i<ps.length) (hz:0<(ps.getD i (0,[])).2.length) :
  ∃ b off b' off' c,a=some ⟨b,off,none⟩∧b<w.heap.size∧w.cell? ⟨b,off+i*2,none⟩=some (.int .i64 (ps.getD i (0,[])).1)∧
   w.cell? ⟨b,off+i*2+1,none⟩=some (.slice (some ⟨b',off',none⟩) (ps.getD i (0,[])).2.length c)∧At .u8 w (some ⟨b',off',none⟩) (ps.getD i (0,[])).2:=by
 obtain⟨b,off,ha,hl,hc⟩:=h.get (by omega);obtain⟨x,c,h1,h2,h3⟩:=hc i hi;obtain⟨b',off',e,_,_⟩:=h3.get hz;rw[e] at h2 h3;exact⟨b,off,b',off',c,ha,hl,h1,h2,h3⟩
theorem At.none_nil {w:World} {zs:List Int} (h:At .u8 w none zs):zs=[]:=by
 rcases h with h|⟨b,off,e,_⟩
 ·exact h
 ·cases e
set_option maxHeartbeats 400000 in
set_option maxRecDepth 100000 in
theorem clone2_any (a:Option Addr) (n cap:Nat) (zs:List Int) (w:World) (hn:zs.length=n) (hm:n≤1048576) (ha:At .u8 w a zs) :
  Calls Tryz.prog 19 #[.slice a n cap] w fun e w'=>∃ v,e=.returned v∧OwnN w' w.heap.size v zs∧Below w.heap.size w w':=by
 cases a with
 |none=>
  have h0:=ha.none_nil;have E:=run_nilSlice w none n cap;go_enter Tryz.func19,Tryz.ntmps19;go_wp2
  go_ret
  exact⟨_,rfl,.inl ⟨rfl,h0⟩,Below.refl _ _⟩
 |some ad=>exact clone_any (some ad) n cap zs w hn hm ha (fun h=>by cases h)
theorem POwn.snoc2 {w1 w':World} {B S:Nat} {v v':Value} {qs:List Q1} {q:Q1} (h:POwn w1 B v qs) (hlt:∀(i:Nat) (p:Q1) (k:Nat),qs[i]?=some p→p.v.ownBlock=some k→k<S) (hq:QOk w1 S q) (hB:B≤S)
  (hr:w'.ownsRow B 63 2 v' (qs.length+1) (qcells qs++[.int .i64 q.s,.slice q.a q.z.length q.c])) (hg:w1.grownBy w' v.ownBlock):POwn w' B v' (qs++[q]):=by
 have hne:∀ k cur t,w1.heap[k]?=some (.cells cur t (0,0))→t≠63→some k≠v.ownBlock:=fun k cur t hh ht e=>by
  obtain⟨_,h2,cur',h3⟩:=ownsRow_lt h.row k e.symm;rw[h3] at hh;simp at hh;exact ht hh.2.symm
 have hkp:∀ {C:Nat} {p:Q1},QOk w1 C p→QOk w' C p:=fun {C p} hp=>hp.keep (fun k e=>by obtain⟨_,h3,cur,t,h4,h5,_⟩:=hp.lt k e;exact hg.block k h3 (hne k cur t h4 h5))
 refine⟨by rw[List.length_append,qcells_snoc];exact hr,fun i p hp=>?_,fun i j p p' k k' hp hp' hij hk hk'=>?_⟩
 ·by_cases hi:i<qs.length
  ·rw[List.getElem?_append_left hi] at hp;exact hkp (h.each i p hp)
  ·rw[List.getElem?_append_right (by omega)] at hp;have:i-qs.length=0:=by
    have:=(List.getElem?_eq_some_iff.1 hp).1;simp at this;omega
   rw[this] at hp;simp at hp;subst hp;exact(hkp hq).mono hB
 ·have hi:i<qs.length:=by have:=(List.getElem?_eq_some_iff.1 hp').1;simp at this;omega
  rw[List.getElem?_append_left hi] at hp;by_cases hj:j<qs.length
  ·rw[List.getElem?_append_left hj] at hp';exact h.ord i j p p' k k' hp hp' hij hk hk'
  ·rw[List.getElem?_append_right (by omega)] at hp';have:j-qs.length=0:=by
    have:=(List.getElem?_eq_some_iff.1 hp').1;simp at this;omega
   rw[this] at hp';simp at hp';subst hp';have:=(hq.lt k' hk').1;have:=hlt i p k hp hk;omega
theorem hid_ofN {p:Prop} (h:p):Hid p:=h
structure CS (w wr:World) (C1:Array Value) (A E:Nat) (dv cv:Value) (zs:List Int) (f:Int) (d:Bool) (qs:List Q1):Prop where
 below:Below w.heap.size w wr
 b0:wr.heap[w.heap.size]?=some (.cells C1 27 (0,0))
 b1:wr.heap[w.heap.size+1]?=some (.cells #[.slice none 0 0,.slice none 0 0,.int .i64 0,.bool false] 27 (0,0))
 aft:wr.heap[A]?=some (.cells #[dv,cv,.int .i64 f,.bool d] 27 (0,0))
 own:OwnN wr (w.heap.size+2) dv zs
 pow:POwn wr E cv qs
 hE:w.heap.size+2≤A∧A<E∧E≤wr.heap.size
 hdv:∀ k,dv.ownBlock=some k→k<E∧k≠A
theorem CS.grow {w wr w':World} {C1:Array Value} {A E:Nat} {dv cv:Value} {zs:List Int} {f:Int} {d:Bool} {qs:List Q1} (h:CS w wr C1 A E dv cv zs f d qs) (hb:Below wr.heap.size wr w'):CS w w' C1 A E dv cv zs f d qs:=by
 have hE:=h.hE;have hs:=hb.size;exact⟨h.below.trans (hb.mono h.below.size),by rw[hb.block _ (by omega)];exact h.b0,by rw[hb.block _ (by omega)];exact h.b1,by rw[hb.block _ (by omega)];exact h.aft,h.own.keep (fun k hk=>hb.block k (h.own.lt k hk).2.1),h.pow.below hb,⟨hE.1,hE.2.1,by omega⟩,h.hdv⟩
theorem CS.turn {w wr w':World} {C1:Array Value} {A E:Nat} {dv cv cv':Value} {zs:List Int} {f:Int} {d:Bool} {qs qs':List Q1} (h:CS w wr C1 A E dv cv zs f d qs) (ho:w'.os=wr.os) (ht:w'.tape=wr.tape) (hu:w'.output=wr.output) (hs:wr.heap.size≤w'.heap.size)
  (hk:∀ k,k<E→k≠A→w'.heap[k]?=wr.heap[k]?) (ha:w'.heap[A]?=some (.cells #[dv,cv',.int .i64 f,.bool d] 27 (0,0))) (hp:POwn w' E cv' qs'):CS w w' C1 A E dv cv' zs f d qs':=by
 have hE:=h.hE;exact⟨h.below.trans ⟨ho,ht,hu,hs,fun k hk'=>hk k (by omega) (by omega)⟩,by rw[hk _ (by omega) (by omega)];exact h.b0,by rw[hk _ (by omega) (by omega)];exact h.b1,ha,h.own.keep (fun k e=>hk k (h.hdv k e).1 (h.hdv k e).2),hp,⟨hE.1,hE.2.1,by omega⟩,h.hdv⟩
def DvOwn (w:World) (B:Nat) (r:Value) (zs:List Int) (ps:List PD) (f:Int) (d:Bool):Prop:=∃ dv cv qs E,r=.agg #[dv,cv,.int .i64 f,.bool d]∧OwnN w B dv zs∧POwn w E cv qs∧qps qs=ps∧B≤E∧E≤w.heap.size∧∀ k,dv.ownBlock=some k→k<E
theorem DvOwn.keep {w w':World} {B:Nat} {r:Value} {zs:List Int} {ps:List PD} {f:Int} {d:Bool} (h:DvOwn w B r zs ps f d) (hk:∀ k cur t,B≤k→w.heap[k]?=some (.cells cur t (0,0))→t≠27→w'.heap[k]?=w.heap[k]?) (hs:w.heap.size≤w'.heap.size):DvOwn w' B r zs ps f d:=by
 obtain⟨dv,cv,qs,E,hr,hO,hP,hq,hBE,hEw,hdv⟩:=h;refine⟨dv,cv,qs,E,hr,hO.keep (fun k e=>?_),⟨ownsRow_keep hP.row (fun k e=>?_),fun i q hi=>(hP.each i q hi).keep (fun k e=>?_),hP.ord⟩,hq,hBE,by omega,hdv⟩
 ·obtain⟨h1,_,cur,h2⟩:=hO.lt k e;exact hk k cur _ h1 h2 (by decide)
 ·obtain⟨h1,_,cur,h2⟩:=ownsRow_lt hP.row k e;exact hk k cur _ (by omega) h2 (by decide)
 ·obtain⟨h1,_,cur,t,h2,_,h3⟩:=(hP.each i q hi).lt k e;exact hk k cur t (by omega) h2 h3
theorem DvOwn.mono {w:World} {B B':Nat} {r:Value} {zs:List Int} {ps:List PD} {f:Int} {d:Bool} (h:DvOwn w B r zs ps f d) (hB:B'≤B):DvOwn w B' r zs ps f d:=by
 obtain⟨dv,cv,qs,E,hr,hO,hP,hq,hBE,hEw,hdv⟩:=h;exact⟨dv,cv,qs,E,hr,hO.mono hB,hP,hq,by omega,hEw,hdv⟩
theorem CS.typed {w wr:World} {C1:Array Value} {A E:Nat} {dv cv:Value} {zs:List Int} {f:Int} {d:Bool} {qs:List Q1} (h:CS w wr C1 A E dv cv zs f d qs):DvOwn wr (w.heap.size+2) (.agg #[dv,cv,.int .i64 f,.bool d]) zs (qps qs) f d:=
 ⟨dv,cv,qs,E,rfl,h.own,h.pow,rfl,by have:=h.hE;omega,h.hE.2.2,fun k e=>(h.hdv k e).1⟩
def GA (S D L cap:Nat) (a:Option Addr) (zs:List Int) (f:Int) (d:Bool):Nat→World→Value→Prop
 |0,_,v=>v=.pointer (some ⟨D,0,none⟩)
 |1,_,v=>v=.slice a L cap
 |2,w,v=>OwnN w S v zs
 |3,_,v=>v=.pointer (some ⟨D,2,none⟩)
 |4,_,v=>v=.int .i64 f
 |5,_,v=>v=.pointer (some ⟨D,3,none⟩)
 |6,_,v=>v=.bool d
 |7,w,v=>∃ dv,v=.agg #[dv,.slice none 0 0,.int .i64 f,.bool d]∧OwnN w S dv zs
 |_,w,v=>∃ A,v=.pointer (some ⟨A,0,none⟩)∧S≤A∧w.heap[A]?=some (.cells #[.slice none 0 0,.slice none 0 0,.int .i64 0,.bool false] 27 (0,0))
theorem OwnN.grow {w w':World} {B:Nat} {v:Value} {zs:List Int} (h:OwnN w B v zs) (hb:Below w.heap.size w w'):OwnN w' B v zs:=h.keep (fun k hk=>hb.block k (h.lt k hk).2.1)
theorem GA_mono (S D L cap:Nat) (a:Option Addr) (zs:List Int) (f:Int) (d:Bool) (i:Nat) (w w':World) (v:Value) (hm:Below w.heap.size w w') (h:GA S D L cap a zs f d i w v):GA S D L cap a zs f d i w' v:=by
 unfold GA at *;split at h;all_goals first
  |exact h
  |exact h.grow hm
  |(obtain⟨dv,e,h⟩:=h;exact⟨dv,e,h.grow hm⟩)
  |(obtain⟨W,e,h1,h2⟩:=h;exact⟨W,e,h1,by rw[hm.block _ (Array.getElem?_eq_some_iff.1 h2).1];exact h2⟩)
theorem OwnN.sl' {w:World} {B:Nat} {v:Value} {z:List Int} (h:OwnN w B v z):∃ a c,v=.slice a z.length c:=by
 rcases h with⟨rfl,rfl⟩|h
 ·exact⟨none,0,rfl⟩
 ·obtain⟨g,c,rfl,_⟩:=h.base;exact⟨_,c,rfl⟩
def GQ (A P S E:Nat) (cv:Value) (qs:List Q1) (s:Int) (xa:Option Addr) (c:Nat) (z:List Int):Nat→(Nat→Bool)→World→Value→Prop
 |0,_,_,v=>v=.pointer (some ⟨A,1,none⟩)
 |1,_,_,v=>v=cv
 |2,_,_,v=>v=.pointer (some ⟨P,0,none⟩)
 |3,_,_,v=>v=.int .i64 s
 |4,_,_,v=>v=.pointer (some ⟨P,1,none⟩)
 |5,_,_,v=>v=.slice xa z.length c
 |6,_,w,v=>OwnN w S v z
 |7,_,w,v=>∃ a c',v=.agg #[.int .i64 s,.slice a z.length c']∧OwnN w S (.slice a z.length c') z
 |8,_,w,v=>∃ K a c',v=.slice (some ⟨K,0,none⟩) 1 1∧S≤K∧w.heap[K]?=some (.cells #[.int .i64 s,.slice a z.length c'] 63 (0,0))∧OwnN w S (.slice a z.length c') z
 |9,_,w,v=>∃ q:Q1,q.s=s∧q.z=z∧POwn w E v (qs++[q])
 |_,_,_,v=>v=.pointer (some ⟨A,1,none⟩)
theorem grown_of_below {w w':World} {r:Option Nat} (h:Below w.heap.size w w'):w.grownBy w' r:=⟨h.os,h.tape,h.output,h.size,fun k hk _=>h.block k hk⟩
theorem grown_trans {w w' w'':World} {r:Option Nat} (h:w.grownBy w' r) (k:w'.grownBy w'' r):w.grownBy w'' r:=
 ⟨k.os.trans h.os,k.tape.trans h.tape,k.output.trans h.output,Nat.le_trans h.size k.size,fun i hi hr=>(k.block i (by have:=h.size;omega) hr).trans (h.block i hi hr)⟩
theorem OwnN.grown {w w':World} {S:Nat} {v:Value} {z:List Int} {r:Option Nat} (h:OwnN w S v z) (hg:w.grownBy w' r) (hr:∀ k,r=some k→k<S):OwnN w' S v z:=
 h.keep (fun k e=>hg.block k (h.lt k e).2.1 (fun er=>by have:=hr k er.symm;have:=(h.lt k e).1;omega))
theorem GQ_stab (A P S E:Nat) (cv:Value) (qs:List Q1) (s:Int) (xa:Option Addr) (c:Nat) (z:List Int) (hr:∀ k,cv.ownBlock=some k→k<S) (j:Nat) (L:Nat→Bool) (w w':World) (i:Nat) (v:Value)
  (hM:(i≠9→Below w.heap.size w w')∧w.grownBy w' cv.ownBlock) (hij:i≠j) (hL:L i=false) (h:GQ A P S E cv qs s xa c z j L w v):GQ A P S E cv qs s xa c z j (updK L i) w' v:=by
 have hg:=hM.2;unfold GQ at *;split at h;all_goals first
  |exact h
  |exact OwnN.grown h hg hr
  |(obtain⟨a,c',e,h⟩:=h;exact⟨a,c',e,OwnN.grown h hg hr⟩)
  |(obtain⟨K,a,c',e,h1,h2,h⟩:=h;exact⟨K,a,c',e,h1,by rw[hg.block _ (Array.getElem?_eq_some_iff.1 h2).1 (fun er=>by have:=hr K er.symm;omega)];exact h2,OwnN.grown h hg hr⟩)
  |(obtain⟨q,e1,e2,h⟩:=h;exact⟨q,e1,e2,h.below (hM.1 hij)⟩)
theorem Tryz.infoPend':(Tryz.prog.info? 63).map (fun i=>(i.zero,i.size,i.bytes))=some (some (.agg #[.int .i64 0,.slice none 0 0]),2,32):=by kernel_rfl
theorem wp_appP (w:World) {o:Oper} {a:Act} {K:Act→World→Prop} {Q:Exit→Act→World→Prop} (s x:Operand) (hop:o.op=Op.call { callee:=Callee.builtin Builtin.append,args:=#[s,x],argTypes:=#[25,25] })
  (E S:Nat) (cv:Value) (qs:List Q1) (q:Q1) (hs:a.eval s=cv) (hP:POwn w E cv qs) (hlt:∀(i:Nat) (p:Q1) (k:Nat),qs[i]?=some p→p.v.ownBlock=some k→k<S) (B:Nat) (hx:a.eval x=.slice (some ⟨B,0,none⟩) 1 1)
  (hB:w.heap[B]?=some (.cells #[.int .i64 q.s,.slice q.a q.z.length q.c] 63 (0,0))) (hq:QOk w S q) (hES:E≤S) (hSw:E≤w.heap.size) (hb:qs.length≤1048576)
  (h:∀ v' w',POwn w' E v' (qs++[q])→w.grownBy w' cv.ownBlock→K (a.put o.dst v') w'):o.wp Tryz.prog a w K Q:=by
 obtain⟨i0,hi,hz0,hz1,hz2⟩:=info_parts Tryz.infoPend';refine wp_append_own w s x 25 hop E 63 i0 (.agg #[.int .i64 0,.slice none 0 0]) 2 32 Tryz.underlying25 hi hz0 hz1 hz2 rfl (by decide) cv qs.length _ hs hP.row ⟨B,0,none⟩ 1 1 [.int .i64 q.s,.slice q.a q.z.length q.c] hx rfl ?_ (by simp[Value.oneCell']) (by unfold maxLen;omega) (by omega) hSw ?_
 ·intro j u hu;rw[Addr.add_lit,cell_of_row w B (0+j) _ _ _ hB,Nat.zero_add];simpa using hu
 ·intro v' w' h1 h2 _;exact h v' w' (hP.snoc2 hlt hq hES h1 h2) h2
structure B2 (w wr:World) (C1:Array Value):Prop where
 below:Below w.heap.size w wr
 b0:wr.heap[w.heap.size]?=some (.cells C1 27 (0,0))
 b1:wr.heap[w.heap.size+1]?=some (.cells #[.slice none 0 0,.slice none 0 0,.int .i64 0,.bool false] 27 (0,0))
theorem B2.grow {w wr w':World} {C1:Array Value} (h:B2 w wr C1) (hb:Below wr.heap.size wr w'):B2 w w' C1:=
 ⟨h.below.trans (hb.mono h.below.size),by rw[hb.block _ (Array.getElem?_eq_some_iff.1 h.b0).1];exact h.b0,by rw[hb.block _ (Array.getElem?_eq_some_iff.1 h.b1).1];exact h.b1⟩
theorem B2.start (w:World) (C1:Array Value):B2 w ((w.alloc (.cells C1 27)).alloc (.cells #[.slice none 0 0,.slice none 0 0,.int .i64 0,.bool false] 27)) C1:=by
 have h2:=(Below.refl _ (w.alloc (.cells C1 27))).alloc (Nat.le_refl _) (.cells #[.slice none 0 0,.slice none 0 0,.int .i64 0,.bool false] 27);refine⟨((Below.refl w.heap.size w).alloc (Nat.le_refl _) (.cells C1 27)).alloc (by simp) (.cells #[.slice none 0 0,.slice none 0 0,.int .i64 0,.bool false] 27),?_,?_⟩
 ·rw[h2.block _ (by simp)];exact heap_alloc_new w _
 ·have:=heap_alloc_new (w.alloc (.cells C1 27)) (.cells #[.slice none 0 0,.slice none 0 0,.int .i64 0,.bool false] 27);simpa using this
set_option maxHeartbeats 2000000 in
set_option maxRecDepth 100000 in
theorem icp2_any (v:Value) (zs:List Int) (ps:List PD) (f:Int) (d:Bool) (w:World) (h:DAt w v zs ps f d) (hz:zs.length≤1048576) (hn:ps.length≤1048576) (hps:∀ i,(ps.getD i (0,[])).2.length≤1048576) :
  Calls Tryz.prog 29 #[v] w fun e w'=>∃ r,e=.returned r∧DvOwn w' w.heap.size r zs ps f d∧Below w.heap.size w w'∧(ps=[]→∃ dv,r=.agg #[dv,.slice none 0 0,.int .i64 f,.bool d]):=by
 have HSD:Hid _:=Tryz.sizeDv;have HSP:Hid _:=Tryz.sizePd;obtain⟨a,cap,x,cx,rfl,hA,hP,hcap⟩:=h;have HCL:Hid (∀ ww:World,Below w.heap.size w ww→Calls Tryz.prog 19 #[.slice a zs.length cap] ww fun e w'=>∃ v,e=.returned v∧OwnN w' ww.heap.size v zs∧Below ww.heap.size ww w'):=fun ww hb=>clone2_any a zs.length cap zs ww rfl hz (hA.below hb)
 have HP:Hid (PAt w x ps):=hP;have HPS:Hid (∀ i,(ps.getD i (0,[])).2.length≤1048576):=hps;obtain⟨L,hL⟩:∃ L,zs.length=L:=⟨_,rfl⟩
 obtain⟨m,hm⟩:∃ m,ps.length=m:=⟨_,rfl⟩
 rw[hL] at HCL ⊢;rw[hm] at hn ⊢;have HHM:Hid (ps.length=m):=hm;clear hL hm hA hP hcap hps hz;have HS0:Hid (B2 w _ #[.slice a L cap,.slice x m cx,.int .i64 f,.bool d]):=B2.start w #[.slice a L cap,.slice x m cx,.int .i64 f,.bool d];go_enter Tryz.func29,Tryz.ntmps29;go_wp2_with fail;have st1:=HS0.out;clear HS0;generalize ((w.alloc (.cells #[.slice a L cap,.slice x m cx,.int .i64 f,.bool d] 27)).alloc (.cells #[.slice none 0 0,.slice none 0 0,.int .i64 0,.bool false] 27))=w1 at *;have HS1:Hid (B2 w w1 #[.slice a L cap,.slice x m cx,.int .i64 f,.bool d]):=st1;have hs1:w.heap.size+1<w1.heap.size:=(Array.getElem?_eq_some_iff.1 st1.b1).1;clear st1;refine wp_region_any (by kernel_rfl) ?_;refine wpAny_slotsL 9 (fun w w'=>Below w.heap.size w w') (frame:=(fun (a b c d e f g h i j k l m n o p q r s u v w x y z:Value)=>fun (t:Nat→Value)=>({ tmps:=List.toArray [a,b,c,t 8,d,e,t 0,t 1,t 2,t 3,t 4,t 5,t 6,t 7,f,g,h,i,j,k,l,m,n,o,p,q,r,s,u,v,w,x,y,z],defers:=[] }:Act)) _ _ _ _ _ _ _ _ _ _ _ _ _ _ _ _ _ _ _ _ _ _ _ _ _)
  (Ext:=fun w'=>B2 w w' #[.slice a L cap,.slice x m cx,.int .i64 f,.bool d]∧Below w1.heap.size w1 w') (Good:=GA w1.heap.size w.heap.size L cap a zs f d) (by rfl) (by kernel_rfl) (GA_mono _ _ _ _ _ _ _ _) (by kernel_rfl) (by kernel_rfl) ?hop ?hend _ _ ((fun (x0 x1 x2 x3 x4 x5 x6 x7 x8:Value)=>fun (i:Nat)=>if i=0 then x0 else if i=1 then x1 else if i=2 then x2 else if i=3 then x3 else if i=4 then x4 else if i=5 then x5 else if i=6 then x6 else if i=7 then x7 else if i=8 then x8 else undef) _ _ _ _ _ _ _ _ _) _ (by simp) (by simp) ?ext ?start (by simp)
 case start=>intro i hi h;exact absurd h (by rw[Array.getD_eq_getD_getElem?,Array.getElem?_replicate];split<;>simp)
 case ext=>exact⟨B2.grow HS1.out (Below.refl _ _).drew,(Below.refl _ _).drew⟩
 case hop=>
  intro i o t w' hil ho hx hdep K hK;obtain⟨hx,hxb⟩:=hx;obtain⟨c0,c1,c2,c3⟩:=row4 hx.b0;obtain rfl|rfl|rfl|rfl|rfl|rfl|rfl|rfl|rfl:i=0∨i=1∨i=2∨i=3∨i=4∨i=5∨i=6∨i=7∨i=8:=by omega
  all_goals(simp at ho;subst ho)
  ·clear hdep;go_simp;exact hK w' (.pointer (some ⟨w.heap.size,0,none⟩)) rfl ⟨hx,hxb⟩ (Below.refl _ _)
  ·have d0:t 0=_:=hdep ⟨0,.data⟩ (by simp) rfl;clear hdep;go_simp;simpa[upd,d0] using hK w' (.slice a L cap) rfl ⟨hx,hxb⟩ (Below.refl _ _)
  ·have d1:t 1=_:=hdep ⟨1,.data⟩ (by simp) rfl;clear hdep;go_simp;refine(HCL.out w' hx.below).mono ?_;rintro e w9 ⟨v9,rfl,O9,hb9⟩;have O9':=O9.mono hxb.size;clear O9;go_simp;simpa[upd,d1] using hK w9 v9 O9' ⟨hx.grow hb9,hxb.trans (hb9.mono hxb.size)⟩ hb9
  ·clear hdep;go_simp;exact hK w' (.pointer (some ⟨w.heap.size,2,none⟩)) rfl ⟨hx,hxb⟩ (Below.refl _ _)
  ·have d3:t 3=_:=hdep ⟨3,.data⟩ (by simp) rfl;clear hdep;go_simp;simpa[upd,d3] using hK w' (.int .i64 f) rfl ⟨hx,hxb⟩ (Below.refl _ _)
  ·clear hdep;go_simp;exact hK w' (.pointer (some ⟨w.heap.size,3,none⟩)) rfl ⟨hx,hxb⟩ (Below.refl _ _)
  ·have d5:t 5=_:=hdep ⟨5,.data⟩ (by simp) rfl;clear hdep;go_simp;simpa[upd,d5] using hK w' (.bool d) rfl ⟨hx,hxb⟩ (Below.refl _ _)
  ·have d2:OwnN w' w1.heap.size (t 2) zs:=hdep ⟨2,.data⟩ (by simp) rfl;have d4:t 4=_:=hdep ⟨4,.data⟩ (by simp) rfl;have d6:t 6=_:=hdep ⟨6,.data⟩ (by simp) rfl;clear hdep;obtain⟨da,dc,e2⟩:=d2.sl';rw[e2] at d2;have hK':=hK w' (.agg #[.slice da zs.length dc,.slice none 0 0,.int .i64 f,.bool d]) ⟨_,rfl,d2⟩ ⟨hx,hxb⟩ (Below.refl _ _);clear d2 hK;go_simp;simpa[upd,e2,d4,d6] using hK'
  ·clear hdep;have hb9:=(Below.refl w'.heap.size w').alloc (Nat.le_refl _) (.cells #[.slice none 0 0,.slice none 0 0,.int .i64 0,.bool false] 27);have hK':=hK (w'.alloc (.cells #[.slice none 0 0,.slice none 0 0,.int .i64 0,.bool false] 27)) (.pointer (some ⟨w'.heap.size,0,none⟩)) ⟨w'.heap.size,rfl,hxb.size,heap_alloc_new w' _⟩ ⟨hx.grow hb9,hxb.trans (hb9.mono hxb.size)⟩ hb9;clear hK;go_simp;simpa[upd] using hK'
 case hend=>
  intro o t w' ho hx hg K hK;simp at ho;subst ho;obtain⟨hx,hxb⟩:=hx;obtain⟨dv,h7,O7⟩:=hg 7 (by decide);obtain⟨A,h8,hA1,hbA⟩:=hg 8 (by decide);clear hg;obtain⟨da,dc,rfl⟩:=O7.sl';have hAl:=(Array.getElem?_eq_some_iff.1 hbA).1;refine wp_store_row 27 (.tmp 3) (.tmp 13) rfl A #[.slice da zs.length dc,.slice none 0 0,.int .i64 f,.bool d] h8 h7 27 _ hbA HSD.out rfl (all4e _ _ _ _ _ _ _ _) ?_;apply hK;have hwr:=Wr.setRow A w' #[.slice da zs.length dc,.slice none 0 0,.int .i64 f,.bool d];have hrow:(w'.setRow A #[.slice da zs.length dc,.slice none 0 0,.int .i64 f,.bool d]).heap[A]?=some (.cells #[.slice da zs.length dc,.slice none 0 0,.int .i64 f,.bool d] 27 (0,0)):=setRow_heap _ _ _ _ _ _ hbA;have hne:∀ k,(Value.slice da zs.length dc).ownBlock=some k→k≠A:=fun k e ek=>by
   obtain⟨_,_,cur,h3⟩:=O7.lt k e;rw[ek,hbA] at h3;simp at h3
  have hsx:=hxb.size;have st3:CS w (w'.setRow A #[.slice da zs.length dc,.slice none 0 0,.int .i64 f,.bool d]) #[.slice a L cap,.slice x m cx,.int .i64 f,.bool d] A w'.heap.size (.slice da zs.length dc) (.slice none 0 0) zs f d []:=
   ⟨hx.below.trans (hwr.below (by omega)),by rw[hwr.block _ (by omega)];exact hx.b0,by rw[hwr.block _ (by omega)];exact hx.b1,hrow,(O7.keep (fun k e=>hwr.block k (hne k e))).mono (by omega),POwn.nil _ _,⟨by omega,hAl,by rw[hwr.size];exact Nat.le_refl _⟩,fun k e=>⟨(O7.lt k e).2.1,hne k e⟩⟩
  clear hwr hrow O7 hx hxb hbA h7 hK hne hsx hA1 hAl;generalize (w'.setRow A #[.slice da zs.length dc,.slice none 0 0,.int .i64 f,.bool d])=w3 at *;generalize w'.heap.size=E at *;obtain⟨c0,c1,c2,c3⟩:=row4 st3.b0;have HS3:Hid (CS w w3 #[.slice a L cap,.slice x m cx,.int .i64 f,.bool d] A E (.slice da zs.length dc) (.slice none 0 0) zs f d []):=st3;clear st3 HS1;go_wp2;clear h8;have st3:=HS3.out;clear HS3 c0 c1 c2 c3
  go_loopw [17] (fun i wr=>∃(k:Nat) (cv:Value) (qs:List Q1),k≤m∧i=.int .i64 k∧qps qs=ps.take k∧CS w wr #[.slice a L cap,.slice x m cx,.int .i64 f,.bool d] A E (.slice da zs.length dc) cv zs f d qs∧(k=0→cv=.slice none 0 0)) (fun i _=>m-(intOf i).toNat)
  case atStart=>exact⟨0,_,[],Nat.zero_le _,rfl,rfl,st3,fun _=>rfl⟩
  case round=>
   obtain⟨k,cv,qs,hk,rfl,hqs,st,hnil⟩:=hrel;have HNI:=hid_ofN hnil;clear st3 hnil;by_cases hlt:k<m
   ·clear HNI;obtain⟨b5,o5,rfl,hb5,hc5⟩:=PAt.get HP.out (by rw[HHM.out];omega);obtain⟨xa,xc,q1,q2,q4⟩:=hc5 k (by rw[HHM.out];exact hlt);have hzl:=HPS.out k;have hnew:ps.take (k+1)=ps.take k++[((ps.getD k (0,[])).1,(ps.getD k (0,[])).2)]:=by
     have hk':k<ps.length:=by rw[HHM.out];exact hlt
     have e:ps.getD k (0,[])=ps[k]:=by simp[List.getD,hk']
     rw[e];exact List.take_succ_eq_append_getElem hk'
    have hql:qs.length=k:=by
     have h1:(qps qs).length=(ps.take k).length:=by rw[hqs]
     have h2:ps.length=m:=HHM.out;simp[qps] at h1;omega
    rw[←hqs] at hnew;have HNEW:Hid (ps.take (k+1)=qps qs++[((ps.getD k (0,[])).1,(ps.getD k (0,[])).2)]):=hnew;clear hnew hqs hc5;generalize (ps.getD k (0,[])).1=s at *;generalize (ps.getD k (0,[])).2=z at *;rw[←st.below.cell (p:=⟨b5,o5+k*2,none⟩) hb5] at q1;rw[←st.below.cell (p:=⟨b5,o5+k*2+1,none⟩) hb5] at q2;have hlt':(k:Int)<m:=by omega
    have HST:Hid (CS w wr #[.slice a L cap,.slice (some ⟨b5,o5,none⟩) m cx,.int .i64 f,.bool d] A E (.slice da zs.length dc) cv zs f d qs):=st;have HQ4:Hid (At .u8 w xa z):=q4;clear st q4;go_wp2_with (refine wpList_storeW rfl 63 (.tmp 5) (.tmp 20) rfl wr.heap.size #[.int .i64 s,.slice xa z.length xc] rfl rfl 63 _ (heap_alloc_new wr _) HSP.out rfl (all2p _ _ _ _) ?_);intro w3' hr3 hw3;have hb3:Below wr.heap.size wr w3':=((Below.refl _ _).alloc (Nat.le_refl _) _).trans (hw3.below (Nat.le_refl _));have hPl:wr.heap.size<w3'.heap.size:=(Array.getElem?_eq_some_iff.1 hr3).1;have HS3:Hid (CS w w3' #[.slice a L cap,.slice (some ⟨b5,o5,none⟩) m cx,.int .i64 f,.bool d] A E (.slice da zs.length dc) cv zs f d qs):=CS.grow HST.out hb3;have HR3:Hid (w3'.heap[wr.heap.size]?=some (.cells #[.int .i64 s,.slice xa z.length xc] 63 (0,0))):=hr3;have HCB:Hid (∀ j,cv.ownBlock=some j→E≤j∧j<wr.heap.size):=fun j e=>⟨(ownsRow_lt (CS.pow HST.out).row j e).1,(ownsRow_lt (CS.pow HST.out).row j e).2.1⟩
    have hEw:=(CS.hE HST.out)
    clear hr3 hw3 hb3 HST q1 q2 hb5;generalize wr.heap.size=P at *;have HLT:Hid (∀(i:Nat) (p:Q1) (k:Nat),qs[i]?=some p→p.v.ownBlock=some k→k<w3'.heap.size):=fun i p k hp e=>((CS.pow HS3.out).each i p hp).lt k e |>.2.1
    have hcS:∀ k,cv.ownBlock=some k→k<w3'.heap.size:=fun j e=>by have:=HCB.out j e;omega
    go_wp2_with fail;refine wp_region_any (by kernel_rfl) ?_;refine wpAny_slotsK 11 (fun i w w'=>(i≠9→Below w.heap.size w w')∧w.grownBy w' cv.ownBlock) (frame:=(fun (a b c d e f g h i j k l m n o p q r s u v w x:Value)=>fun (t:Nat→Value)=>({ tmps:=List.toArray [a,b,c,d,e,f,g,h,i,j,k,l,m,n,o,p,q,r,s,u,v,t 0,t 1,t 2,t 3,t 4,t 5,t 6,t 7,t 8,t 9,t 10,w,x],defers:=[] }:Act)) _ _ _ _ _ _ _ _ _ _ _ _ _ _ _ _ _ _ _ _ _ _ _)
     (Ext:=fun Ls w'=>w3'.grownBy w' cv.ownBlock∧(Ls 9=false→Below w3'.heap.size w3' w')) (Good:=GQ A P w3'.heap.size E cv qs s xa xc z) (by rfl) (by kernel_rfl) (GQ_stab _ _ _ _ _ _ _ _ _ _ hcS) (by kernel_rfl) (by kernel_rfl) ?hop ?hend _ _ ((fun (x0 x1 x2 x3 x4 x5 x6 x7 x8 x9 x10:Value)=>fun (i:Nat)=>if i=0 then x0 else if i=1 then x1 else if i=2 then x2 else if i=3 then x3 else if i=4 then x4 else if i=5 then x5 else if i=6 then x6 else if i=7 then x7 else if i=8 then x8 else if i=9 then x9 else if i=10 then x10 else undef) _ _ _ _ _ _ _ _ _ _ _) _ (by simp) (by simp) ?ext ?start (by simp)
    case start=>intro i hi h;exact absurd h (by rw[Array.getD_eq_getD_getElem?,Array.getElem?_replicate];split<;>simp)
    case ext=>exact⟨grown_of_below (Below.refl _ _).drew,fun _=>(Below.refl _ _).drew⟩
    case hop=>
     intro i o Ls t w' hil ho hLi hx hdep K hK;obtain⟨hxg,hx9⟩:=hx;have hgr:∀ ww:World,Below w'.heap.size w' ww→w3'.grownBy ww cv.ownBlock:=fun ww hb=>grown_trans hxg (grown_of_below hb)
     have h9:∀(j:Nat) (ww:World),j≠9→Below w'.heap.size w' ww→updK Ls j 9=false→Below w3'.heap.size w3' ww:=fun j ww hj hb hL=>by
      have hL':Ls 9=false:=by simpa[updK,Ne.symm hj] using hL
      exact(hx9 hL').trans (hb.mono hxg.size)
     have hE3:=hEw;have haf:w'.heap[A]?=some (.cells #[.slice da zs.length dc,cv,.int .i64 f,.bool d] 27 (0,0)):=by
      rw[hxg.block A (by omega) (fun e=>by have:=HCB.out A e.symm;omega)];exact CS.aft HS3.out
     have hpb:w'.heap[P]?=some (.cells #[.int .i64 s,.slice xa z.length xc] 63 (0,0)):=by
      rw[hxg.block P hPl (fun e=>by have:=HCB.out P e.symm;omega)];exact HR3.out
     obtain⟨a0,a1,a2,a3⟩:=row4 haf;obtain⟨p0,p1⟩:=row2 hpb;have hbw:Below w.heap.size w w':=by
      have hb0:=CS.below HS3.out;have hsz:=hb0.size;exact hb0.trans ⟨hxg.os,hxg.tape,hxg.output,hxg.size,fun k hk=>hxg.block k (by omega) (fun e=>by have:=HCB.out k e.symm;omega)⟩
     have REF:Hid (∀ j,j≠9→(w3'.grownBy w' cv.ownBlock∧(updK Ls j 9=false→Below w3'.heap.size w3' w'))):=fun j hj=>⟨hxg,h9 j w' hj (Below.refl _ _)⟩
     have RM:Hid (∀ j,(j≠9→Below w'.heap.size w' w')∧w'.grownBy w' cv.ownBlock):=fun j=>⟨fun _=>Below.refl _ _,grown_of_below (Below.refl _ _)⟩
     have H9:Hid _:=h9;have HGR:Hid _:=hgr;have HX9:Hid _:=hx9;have HXG:Hid _:=hxg;clear h9 hgr hx9 hxg haf hpb;obtain rfl|rfl|rfl|rfl|rfl|rfl|rfl|rfl|rfl|rfl|rfl:i=0∨i=1∨i=2∨i=3∨i=4∨i=5∨i=6∨i=7∨i=8∨i=9∨i=10:=by omega
     all_goals(simp at ho;subst ho)
     ·clear hdep;go_simp;exact hK w' (.pointer (some ⟨A,1,none⟩)) rfl (REF.out 0 (by decide)) (RM.out 0)
     ·have d0:t 0=_:=hdep ⟨0,.data⟩ (by simp) rfl;clear hdep;go_simp;simpa[upd,d0] using hK w' cv rfl (REF.out 1 (by decide)) (RM.out 1)
     ·clear hdep;go_simp;exact hK w' (.pointer (some ⟨P,0,none⟩)) rfl (REF.out 2 (by decide)) (RM.out 2)
     ·have d2:t 2=_:=hdep ⟨2,.data⟩ (by simp) rfl;clear hdep;go_simp;simpa[upd,d2] using hK w' (.int .i64 s) rfl (REF.out 3 (by decide)) (RM.out 3)
     ·clear hdep;go_simp;exact hK w' (.pointer (some ⟨P,1,none⟩)) rfl (REF.out 4 (by decide)) (RM.out 4)
     ·have d4:t 4=_:=hdep ⟨4,.data⟩ (by simp) rfl;clear hdep;go_simp;simpa[upd,d4] using hK w' (.slice xa z.length xc) rfl (REF.out 5 (by decide)) (RM.out 5)
     ·have d5:t 5=_:=hdep ⟨5,.data⟩ (by simp) rfl;clear hdep;have e:=clone2_any xa z.length xc z w' rfl hzl (At.below HQ4.out hbw);go_simp;refine e.mono ?_;rintro e w9 ⟨v9,rfl,O9,hb9⟩;have hs9:=(show w3'.grownBy w' cv.ownBlock from HXG.out).size;have O9':=O9.mono hs9;clear O9;have hK':=hK w9 v9 O9' ⟨HGR.out w9 hb9,H9.out 6 w9 (by decide) hb9⟩ ⟨fun _=>hb9,grown_of_below hb9⟩;clear hK;go_simp;simpa[upd,d5] using hK'
     ·have d3:t 3=_:=hdep ⟨3,.data⟩ (by simp) rfl;have d6:OwnN w' w3'.heap.size (t 6) z:=hdep ⟨6,.data⟩ (by simp) rfl;clear hdep;obtain⟨ea,ec,e6⟩:=d6.sl';rw[e6] at d6;have hK':=hK w' (.agg #[.int .i64 s,.slice ea z.length ec]) ⟨ea,ec,rfl,d6⟩ (REF.out 7 (by decide)) (RM.out 7);clear d6 hK;go_simp;simpa[upd,e6,d3] using hK'
     ·obtain⟨ea,ec,e7,O7⟩:=hdep ⟨7,.data⟩ (by simp) rfl;clear hdep;have hb9:=(Below.refl w'.heap.size w').alloc (Nat.le_refl _) (.cells #[.int .i64 s,.slice ea z.length ec] 63);have hs9:=(show w3'.grownBy w' cv.ownBlock from HXG.out).size;have hK':=hK (w'.alloc (.cells #[.int .i64 s,.slice ea z.length ec] 63)) (.slice (some ⟨w'.heap.size,0,none⟩) 1 1) ⟨w'.heap.size,ea,ec,rfl,hs9,heap_alloc_new w' _,O7.grow hb9⟩ ⟨HGR.out _ hb9,H9.out 8 _ (by decide) hb9⟩ ⟨fun _=>hb9,grown_of_below hb9⟩;clear hK O7 hb9;go_simp;simpa[upd,e7] using hK'
     ·have d1:t 1=_:=hdep ⟨1,.data⟩ (by simp) rfl;obtain⟨B,ea,ec,e8,hB,hbB,O8⟩:=hdep ⟨8,.data⟩ (by simp) rfl;clear hdep;have hP9:=(CS.pow HS3.out).below (HX9.out hLi);have hsz9:=(show w3'.grownBy w' cv.ownBlock from HXG.out).size;refine wp_appP w' (.tmp 22) (.tmp 29) rfl E w3'.heap.size cv qs ⟨s,ea,ec,z⟩ d1 hP9 HLT.out B e8 hbB (.inl O8) (by omega) (by omega) (by omega) ?_;intro v9 w9 hP9' hg9;exact hK w9 v9 ⟨_,rfl,rfl,hP9'⟩ ⟨grown_trans HXG.out hg9,fun h=>by simp[updK] at h⟩ ⟨fun h=>absurd rfl h,hg9⟩
     ·clear hdep;go_simp;exact hK w' (.pointer (some ⟨A,1,none⟩)) rfl (REF.out 10 (by decide)) (RM.out 10)
    case hend=>
     intro o Ls t w' ho hx hg K hK;simp at ho;subst ho;obtain⟨hxg,_⟩:=hx;obtain⟨q',hq1,hq2,hP9⟩:=hg 9 (by decide);have h10:t 10=_:=hg 10 (by decide);clear hg;obtain⟨na,nc,e9,_⟩:=hP9.mine;obtain⟨n9,hn9⟩:∃ n9,(qs++[q']).length=n9:=⟨_,rfl⟩
     rw[hn9] at e9;clear hn9;rw[e9] at hP9;have haf:w'.heap[A]?=some (.cells #[.slice da zs.length dc,cv,.int .i64 f,.bool d] 27 (0,0)):=by
      rw[hxg.block A (by omega) (fun e=>by have:=HCB.out A e.symm;omega)];exact CS.aft HS3.out
     obtain⟨a0,a1,a2,a3⟩:=row4 haf;have f1:=frozen_of_row w' A 1 _ _ haf;have hA9:=row_setCell (i:=1) (.slice na n9 nc) haf rfl;have hoth:∀ j,j≠A→(w'.setCell ⟨A,1,none⟩ (.slice na n9 nc)).heap[j]?=w'.heap[j]?:=fun j hj=>heap_setCell_other w' ⟨A,1,none⟩ j (.slice na n9 nc) (by simpa using hj)
     have hsz:(w'.setCell ⟨A,1,none⟩ (.slice na n9 nc)).heap.size=w'.heap.size:=by simp[World.setCell]
     have hPn:POwn (w'.setCell ⟨A,1,none⟩ (.slice na n9 nc)) E (.slice na n9 nc) (qs++[q']):=hP9.keep (fun j hj _=>hoth j (by omega));have st':CS w (w'.setCell ⟨A,1,none⟩ (.slice na n9 nc)) #[.slice a L cap,.slice (some ⟨b5,o5,none⟩) m cx,.int .i64 f,.bool d] A E (.slice da zs.length dc) (.slice na n9 nc) zs f d (qs++[q']):=
      CS.turn HS3.out hxg.os hxg.tape hxg.output (by rw[hsz];exact hxg.size) (fun j hj hjA=>(hoth j hjA).trans (hxg.block j (by omega) (fun e=>by have:=HCB.out j e.symm;omega))) hA9 hPn
     have hqn:qps (qs++[q'])=ps.take (k+1):=by rw[HNEW.out];simp[qps,hq1,hq2]
     have HS':Hid (CS w (w'.setCell ⟨A,1,none⟩ (.slice na n9 nc)) #[.slice a L cap,.slice (some ⟨b5,o5,none⟩) m cx,.int .i64 f,.bool d] A E (.slice da zs.length dc) (.slice na n9 nc) zs f d (qs++[q'])):=st';have HQN:Hid (qps (qs++[q'])=ps.take (k+1)):=hqn;clear st' hqn hPn hsz hoth hA9 haf hP9 hxg a0 a2 a3;go_simp;apply hK;clear e9 h10;go_wp2;go_roundw
     case rel=>exact⟨k+1,.slice na n9 nc,qs++[q'],by omega,by go_num,HQN.out,HS'.out,fun h=>absurd h (by omega)⟩
     case measure=>simp[intOf];omega
   ·have hkm:k=m:=by omega
    subst hkm;have hall:qps qs=ps:=by rw[hqs,←HHM.out,List.take_length]
    have hlt':¬ (k:Int)<k:=by omega
    obtain⟨a0,a1,a2,a3⟩:=row4 st.aft;obtain⟨ca,cc,rfl,_⟩:=st.pow.mine;have hM:=st.typed;have hE:=st.hE;have HM:Hid (DvOwn wr (w.heap.size+2) (.agg #[.slice da zs.length dc,.slice ca qs.length cc,.int .i64 f,.bool d]) zs (qps qs) f d):=hM;have HB1:Hid (wr.heap[w.heap.size+1]?=some (.cells #[.slice none 0 0,.slice none 0 0,.int .i64 0,.bool false] 27 (0,0))):=st.b1;have HBL:Hid (Below w.heap.size w wr):=st.below;have HALL:Hid (qps qs=ps):=hall;have HNC:Hid (ps=[]→Value.slice ca qs.length cc=.slice none 0 0):=fun h=>HNI.out (by rw[←HHM.out,h];rfl)
    clear st hM hall hqs HNI;generalize qs.length=n9 at *;go_wp2_with (refine wpList_store_row rfl 27 (.tmp 2) (.tmp 33) rfl (w.heap.size+1) #[.slice da zs.length dc,.slice ca n9 cc,.int .i64 f,.bool d] rfl rfl 27 _ HB1.out HSD.out rfl (all4e _ _ _ _ _ _ _ _) ?_)
    (try simp only[Exit.inBlock,Exit.then])
    refine bodyPost_ret (v:=.agg #[.slice da zs.length dc,.slice ca n9 cc,.int .i64 f,.bool d]) (results_cell_row rfl _ _ (w.heap.size+1) 27 _ (0,0) _ rfl (setRow_heap _ _ _ _ _ _ HB1.out) Tryz.underlying27 rfl HSD.out) rfl ⟨_,rfl,?_,?_,fun h=>⟨_,by rw[HNC.out h]⟩⟩
    ·have hM:=HM.out;rw[HALL.out] at hM;exact(hM.keep (fun j _ _ hj _ _=>(Wr.setRow _ _ _).block j (by omega)) (by rw[size_setRow];exact Nat.le_refl _)).mono (by omega)
    ·exact HBL.out.trans ((Wr.setRow _ _ _).below (by omega))
theorem icp_any (v:Value) (zs:List Int) (ps:List PD) (f:Int) (d:Bool) (w:World) (h:DAt w v zs ps f d) (hz:zs.length≤1048576) (hn:ps.length≤1048576) (hps:∀ i,(ps.getD i (0,[])).2.length≤1048576) :
  Calls Tryz.prog 29 #[v] w fun e w'=>∃ r,e=.returned r∧DvOwn w' w.heap.size r zs ps f d∧Below w.heap.size w w':=
 (icp2_any v zs ps f d w h hz hn hps).mono fun e w' ⟨r,h1,h2,h3,_⟩=>⟨r,h1,h2,h3⟩
def zer (n:Nat):List Int:=List.replicate n 0
def enc0 (s k a b:Int):List Int:=putK (putK ((((putK (zer 64) 0 s 4).set 4 74).set 5 49).set 6 (k%256)) 8 a 4) 12 b 4
def encI (s k a b:Int):List Int:=putK (putK (enc0 s k a b) 56 (crc ((enc0 s k a b).take 56)) 4) 60 s 4
theorem set_byte {zs:List Int} (h:Byte zs) (i:Nat) (x:Int) (hx:0≤x∧x<256):Byte (zs.set i x):=fun z hz=>by
 rcases List.mem_or_eq_of_mem_set hz with h1|h1
 ·exact h z h1
 ·subst h1;exact hx
theorem putK_byte (zs:List Int) (p:Nat) (v:Int) (h:Byte zs) (k:Nat):Byte (putK zs p v k):=by
 induction k with
 |zero=>exact h
 |succ k ih=>exact set_byte ih _ _ (by omega)
theorem zer_byte (n:Nat):Byte (zer n):=fun z hz=>by simp[zer] at hz;omega
theorem enc0_byte (s k a b:Int):Byte (enc0 s k a b):=by
 unfold enc0;exact putK_byte _ _ _ (putK_byte _ _ _ (set_byte (set_byte (set_byte (putK_byte _ _ _ (zer_byte _) _) _ _ (by omega)) _ _ (by omega)) _ _ (by omega)) _) _
theorem encI_byte (s k a b:Int):Byte (encI s k a b):=by
 unfold encI;exact putK_byte _ _ _ (putK_byte _ _ _ (enc0_byte _ _ _ _) _) _
theorem enc0_len (s k a b:Int):(enc0 s k a b).length=64:=by unfold enc0;simp[putK_len,zer]
theorem encI_len (s k a b:Int):(encI s k a b).length=64:=by unfold encI;simp[putK_len,enc0_len]
structure Est (w w':World) (zs:List Int):Prop where
 below:Below w.heap.size w w'
 size:w'.heap.size=w.heap.size+2
 r0:Row w' w.heap.size 65 (zer 64)
 r1:Row w' (w.heap.size+1) 65 zs
theorem Est.wr {w w' w'':World} {zs zs':List Int} (h:Est w w' zs) (k:Wr (w.heap.size+1) w' w'') (r:Row w'' (w.heap.size+1) 65 zs'):Est w w'' zs':=
 ⟨h.below.trans (k.below (by omega)),k.size.trans h.size,k.row h.r0 (by omega),r⟩
theorem Est.set {w w':World} {zs:List Int} (h:Est w w' zs) (i:Nat) (x:Int):Est w (w'.setCell ⟨w.heap.size+1,i,none⟩ (.int .u8 x)) (zs.set i x):=
 h.wr ((Wr.refl _ _).setCell i _) (h.r1.set i x)
set_option maxHeartbeats 1000000 in
theorem encoded_any (h:Nat) (s k a b:Int) (w:World) (hh:h<w.heap.size) (c0:w.cell? ⟨h,0,none⟩=some (.int .u32 s)) (c1:w.cell? ⟨h,1,none⟩=some (.int .i64 k))
  (c2:w.cell? ⟨h,2,none⟩=some (.int .u32 a)) (c3:w.cell? ⟨h,3,none⟩=some (.int .u32 b)) (us:U32 s) (ua:U32 a) (ub:U32 b) :
  Calls Tryz.prog 66 #[.pointer (some ⟨h,0,none⟩)] w fun e w'=>e=.returned (.agg ((encI s k a b).map (Value.int .u8)).toArray)∧Below w.heap.size w w':=by
 go_enter Tryz.func66,Tryz.ntmps66;go_wp2_with fail;refine(setN_any (w.heap.size+1) 65 0 s (zer 64) _ ?r (by rfl) (by omega) (by omega) us).mono ?_
 case r=>exact heap_alloc2_new _ _ _
 rintro e w3 ⟨rfl,hrow,hwr⟩;have st3:Est w w3 (putK (zer 64) 0 s 4):=by
  refine⟨(((Below.refl _ _).alloc (Nat.le_refl _) _).alloc (by simp) _).trans (hwr.below (by omega)),?_,hwr.row (zs:=zer 64) ?_ (by omega),hrow⟩
  ·rw[hwr.size];simp
  ·exact heap_alloc2_old _ _ _
 clear hrow hwr;have l3:(putK (zer 64) 0 s 4).length=64:=by rw[putK_len];rfl
 have f4:=st3.r1.frozen 4;have f5:=st3.r1.frozen 5;have f6:=st3.r1.frozen 6;have g4:=st3.r1.cell 4 (by omega);have g5:=st3.r1.cell 5 (by omega);have g6:=st3.r1.cell 6 (by omega);have d0:w3.cell? ⟨h,0,none⟩=some (.int .u32 s):=by rw[st3.below.cell (p:=⟨h,0,none⟩) hh];exact c0
 have d1:w3.cell? ⟨h,1,none⟩=some (.int .i64 k):=by rw[st3.below.cell (p:=⟨h,1,none⟩) hh];exact c1
 have d2:w3.cell? ⟨h,2,none⟩=some (.int .u32 a):=by rw[st3.below.cell (p:=⟨h,2,none⟩) hh];exact c2
 have hne:¬ h=w.heap.size+1:=by omega
 generalize (putK (zer 64) 0 s 4).getD 4 0=y4 at *;generalize (putK (zer 64) 0 s 4).getD 5 0=y5 at *;generalize (putK (zer 64) 0 s 4).getD 6 0=y6 at *;have ST3:Hid _:=st3;clear st3;go_wp2_with fail;clear f4 f5 f6 g4 g5 g6 d0 d1 d2;have st6:=((ST3.out.set 4 74).set 5 49).set 6 (k%256);clear ST3;refine(setN_any (w.heap.size+1) 65 8 a _ _ st6.r1 (by simp[l3]) (by omega) (by omega) ua).mono ?_;rintro e w8 ⟨rfl,hrow,hwr⟩;have st8:=st6.wr hwr hrow;clear hrow hwr st6;have l8:(putK ((((putK (zer 64) 0 s 4).set 4 74).set 5 49).set 6 (k%256)) (Int.toNat 8) a 4).length=64:=by rw[putK_len];simp[l3]
 have d3:w8.cell? ⟨h,3,none⟩=some (.int .u32 b):=by rw[st8.below.cell (p:=⟨h,3,none⟩) hh];exact c3
 have ST8:Hid _:=st8;clear st8;go_wp2_with fail;refine(setN_any (w.heap.size+1) 65 12 b _ _ ST8.out.r1 l8 (by omega) (by omega) ub).mono ?_;rintro e w9 ⟨rfl,hrow,hwr⟩;have st9:Est w w9 (enc0 s k a b):=ST8.out.wr hwr hrow;clear hrow hwr ST8 d3 l8 l3;have l9:(enc0 s k a b).length=64:=by unfold enc0;simp[putK_len,zer]
 have HE:Hid (encI s k a b=putK (putK (enc0 s k a b) 56 (crc ((enc0 s k a b).take 56)) 4) 60 s 4):=rfl;have hby:Byte ((enc0 s k a b).take 56):=fun z hz=>enc0_byte s k a b z (List.mem_of_mem_take hz)
 generalize enc0 s k a b=z9 at *;have ST9:Hid _:=st9;clear st9;go_wp2_with fail;refine(crcI_any _ 56 _ (z9.take 56) _ (by simp;omega) (by omega) (ST9.out.r1.atTake 56) hby).mono ?_;rintro e w10 ⟨rfl,rfl⟩;go_wp2_with fail;refine(setN_any (w.heap.size+1) 65 56 _ _ _ ST9.out.r1 l9 (by omega) (by omega) (crc_bd _)).mono ?_;rintro e w11 ⟨rfl,hrow,hwr⟩;have st11:=ST9.out.wr hwr hrow;have l11:(putK z9 56 (crc (z9.take 56)) 4).length=64:=by rw[putK_len];exact l9
 have hE2:Int.toNat 56=56:=rfl;rw[hE2] at st11;clear hrow hwr ST9;generalize putK z9 56 (crc (z9.take 56)) 4=z11 at *;have d0:w11.cell? ⟨h,0,none⟩=some (.int .u32 s):=by rw[st11.below.cell (p:=⟨h,0,none⟩) hh];exact c0
 have ST11:Hid _:=st11;clear st11;go_wp2_with fail;refine(setN_any (w.heap.size+1) 65 60 _ _ _ ST11.out.r1 l11 (by omega) (by omega) us).mono ?_;rintro e w12 ⟨rfl,hrow,hwr⟩;have st12:=ST11.out.wr hwr hrow;have l12:(putK z11 60 s 4).length=64:=by rw[putK_len];exact l11
 have hE3:Int.toNat 60=60:=rfl;rw[hE3,←HE.out] at st12;rw[←HE.out] at l12;clear hrow hwr ST11 c0 c1 c2 c3 d0 hE2 hE3 HE;generalize hz12:encI s k a b=z12 at *;have HZ:Hid _:=hz12;clear hz12;have ST12:Hid _:=st12;clear st12;have hs1:(Tryz.prog.info? 65).map (·.size)=some ((z12.map (Value.int .u8)).toArray).size:=by
  have:(Tryz.prog.info? 65).map (·.size)=some 64:=by kernel_rfl
  rw[this];simp[l12]
 have HS1:Hid _:=hs1;clear hs1;go_wp2_with (first
  |(refine wpList_load_row rfl 65 _ rfl (w.heap.size+1) rfl 65 _ (0,0) _ ST12.out.r1 Tryz.underlying65 rfl HS1.out ?_)
  |(refine wpList_store_row rfl 65 (.tmp 2) (.tmp 35) rfl w.heap.size ((z12.map (Value.int .u8)).toArray) rfl rfl 65 _ ST12.out.r0 HS1.out (by simp[zer,l12]) (all_oneCell_toArray (ints_oneCell _ _)) ?_))
 refine bodyPost_ret (v:=.agg (z12.map (Value.int .u8)).toArray) (results_cell_row rfl _ _ w.heap.size 65 _ (0,0) _ rfl (setRow_heap _ _ _ _ _ _ ST12.out.r0) Tryz.underlying65 rfl HS1.out) rfl ⟨by rw[HZ.out],?_⟩;exact ST12.out.below.trans ((Wr.setRow _ _ _).below (Nat.le_refl _))
theorem head_eq (s k a b:Int) (us:U32 s) (ua:U32 a) (ub:U32 b):(enc0 s k a b).take 56=headS s k a b:=by
 obtain⟨s0,s1⟩:=us;obtain⟨a0,a1⟩:=ua;obtain⟨b0,b1⟩:=ub;have es:s/16777216%256=s/16777216:=by omega
 have ea:a/16777216%256=a/16777216:=by omega
 have eb:b/16777216%256=b/16777216:=by omega
 simp[enc0,putK,headS,parts6,four,zer,es,ea,eb]
theorem put_end (l:List Int) (hl:l.length=56) (v t:Int) (hv:U32 v) (ht:U32 t):putK (putK (l++zer 8) 56 v 4) 60 t 4=l++four v++four t:=by
 obtain⟨s0,s1⟩:=hv;obtain⟨a0,a1⟩:=ht;have es:v/16777216%256=v/16777216:=by omega
 have ea:t/16777216%256=t/16777216:=by omega
 simp[putK,four,zer,hl,es,ea]
theorem enc_eq (s k a b:Int) (us:U32 s) (ua:U32 a) (ub:U32 b):encI s k a b=encS s k a b:=by
 have h0:enc0 s k a b=(enc0 s k a b).take 56++zer 8:=by rfl
 have h1:=head_eq s k a b us ua ub;rw[h1] at h0;unfold encI;rw[h1,h0,put_end _ (headS_len s k a b) _ _ (crc_bd _) us];simp[encS,parts3]
set_option maxHeartbeats 400000 in
theorem hasKind_any (h:Nat) (k:Int) (w:World) (c1:w.cell? ⟨h,1,none⟩=some (.int .i64 k)) :
  Calls Tryz.prog 91 #[.pointer (some ⟨h,0,none⟩)] w fun e w'=>e=.returned (.bool (decide (1≤k∧k≤3)))∧w'=w:=by
 by_cases h1:1≤k
 ·by_cases h3:k≤3
  ·have e:decide (1≤k∧k≤3)=true:=by simp[h1,h3]
   rw[e];clear e;go_enter Tryz.func91,Tryz.ntmps91;go_wp2
   go_ret
   exact⟨rfl,rfl⟩
  ·have e:decide (1≤k∧k≤3)=false:=by simp[h1,h3]
   rw[e];clear e;go_enter Tryz.func91,Tryz.ntmps91;go_wp2
   go_ret
   exact⟨rfl,rfl⟩
 ·have e:decide (1≤k∧k≤3)=false:=by simp[h1]
  rw[e];clear e;have e2:decide (1≤k)=false:=by simpa using h1
  go_enter Tryz.func91,Tryz.ntmps91;go_wp2
  go_ret
  exact⟨rfl,rfl⟩
section
variable {P:Program} {ops:Array Oper} {Q:Exit→Act→World→Prop} {md:Region.Mode}
def waits (md:Region.Mode) (ops:Array Oper) (i j:Nat):Bool:=((ops[i]?).map (fun o=>o.after.any (fun e=>Region.binds md e && decide (e.on=j)))).getD false
theorem waits_ex {i j:Nat} (h:waits md ops i j=true):∃ o,ops[i]?=some o∧∃ e∈o.after,Region.binds md e=true∧e.on=j:=by
 unfold waits at h;cases ho:ops[i]? with
 |none=>rw[ho] at h;simp at h
 |some o=>
  rw[ho] at h;have h2:o.after.any (fun e=>Region.binds md e && decide (e.on=j))=true:=by simpa using h
  obtain⟨e,he,h3⟩:=Array.any_eq_true'.1 h2;simp at h3;exact⟨o,rfl,e,he,h3⟩
theorem wpAny_slotsJ (last:Nat) (M:Nat→World→World→Prop) (frame:(Nat→Value)→Act) (Ext:(Nat→Bool)→World→Prop) (Good:Nat→(Nat→Bool)→World→Value→Prop)
  (hlast:ops.size=last+1)
  (hwait:(List.range last).all (fun j=>waits md ops last j || (List.range last).any (fun k=>waits md ops last k && waits md ops k j))=true)
  (hstab:∀ j L w w' i v,M i w w'→i≠j→L i=false→Good j L w v→Good j (updK L i) w' v)
  (hguard:ops.all (fun o=>o.guard.isNone)=true)
  (hback:(List.range ops.size).all (fun i=>((ops[i]?).map (fun o=>o.after.all (fun e=>decide (e.on<i)))).getD false)=true)
  (hop:∀(i:Nat) (o:Oper) (L:Nat→Bool) (u:Nat→Value) (w:World),i<last→ops[i]?=some o→L i=false→Ext L w→(∀ e∈o.after,Region.binds md e=true→Good e.on L w (u e.on))→
   ∀ K:Act→World→Prop,(∀ w' v,Good i (updK L i) w' v→Ext (updK L i) w'→M i w w'→K (frame (upd u i v)) w')→Oper.wp P o (frame u) w K Q)
  (hend:∀(o:Oper) (L:Nat→Bool) (u:Nat→Value) (w:World),ops[last]?=some o→Ext L w→(∀ i,i<last→Good i L w (u i))→
   ∀ K:Act→World→Prop,(∀ a w',Q .normal a w'→K a w')→Oper.wp P o (frame u) w K Q) :
  ∀(fuel:Nat) (listed:Array Bool) (u:Nat→Value) (w:World),listed.size=ops.size→listed.getD last false=false→Ext (fun n=>listed.getD n false) w→(∀ i,i<last→listed.getD i false=true→Good i (fun n=>listed.getD n false) w (u i))→
   (∀(i:Nat) (o:Oper),ops[i]?=some o→listed.getD i false=true→∀ e∈o.after,Region.binds md e=true→listed.getD e.on false=true)→(listed.toList.filter (!·)).length≤fuel→wpAny P md ops Q fuel listed (frame u) w:=by
 have hb:∀(i:Nat) (o:Oper),ops[i]?=some o→∀ e∈o.after,e.on<i:=fun i o ho e he=>by
  have hi:i<ops.size:=(Array.getElem?_eq_some_iff.1 ho).1;have:=List.all_eq_true.1 hback i (List.mem_range.2 hi);rw[ho] at this;simp at this;obtain⟨k,hk,rfl⟩:=Array.mem_iff_getElem.1 he;exact this k hk
 have hg:∀(i:Nat) (o:Oper),ops[i]?=some o→o.guard=none:=fun i o ho=>by
  have:=Array.all_eq_true_iff_forall_mem.1 hguard o (Array.mem_of_getElem? ho);simpa using this
 have hno:∀(listed:Array Bool),listed.size=ops.size→listed.getD last false=false→Region.ready md ops listed≠[]:=by
  intro listed hs hl0 hr;have hall:∀ n i,i<n→i<ops.size→listed.getD i false=true:=by
   intro n
   induction n with
   |zero=>intro i h;omega
   |succ n ih=>
    intro i hin hi;by_cases hlt:i<n
    ·exact ih i hlt hi
    ·cases hl:listed.getD i false with
     |true=>rfl
     |false=>
      exfalso
      have hl':listed.getD i true=false:=by
       have hil:i<listed.size:=by omega
       simp[hil] at hl ⊢;exact hl
      have:i∈Region.ready md ops listed:=mem_ready.2 ⟨hi,hl',ops[i],by simp[hi],fun e hee _=>ih e.on (by have:=hb i ops[i] (by simp[hi]) e hee;omega) (by have:=hb i ops[i] (by simp[hi]) e hee;omega)⟩;rw[hr] at this;cases this
  have:=hall (last+1) last (by omega) (by omega);rw[hl0] at this;cases this
 intro fuel
 induction fuel with
 |zero=>
  intro listed u w hs hl0 he hgd hcl hc
  exfalso
  have hil:last<listed.size:=by omega
  have h3:listed[last]=false:=by simpa[hil] using hl0
  have:listed[last]∈listed.toList.filter (!·):=by
   rw[List.mem_filter];exact⟨by simp,by rw[h3];rfl⟩
  have:=List.length_pos_of_mem this;omega
 |succ fuel ih=>
  intro listed u w hs hl0 he hgd hcl hc;refine⟨fun hr=>absurd hr (hno listed hs hl0),fun i hi=>?_⟩;obtain⟨h1,h2,o,ho,h3⟩:=mem_ready.1 hi;refine wpOp_step ho fun K hK=>?_
  have hwn:Region.wanted o (yielded ops (frame u).tmps)=true:=by simp[Region.wanted,hg i o ho]
  rw[if_pos hwn];have hil:i<listed.size:=by omega
  by_cases hi':i<last
  ·have hnl:listed.getD i false=false:=by simp[hil] at h2 ⊢;exact h2
   have hupd:(fun n=>(listed.setIfInBounds i true).getD n false)=updK (fun n=>listed.getD n false) i:=by
    funext n;rw[getD_set listed i n hil];rfl
   refine hop i o (fun n=>listed.getD n false) u w hi' ho hnl he (fun e hee hbd=>hgd e.on (by have:=hb i o ho e hee;omega) (h3 e hee hbd)) K fun w' v hgv hext hm=>hK _ _ ?_
   refine ih _ _ w' (by simpa using hs) ?_ (by rw[hupd];exact hext) (fun j hj hlj=>?_) (fun j oj hoj hlj e hee hbd=>?_) ?_
   ·rw[getD_set listed i last hil,if_neg (by omega)];exact hl0
   ·rw[getD_set listed i j hil] at hlj;unfold upd;by_cases hji:j=i
    ·subst hji;rw[hupd];simpa using hgv
    ·rw[if_neg hji] at hlj;rw[if_neg hji,hupd];exact hstab j _ w w' i _ hm (Ne.symm hji) hnl (hgd j hj hlj)
   ·rw[getD_set listed i e.on hil];rw[getD_set listed i j hil] at hlj;split
    ·rfl
    ·by_cases hji:j=i
     ·subst hji;have:oj=o:=by rw[ho] at hoj;exact(Option.some.inj hoj).symm
      subst this;exact h3 e hee hbd
     ·rw[if_neg hji] at hlj;exact hcl j oj hoj hlj e hee hbd
   ·have:listed.toList[i]?=some false:=by simp[hil] at h2;simp[hil,h2]
    have:=count_set listed.toList i this;rw[Array.toList_setIfInBounds];omega
  ·have hie:i=last:=by omega
   subst hie;have hdir:∀ k,waits md ops i k=true→listed.getD k false=true:=fun k hk=>by
    obtain⟨o',ho',e,hee,hbd,rfl⟩:=waits_ex hk;have:o'=o:=by rw[ho] at ho';exact(Option.some.inj ho').symm
    subst this;exact h3 e hee hbd
   have hlst:∀ j,j<i→listed.getD j false=true:=fun j hj=>by
    have h5:=List.all_eq_true.1 hwait j (List.mem_range.2 hj);rw[Bool.or_eq_true] at h5;rcases h5 with h5|h5
    ·exact hdir j h5
    ·obtain⟨k,_,h6⟩:=List.any_eq_true.1 h5;rw[Bool.and_eq_true] at h6;obtain⟨ok,hok,e,hee,hbd,rfl⟩:=waits_ex h6.2;exact hcl k ok hok (hdir k h6.1) e hee hbd
   refine hend o (fun n=>listed.getD n false) u w ho he (fun j hj=>hgd j hj (hlst j hj)) K fun a w' hq=>hK _ _ (wpAny_end ?_ hq)
   apply List.eq_nil_iff_forall_not_mem.2;intro j hj;obtain⟨g1,g2,_⟩:=mem_ready.1 hj;have hjl:j<listed.size:=by omega
   have g3:(listed.setIfInBounds i true).getD j false=false:=by
    have:j<(listed.setIfInBounds i true).size:=by simpa using hjl
    rw[Array.getD_eq_getD_getElem?,Array.getElem?_eq_getElem this] at g2 ⊢;exact g2
   rw[getD_set listed i j hil] at g3;by_cases hji:j=i
   ·rw[if_pos hji] at g3;cases g3
   ·rw[if_neg hji,hlst j (by omega)] at g3;cases g3
end
set_option maxHeartbeats 4000000 in
set_option maxRecDepth 100000 in
theorem rest_any (g o:Nat) (a x:Option Addr) (n c m cx:Nat) (f:Int) (d:Bool) (zs:List Int) (ps:List PD) (w:World) (hg:g<w.heap.size) (x0:w.cell? ⟨g,o,none⟩=some (.slice a n c)) (x1:w.cell? ⟨g,o+1,none⟩=some (.slice x m cx)) (x2:w.cell? ⟨g,o+2,none⟩=some (.int .i64 f)) (x3:w.cell? ⟨g,o+3,none⟩=some (.bool d)) (hd:DAt w (.agg #[.slice a n c,.slice x m cx,.int .i64 f,.bool d]) zs ps f d) (hn:zs.length=n) (hm:ps.length=m) (hz:n≤1048576) (hM:m≤1048576) (hps:∀ i,(ps.getD i (0,[])).2.length≤1048576) :
  Calls Tryz.prog 16 #[.pointer (some ⟨g,o,none⟩)] w fun e w'=>e=.returned (.bool (validB n ps f && !d && decide (m=0)))∧Below w.heap.size w w':=by
 have HC:=hid_ofV (ival_any _ zs ps f d w hd (by omega) (by omega) hps);rw[hn] at HC;obtain⟨V,hV⟩:∃ V,V=(validB n ps f && !d && decide (m=0)):=⟨_,rfl⟩
 rw[←hV];have HV:=hid_ofV hV;clear hd hps hV;go_enter Tryz.func16,Tryz.ntmps16;go_wp2_with fail;refine HC.out.mono ?_;rintro e w1 ⟨rfl,b1⟩;have y1:w1.cell? ⟨g,o+1,none⟩=some (.slice x m cx):=(World.cell?_of_block (a:=⟨g,o+1,none⟩) (w:=w) (b1.block _ hg)).trans x1;have y3:w1.cell? ⟨g,o+3,none⟩=some (.bool d):=(World.cell?_of_block (a:=⟨g,o+3,none⟩) (w:=w) (b1.block _ hg)).trans x3;have HB:=hid_ofV b1;clear HC b1 x0 x1 x2 x3 hn hm;cases hv:validB n ps f with
 |false=>
  have HF:Hid (V=false):=by show _=_;rw[HV.out,hv];rfl
  clear HV;go_wp2
  go_ret
  exact⟨by rw[HF.out];rfl,HB.out⟩
 |true=>
  cases d with
  |true=>
   have HF:Hid (V=false):=by show _=_;rw[HV.out,hv];rfl
   clear HV;go_wp2
   go_ret
   exact⟨by rw[HF.out];rfl,HB.out⟩
  |false=>
   by_cases h0:m=0
   ·have HF:Hid (V=true):=by show _=_;rw[HV.out,hv];simp[h0]
    clear HV;subst h0;go_wp2
    go_ret
    exact⟨by rw[HF.out];rfl,HB.out⟩
   ·have HF:Hid (V=false):=by show _=_;rw[HV.out,hv];simp[h0]
    clear HV;have z0:((m:Int) == 0)=false:=by simp;omega
    have z1:¬ ((m:Int)=0):=by omega
    have z2:decide ((m:Int)=0)=false:=by simp;omega
    go_wp2
    go_ret
    exact⟨by rw[HF.out];rfl,HB.out⟩
end Go.Proofs.YtilpkdnoaldfmaaGreatDoor
