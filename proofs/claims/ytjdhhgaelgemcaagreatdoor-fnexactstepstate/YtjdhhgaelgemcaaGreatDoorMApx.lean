import Derived.Test.YtjdhhgaelgemcaaGreatDoorMReg
import Derived.Test.YtjdhhgaelgemcaaGreatDoorMOwnB
import Derived.Test.YtjdhhgaelgemcaaGreatDoorMSvM
import Derived.Test.YtjdhhgaelgemcaaGreatDoorMSvC
namespace Go.Proofs.YtjdhhgaelgemcaaGreatDoor
open Go.ChangeShapes Go.WideShapes Go.ChangeAt Go.RowKit
set_option linter.unusedVariables false
def Fresh (w w':World) (v:Value):Prop:=∀ k,v.ownBlock=some k→w.heap.size≤k∧k<w'.heap.size
def BlkLt (w:World) (v:Value):Prop:=∀ k,v.ownBlock=some k→k<w.heap.size
def ApV (x y:Value):Prop:=∀ k,x.ownBlock=some k→y.ownBlock≠some k
structure ApX (W:World) (ps:List Nat) (L:Nat→Bool) (u:Nat→Value) (w:World):Prop where
 below:Below W.heap.size W w
 blt:∀ p,p∈ps→L p=true→BlkLt w (u p)
 ap:∀ p,p∈ps→∀ q,q∈ps→p≠q→L p=true→L q=true→ApV (u p) (u q)
theorem ApX.start (W:World) (ps:List Nat) (L:Nat→Bool) (u:Nat→Value) (h:∀ i,L i=false):ApX W ps L u W:=
 ⟨Below.refl _ _,fun p _ hp=>(by rw[h] at hp;cases hp),fun p _ q _ _ hp=>(by rw[h] at hp;cases hp)⟩
theorem ApX.step {W:World} {ps:List Nat} {L:Nat→Bool} {u:Nat→Value} {w w':World} (h:ApX W ps L u w) (i:Nat) (v:Value) (b:Below w.heap.size w w') (hv:i∈ps→Fresh w w' v):ApX W ps (updK L i) (upd u i v) w':=by
 refine⟨h.below.trans (b.mono h.below.size),fun p hp hl=>?_,fun p hp q hq hne hlp hlq=>?_⟩
 ·by_cases e:p=i
  ·subst e;simp only[upd,if_true];exact fun k hk=>(hv hp k hk).2
  ·simp only[updK,if_neg e] at hl;simp only[upd,if_neg e];exact fun k hk=>Nat.lt_of_lt_of_le (h.blt p hp hl k hk) b.size
 ·by_cases e:p=i
  ·subst e;have e2:¬ q=p:=fun h=>hne h.symm
   simp only[updK,if_neg e2] at hlq;simp only[upd,if_true,if_neg e2];intro k hk hk';have h1:=(hv hp k hk).1;have h2:=h.blt q hq hlq k hk';omega
  ·by_cases e2:q=i
   ·subst e2;simp only[updK,if_neg e] at hlp;simp only[upd,if_true,if_neg e];intro k hk hk';have h1:=(hv hq k hk').1;have h2:=h.blt p hp hlp k hk;omega
   ·simp only[updK,if_neg e,if_neg e2] at hlp hlq;simp only[upd,if_neg e,if_neg e2];exact h.ap p hp q hq hne hlp hlq
theorem ApX.drew {W:World} {ps:List Nat} {L:Nat→Bool} {u:Nat→Value} {w:World} (h:ApX W ps L u w):ApX W ps L u w.drew:=⟨⟨h.below.os,h.below.tape,h.below.output,h.below.size,h.below.block⟩,h.blt,h.ap⟩
structure ApS (w:World) (R last:Nat) (T:TypeId) (ZS:Array Value) (Fin:World→Array Value→Prop) (ps:List Nat) (L:Nat→Bool) (u:Nat→Value) (w':World):Prop where
 ax:ApX w ps L u w'
 pre:L last=false→w'.heap[R]?=some (.cells ZS T (0,0))
 fin:L last=true→∃ cs,w'.heap[R]?=some (.cells cs T (0,0))∧Fin w' cs
section
variable {w:World} {R last:Nat} {T:TypeId} {ZS:Array Value} {Fin:World→Array Value→Prop} {ps:List Nat} {L:Nat→Bool} {u:Nat→Value} {w' w'':World}
theorem ApS.lt (h:ApS w R last T ZS Fin ps L u w'):R<w'.heap.size:=by
 cases hl:L last with
 |false=>exact(Array.getElem?_eq_some_iff.1 (h.pre hl)).1
 |true=>obtain⟨cs,h1,_⟩:=h.fin hl;exact(Array.getElem?_eq_some_iff.1 h1).1
theorem ApS.step (h:ApS w R last T ZS Fin ps L u w') (stab:∀ a b cs,Below a.heap.size a b→Fin a cs→Fin b cs) (i:Nat) (hi:i≠last) (v:Value) (b:Below w'.heap.size w' w'') (hv:i∈ps→Fresh w' w'' v):ApS w R last T ZS Fin ps (updK L i) (upd u i v) w'':=by
 have hlt:=h.lt;have e:updK L i last=L last:=by unfold updK;rw[if_neg (fun h=>hi h.symm)]
 refine⟨h.ax.step i v b hv,fun hl=>?_,fun hl=>?_⟩
 ·rw[b.block R hlt];exact h.pre (e ▸ hl)
 ·obtain⟨cs,h1,h2⟩:=h.fin (e ▸ hl);exact⟨cs,by rw[b.block R hlt];exact h1,stab _ _ _ b h2⟩
theorem ApS.put (h:ApS w R last T ZS Fin ps L u w') (hR:w.heap.size≤R) (hl:last∉ps) (v:Value) {cs:Array Value} (hw:Wr R w' w'') (hr:w''.heap[R]?=some (.cells cs T (0,0))) (hf:Fin w'' cs):ApS w R last T ZS Fin ps (updK L last) (upd u last v) w'':=by
 have hk:∀ p,p∈ps→p≠last:=fun p hp e=>hl (e ▸ hp)
 refine⟨⟨h.ax.below.trans (hw.below hR),fun p hp hlp=>?_,fun p hp q hq hne hlp hlq=>?_⟩,fun hx=>?_,fun _=>⟨cs,hr,hf⟩⟩
 ·simp only[updK,if_neg (hk p hp)] at hlp;simp only[upd,if_neg (hk p hp)];exact fun k hk'=>by rw[hw.size];exact h.ax.blt p hp hlp k hk'
 ·simp only[updK,if_neg (hk p hp)] at hlp;simp only[updK,if_neg (hk q hq)] at hlq;simp only[upd,if_neg (hk p hp),if_neg (hk q hq)];exact h.ax.ap p hp q hq hne hlp hlq
 ·unfold updK at hx;simp at hx
theorem ApS.start {wb:World} (ax:ApX w ps L u wb) (h:∀ i,L i=false) (hr:wb.heap[R]?=some (.cells ZS T (0,0))):ApS w R last T ZS Fin ps L u wb:=⟨ax,fun _=>hr,fun hl=>(by rw[h] at hl;cases hl)⟩
end
theorem Tryz.infoI64:(Tryz.prog.info? 2).map (fun i=>(i.zero,i.size,i.bytes))=some (some (.int .i64 0),1,8):=by kernel_rfl
def szQ (left:Int) (n:Nat):Int:=if left<n then -1 else left-n
set_option maxHeartbeats 400000 in
theorem eqI_any (a a':Option Addr) (n cap cap':Nat) (zs:List Int) (w:World) (hn:zs.length=n) (hm:n≤1048576) (ha:At .i64 w a zs) (ha':At .i64 w a' zs) :
  Calls Tryz.prog 33 #[.slice a n cap,.slice a' n cap'] w fun e w'=>e=.returned (.bool true)∧∃ q,w'=w.drewN q:=by
 have h0:((n:Int) != (n:Int))=false:=by simp
 go_enter Tryz.func33,Tryz.ntmps33;go_wp2
 go_loopw [5] (fun i wr=>∃ k q:Nat,k≤n∧i=.int .i64 k∧wr=w.drewN q) (fun i _=>n-(intOf i).toNat)
 case atStart=>exact⟨0,0,Nat.zero_le _,rfl,rfl⟩
 case round=>
  obtain⟨k,q,hk,rfl,rfl⟩:=hrel;by_cases hlt:k<n
  ·obtain⟨b,off,rfl,hb,hc⟩:=ha.get (by omega);obtain⟨b',off',rfl,hb',hc'⟩:=ha'.get (by omega);have g1:=hc k (by omega);have g2:=hc' k (by omega);generalize zs.getD k 0=x at *;have hx:(x != x)=false:=by simp
   have hlt':(k:Int)<(n:Int):=by omega
   clear hc hc' ha ha';go_wp2
   go_quiet (fail)
   go_wp2;go_roundw
   case rel=>exact⟨k+1,_,by omega,by go_num,rfl⟩
   case measure=>simp[intOf];omega
  ·go_wp2
   go_ret
   exact⟨rfl,q,rfl⟩
set_option maxHeartbeats 400000 in
theorem eqT1_any (s nw:Int) (w:World):Calls Tryz.prog 54 #[.agg #[.int .i64 s,.int .i64 nw],.agg #[.int .i64 s,.int .i64 nw]] w fun e w'=>e=.returned (.bool true)∧Below w.heap.size w w':=by
 have HB:Hid (Below w.heap.size w ((w.alloc (.cells #[.int .i64 s,.int .i64 nw] 77)).alloc (.cells #[.int .i64 s,.int .i64 nw] 77))):=((Below.refl _ _).alloc (Nat.le_refl _) _).alloc (by simp) _;go_enter Tryz.func54,Tryz.ntmps54;go_wp2
 go_ret
 exact⟨rfl,HB.out⟩
set_option maxRecDepth 100000 in
set_option maxHeartbeats 2000000 in
theorem eqTS_any (a a':Option Addr) (n c c':Nat) (T:List Int) (w:World) (hl:T.length=n*2) (hn:n≤1048576) (ha:At .i64 w a T) (ha':At .i64 w a' T) :
  Calls Tryz.prog 34 #[.slice a n c,.slice a' n c'] w fun e w'=>e=.returned (.bool true)∧Below w.heap.size w w':=by
 have h0:((n:Int) != (n:Int))=false:=by simp
 have HLT:Hid (T.length=n*2):=hl;have HA:Hid (At .i64 w a T):=ha;have HA':Hid (At .i64 w a' T):=ha';clear hl ha ha';go_enter Tryz.func34,Tryz.ntmps34;go_wp2
 go_loopw [5] (fun i wr=>∃ k:Nat,k≤n∧i=.int .i64 k∧Below w.heap.size w wr) (fun i _=>n-(intOf i).toNat)
 case atStart=>exact⟨0,Nat.zero_le _,rfl,Below.refl _ _⟩
 case round=>
  obtain⟨k,hk,rfl,hbel⟩:=hrel;have HB:Hid (Below w.heap.size w wr):=hbel;by_cases hlt:k<n
  ·have hlt':(k:Int)<n:=by omega
   obtain⟨b,o,ea,hb,hc⟩:=(HA.out.below hbel).get (by have:=HLT.out;omega);obtain⟨b',o',ea',hb',hc'⟩:=(HA'.out.below hbel).get (by have:=HLT.out;omega);have t0:=hc (k*2) (by have:=HLT.out;omega);have t1:=hc (k*2+1) (by have:=HLT.out;omega);have u0:=hc' (k*2) (by have:=HLT.out;omega);have u1:=hc' (k*2+1) (by have:=HLT.out;omega);rw[←Nat.add_assoc] at t1 u1;subst ea ea';clear hc hc' hbel;generalize T.getD (k*2) 0=s at *;generalize T.getD (k*2+1) 0=nw at *;have HC1:Hid (b<wr.heap.size∧wr.cell? ⟨b,o+k*2,none⟩=some (.int .i64 s)∧wr.cell? ⟨b,o+k*2+1,none⟩=some (.int .i64 nw)):=⟨hb,t0,t1⟩
   have HC2:Hid (b'<wr.heap.size∧wr.cell? ⟨b',o'+k*2,none⟩=some (.int .i64 s)∧wr.cell? ⟨b',o'+k*2+1,none⟩=some (.int .i64 nw)):=⟨hb',u0,u1⟩
   clear hb hb' t0 t1 u0 u1;go_wp2_with fail;refine wp_region_any (by kernel_rfl) ?_;refine wpAny_slotsG (fun _ _ _=>True) (frame:=(fun (a b c d e f g h i j k l m n o p q:Value)=>fun (t:Nat→Value)=>({ tmps:=List.toArray [a,b,c,d,e,f,g,h,i,j,k,l,m,n,o,p,q,t 0,t 1,t 2,t 3,t 4,t 5,t 6,t 7,t 8,t 9],defers:=[] }:Act)) _ _ _ _ _ _ _ _ _ _ _ _ _ _ _ _ _)
    (Ext:=fun L w'=>Below wr.heap.size wr w') (Good:=fun i L w' v=>if i=0 then v=.slice (some ⟨b,o,none⟩) n c else if i=1 then v=.int .i64 k else if i=2 then v=.pointer (some ⟨b,o+k*2,none⟩) else if i=3 then v=.agg #[.int .i64 s,.int .i64 nw] else if i=4 then v=.slice (some ⟨b',o',none⟩) n c' else if i=5 then v=.int .i64 k else if i=6 then v=.pointer (some ⟨b',o'+k*2,none⟩) else if i=7 then v=.agg #[.int .i64 s,.int .i64 nw] else if i=8 then v=.bool true else if i=9 then v=.bool false else True) (fun j L w9 w' i v _ _ _ h=>h) (by kernel_rfl) ?hop ?hdone _ _ ((fun (x0 x1 x2 x3 x4 x5 x6 x7 x8 x9:Value)=>fun (i:Nat)=>if i=0 then x0 else if i=1 then x1 else if i=2 then x2 else if i=3 then x3 else if i=4 then x4 else if i=5 then x5 else if i=6 then x6 else if i=7 then x7 else if i=8 then x8 else if i=9 then x9 else undef) _ _ _ _ _ _ _ _ _ _) _ (by simp) ?ext ?start (by simp)
   case start=>intro i hi h;exact absurd h (by rw[Array.getD_eq_getD_getElem?,Array.getElem?_replicate];split<;>simp)
   case ext=>exact⟨rfl,rfl,rfl,Nat.le_refl _,fun _ _=>rfl⟩
   case hop=>
    intro i o L t w' ho hLi hx hdep K hK;have hi:i<10:=(Array.getElem?_eq_some_iff.1 ho).1;obtain rfl|rfl|rfl|rfl|rfl|rfl|rfl|rfl|rfl|rfl:i=0∨i=1∨i=2∨i=3∨i=4∨i=5∨i=6∨i=7∨i=8∨i=9:=by omega
    all_goals(simp at ho;subst ho)
    ·clear hdep;have hK':=hK w' (.slice (some ⟨b,o,none⟩) n c) (by simp) hx trivial;clear hK;rw[if_pos (by rfl)];go_simp;simpa[upd] using hK'
    ·clear hdep;have hK':=hK w' (.int .i64 k) (by simp) hx trivial;clear hK;rw[if_pos (by rfl)];go_simp;simpa[upd] using hK'
    ·have d0:t 0=.slice (some ⟨b,o,none⟩) n c:=by simpa using hdep ⟨0,.data⟩ (by simp) rfl
     have d1:t 1=.int .i64 k:=by simpa using hdep ⟨1,.data⟩ (by simp) rfl
     clear hdep;have hK':=hK w' (.pointer (some ⟨b,o+k*2,none⟩)) (by simp) hx trivial;clear hK;rw[if_pos (by rfl)];go_simp;simpa[upd,d0,d1] using hK'
    ·have d2:t 2=.pointer (some ⟨b,o+k*2,none⟩):=by simpa using hdep ⟨2,.data⟩ (by simp) rfl
     clear hdep;have q0:w'.cell? ⟨b,o+k*2,none⟩=some (.int .i64 s):=by rw[hx.cell (p:=⟨b,o+k*2,none⟩) HC1.out.1];exact HC1.out.2.1
     have q1:w'.cell? ⟨b,o+k*2+1,none⟩=some (.int .i64 nw):=by rw[hx.cell (p:=⟨b,o+k*2+1,none⟩) HC1.out.1];exact HC1.out.2.2
     have hK':=hK w' (.agg #[.int .i64 s,.int .i64 nw]) (by simp) hx trivial;clear hK;rw[if_pos (by rfl)];go_simp;simpa[upd,d2] using hK'
    ·clear hdep;have hK':=hK w' (.slice (some ⟨b',o',none⟩) n c') (by simp) hx trivial;clear hK;rw[if_pos (by rfl)];go_simp;simpa[upd] using hK'
    ·clear hdep;have hK':=hK w' (.int .i64 k) (by simp) hx trivial;clear hK;rw[if_pos (by rfl)];go_simp;simpa[upd] using hK'
    ·have d4:t 4=.slice (some ⟨b',o',none⟩) n c':=by simpa using hdep ⟨4,.data⟩ (by simp) rfl
     have d5:t 5=.int .i64 k:=by simpa using hdep ⟨5,.data⟩ (by simp) rfl
     clear hdep;have hK':=hK w' (.pointer (some ⟨b',o'+k*2,none⟩)) (by simp) hx trivial;clear hK;rw[if_pos (by rfl)];go_simp;simpa[upd,d4,d5] using hK'
    ·have d6:t 6=.pointer (some ⟨b',o'+k*2,none⟩):=by simpa using hdep ⟨6,.data⟩ (by simp) rfl
     clear hdep;have q0:w'.cell? ⟨b',o'+k*2,none⟩=some (.int .i64 s):=by rw[hx.cell (p:=⟨b',o'+k*2,none⟩) HC2.out.1];exact HC2.out.2.1
     have q1:w'.cell? ⟨b',o'+k*2+1,none⟩=some (.int .i64 nw):=by rw[hx.cell (p:=⟨b',o'+k*2+1,none⟩) HC2.out.1];exact HC2.out.2.2
     have hK':=hK w' (.agg #[.int .i64 s,.int .i64 nw]) (by simp) hx trivial;clear hK;rw[if_pos (by rfl)];go_simp;simpa[upd,d6] using hK'
    ·have d3:t 3=.agg #[.int .i64 s,.int .i64 nw]:=by simpa using hdep ⟨3,.data⟩ (by simp) rfl
     have d7:t 7=.agg #[.int .i64 s,.int .i64 nw]:=by simpa using hdep ⟨7,.data⟩ (by simp) rfl
     clear hdep;have A:=eqT1_any s nw w';have hK':∀ ww,Below w'.heap.size w' ww→K _ ww:=fun ww hb=>hK ww (.bool true) (by simp) (hx.trans (hb.mono hx.size)) trivial
     clear hK;rw[if_pos (by rfl)];go_simp;try simp only[d3,d7]
     refine A.mono ?_;rintro e w9 ⟨rfl,hb⟩;have hK2:=hK' w9 hb;clear hK' A hb;go_simp;simpa[upd,d3,d7] using hK2
    ·have d8:t 8=.bool true:=by simpa using hdep ⟨8,.data⟩ (by simp) rfl
     clear hdep;have hK':=hK w' (.bool false) (by simp) hx trivial;clear hK;rw[if_pos (by rfl)];go_simp;simpa[upd,d8] using hK'
   case hdone=>
    intro L t w' hx hg;have d9:t 9=.bool false:=by simpa using hg 9 (by decide)
    clear hg;have HBW:Hid (Below w.heap.size w w'):=HB.out.trans (hx.mono HB.out.size);simp only[d9];clear hx d9;go_wp2;go_roundw
    case rel=>exact⟨k+1,by omega,by go_num,HBW.out⟩
    case measure=>simp[intOf];omega
  ·have hlt':¬ ((k:Int)<n):=by omega
   clear hbel;go_wp2
   go_ret
   exact⟨rfl,HB.out⟩
def RowV (w:World) (g:Nat) (t:TypeId) (cs:Array Value):Prop:=w.heap[g]?=some (.cells cs t (0,0))
theorem RowV.lt {w:World} {g:Nat} {t:TypeId} {cs:Array Value} (h:RowV w g t cs):g<w.heap.size:=(Array.getElem?_eq_some_iff.1 h).1
theorem RowV.below {w w':World} {g:Nat} {t:TypeId} {cs:Array Value} (h:RowV w g t cs) (b:Below w.heap.size w w'):RowV w' g t cs:=by unfold RowV;rw[b.block g h.lt];exact h
theorem RowV.wr {w w':World} {g V:Nat} {t:TypeId} {cs:Array Value} (h:RowV w g t cs) (hw:Wr V w w') (hne:V<g):RowV w' g t cs:=by unfold RowV;rw[hw.block g (by omega)];exact h
def iC (xs:List Int):Array Value:=(xs.map (Value.int .i64)).toArray
theorem RowV.i64 {w:World} {g:Nat} {t:TypeId} {xs:List Int} (h:RowV w g t (iC xs)):At .i64 w (some ⟨g,0,none⟩) xs:=
 .inr ⟨g,0,rfl,h.lt,fun i hi=>by rw[Nat.zero_add,cell_of_row w g i _ _ _ h];simp[iC,hi]⟩
theorem RowV.fz {w:World} {g:Nat} {t:TypeId} {cs:Array Value} (h:RowV w g t cs) (i:Nat):w.frozen? ⟨g,i,none⟩=false:=frozen_of_row w g i _ _ h
theorem RowV.of_owns {w:World} {B g n:Nat} {xs:List Int} (h:w.ownsRow B 2 1 (.slice (some ⟨g,0,none⟩) n n) n (xs.map (Value.int .i64))):RowV w g 2 (iC xs):=by
 rcases h.2 with⟨h',_⟩|⟨g',cap,cur,h',hb,hh,hc,hm,hs,ht⟩
 ·cases h'
 ·cases h';unfold RowV;rw[hh];have:cur=iC xs:=by
   apply Array.toList_inj.1;rw[List.take_of_length_le (by rw[Array.length_toList,hs];exact Nat.le_refl _)] at ht;rw[ht];simp[iC]
  rw[this]
theorem row_full {cur:Array Value} {xs:List Int} {m:Nat} (hs:cur.size=m) (hl:xs.length=m) (h:∀ i,i<m→cur[i]?=some (.int .i64 (xs.getD i 0))):cur=iC xs:=by
 apply Array.ext_getElem?;intro i;by_cases hi:i<m
 ·rw[h i hi];simp[iC,show i<xs.length by omega]
 ·rw[Array.getElem?_eq_none (by omega),Array.getElem?_eq_none (by simp[iC];omega)]
structure VSE (w:World) (sc:Array Value) (wr:World):Prop where
 below:Below w.heap.size w wr
 box:wr.heap[w.heap.size]?=some (.cells sc 33 (0,0))
theorem VSE.lt {w wr:World} {sc:Array Value} (h:VSE w sc wr):w.heap.size<wr.heap.size:=(Array.getElem?_eq_some_iff.1 h.box).1
theorem VSE.call {w wr w':World} {sc:Array Value} (h:VSE w sc wr) (b:Below wr.heap.size wr w'):VSE w sc w':=⟨h.below.trans (b.mono h.below.size),by rw[b.block _ h.lt];exact h.box⟩
theorem VSE.drew {w wr:World} {sc:Array Value} (h:VSE w sc wr) (q:Nat):VSE w sc (wr.drewN q):=⟨below_dq h.below q,h.box⟩
set_option maxRecDepth 100000 in
set_option maxHeartbeats 8000000 in
theorem svs_any (aD aU aT:Option Addr) (nD cD nU cU nT cT:Nat) (D U:List Int) (k:Int) (T:List Int) (w:World) (hD:D.length=nD) (hU:U.length=nU) (hT:T.length=nT*2) (mD:nD≤1048576) (mU:nU≤1048576) (mT:nT≤1048576)
  (haD:At .i64 w aD D) (haU:At .i64 w aU U) (haT:At .i64 w aT T) (hk0:-9223372036854775808≤k) (hk1:k<9223372036854775808) :
  Calls Tryz.prog 23 #[.agg #[.slice aD nD cD,.slice aU nU cU,.int .i64 k,.slice aT nT cT]] w fun e w'=>e=.returned (.bool (stB D U k T nT))∧Below w.heap.size w w':=by
 have HE0:Hid (VSE w #[.slice aD nD cD,.slice aU nU cU,.int .i64 k,.slice aT nT cT] (w.alloc (.cells #[.slice aD nD cD,.slice aU nU cU,.int .i64 k,.slice aT nT cT] 33))):=⟨(Below.refl _ _).alloc (Nat.le_refl _) _,heap_alloc_new w _⟩
 have HAD:Hid (At .i64 w aD D):=haD;have HAU:Hid (At .i64 w aU U):=haU;have HAT:Hid (At .i64 w aT T):=haT;have HLT:Hid (T.length=nT*2):=hT;have HLN:Hid (D.length=nD∧U.length=nU):=⟨hD,hU⟩
 have HKB:Hid (-9223372036854775808≤k∧k<9223372036854775808):=⟨hk0,hk1⟩
 clear haD haU haT hT hD hU hk0 hk1;go_enter Tryz.func23,Tryz.ntmps23;go_wp2_with fail;generalize (w.alloc (.cells #[.slice aD nD cD,.slice aU nU cU,.int .i64 k,.slice aT nT cT] 33))=w0 at *;refine(serials_any aD nD cD D _ HLN.out.1 mD (HAD.out.below HE0.out.below)).mono ?_;rintro e w1' ⟨rfl,q1,rfl⟩;have HE1:Hid (VSE w #[.slice aD nD cD,.slice aU nU cU,.int .i64 k,.slice aT nT cT] (w0.drewN q1)):=HE0.out.drew q1;clear HE0;generalize w0.drewN q1=w1 at *;have HB:Hid (Below w.heap.size w w1):=HE1.out.below;have c0:w1.cell? ⟨w.heap.size,0,none⟩=some (.slice aD nD cD):=by rw[cell_of_row w1 w.heap.size 0 _ _ _ HE1.out.box];rfl
 have c1:w1.cell? ⟨w.heap.size,1,none⟩=some (.slice aU nU cU):=by rw[cell_of_row w1 w.heap.size 1 _ _ _ HE1.out.box];rfl
 cases hsD:serB D with
 |false=>
  have HPD:Hid (¬ SerP D):=fun h=>by rw[serB_yes h] at hsD;cases hsD
  have HFB:Hid (stB D U k T nT=false):=stB_no (fun h=>HPD.out h.1);go_wp2
  go_ret
  exact⟨by rw[HFB.out];rfl,HB.out⟩
 |true=>
 have HPD:Hid (SerP D):=(serB_iff D).1 hsD;by_cases h16:nD≤16
 ·have h16':decide ((16:Int)<(nD:Int))=false:=decide_eq_false (by omega);go_wp2_with fail;refine(serials_any aU nU cU U _ HLN.out.2 mU (HAU.out.below HE1.out.below)).mono ?_;rintro e w2' ⟨rfl,q2,rfl⟩;have HE2:Hid (VSE w #[.slice aD nD cD,.slice aU nU cU,.int .i64 k,.slice aT nT cT] (w1.drewN q2)):=HE1.out.drew q2;clear HE1 HB c0 c1;generalize w1.drewN q2=w2 at *;have HB:Hid (Below w.heap.size w w2):=HE2.out.below;have c1:w2.cell? ⟨w.heap.size,1,none⟩=some (.slice aU nU cU):=by rw[cell_of_row w2 w.heap.size 1 _ _ _ HE2.out.box];rfl
  have c2:w2.cell? ⟨w.heap.size,2,none⟩=some (.int .i64 k):=by rw[cell_of_row w2 w.heap.size 2 _ _ _ HE2.out.box];rfl
  have c3:w2.cell? ⟨w.heap.size,3,none⟩=some (.slice aT nT cT):=by rw[cell_of_row w2 w.heap.size 3 _ _ _ HE2.out.box];rfl
  cases hsU:serB U with
  |false=>
   have HPU:Hid (¬ SerP U):=fun h=>by rw[serB_yes h] at hsU;cases hsU
   have HFB:Hid (stB D U k T nT=false):=stB_no (fun h=>HPU.out h.2.2.1);go_wp2
   go_ret
   exact⟨by rw[HFB.out];rfl,HB.out⟩
  |true=>
  have HPU:Hid (SerP U):=(serB_iff U).1 hsU;by_cases hk:k<0
  ·have HK9:Hid (k<0):=hk;have hkb:decide (k<0)=true:=decide_eq_true hk;clear hk c1 c3;have HFB:Hid (stB D U k T nT=false):=stB_no (fun h=>by have:=h.2.2.2.1;have:=HK9.out;omega);go_wp2
   go_ret
   exact⟨by rw[HFB.out];rfl,HB.out⟩
  ·have HK9:Hid (0≤k):=by show _≤_;omega
   have hkb:decide (k<0)=false:=decide_eq_false hk;by_cases hka:k+(nT:Int)=nU
   ·have HKA:Hid (k+nT=U.length):=by show _=_;rw[HLN.out.2];exact hka
    have hwr:IntKind.i64.wrap (k+(nT:Int))=(nU:Int):=by rw[IntKind.wrap_i64];omega
    have hwr2:wrap64 (k+(nT:Int))=(nU:Int):=by unfold wrap64;omega
    clear hka hk;go_wp2_with fail;clear HB c1 c2 c3 hwr hwr2 hkb h16' hsD hsU
    go_loopw [3] (fun i wr=>∃ m:Nat,m≤nT∧i=.int .i64 m∧VSE w #[.slice aD nD cD,.slice aU nU cU,.int .i64 k,.slice aT nT cT] wr∧Hid (∀ j,j<m→tapI U T j)) (fun i _=>nT-(intOf i).toNat)
    case atStart=>exact⟨0,Nat.zero_le _,rfl,HE2.out,fun j hj=>by omega⟩
    case round=>
     clear HE2;obtain⟨m,hm,rfl,hE,hno⟩:=hrel;have c1:wr.cell? ⟨w.heap.size,1,none⟩=some (.slice aU nU cU):=by rw[cell_of_row wr w.heap.size 1 _ _ _ hE.box];rfl
     have c3:wr.cell? ⟨w.heap.size,3,none⟩=some (.slice aT nT cT):=by rw[cell_of_row wr w.heap.size 3 _ _ _ hE.box];rfl
     have HE:Hid (VSE w #[.slice aD nD cD,.slice aU nU cU,.int .i64 k,.slice aT nT cT] wr):=hE;clear hE;by_cases hlt:m<nT
     ·have hlt':(m:Int)<nT:=by omega
      obtain⟨b,off,ea,hb,hc⟩:=(HAT.out.below HE.out.below).get (by have:=HLT.out;omega);have t0:=hc (m*2) (by have:=HLT.out;omega);have t1:=hc (m*2+1) (by have:=HLT.out;omega);rw[←Nat.add_assoc] at t1;subst ea;have HCT:Hid (∀ j,j<nT→wr.cell? ⟨b,off+j*2,none⟩=some (.int .i64 (T.getD (j*2) 0))):=fun j hj=>hc (j*2) (by have:=HLT.out;omega)
      have HBL:Hid (b<wr.heap.size):=hb;have HTI:Hid (tapI U T m↔(T.getD (m*2) 0∈U∧(0≤T.getD (m*2+1) 0∧T.getD (m*2+1) 0≤4294967295)∧∀ j,j<m→T.getD (j*2) 0≠T.getD (m*2) 0)):=Iff.rfl;generalize T.getD (m*2) 0=s at *;generalize T.getD (m*2+1) 0=nw at *;have b1:Below wr.heap.size wr (wr.alloc (.cells #[.int .i64 s,.int .i64 nw] 77)):=(Below.refl _ _).alloc (Nat.le_refl _) _;have HEW:Hid (VSE w #[.slice aD nD cD,.slice aU nU cU,.int .i64 k,.slice (some ⟨b,off,none⟩) nT cT] (wr.alloc (.cells #[.int .i64 s,.int .i64 nw] 77))):=HE.out.call b1;have HBW:Hid (Below w.heap.size w (wr.alloc (.cells #[.int .i64 s,.int .i64 nw] 77))):=HEW.out.below;have HRT:Hid ((wr.alloc (.cells #[.int .i64 s,.int .i64 nw] 77)).heap[wr.heap.size]?=some (.cells #[.int .i64 s,.int .i64 nw] 77 (0,0))):=heap_alloc_new wr _;have HCW:Hid (∀ j,j<nT→(wr.alloc (.cells #[.int .i64 s,.int .i64 nw] 77)).cell? ⟨b,off+j*2,none⟩=some (.int .i64 (T.getD (j*2) 0))):=fun j hj=>by rw[b1.cell (p:=⟨b,off+j*2,none⟩) HBL.out];exact HCT.out j hj
      have d1:(wr.alloc (.cells #[.int .i64 s,.int .i64 nw] 77)).cell? ⟨w.heap.size,1,none⟩=some (.slice aU nU cU):=by rw[cell_of_row _ w.heap.size 1 _ _ _ HEW.out.box];rfl
      have d3:(wr.alloc (.cells #[.int .i64 s,.int .i64 nw] 77)).cell? ⟨w.heap.size,3,none⟩=some (.slice (some ⟨b,off,none⟩) nT cT):=by rw[cell_of_row _ w.heap.size 3 _ _ _ HEW.out.box];rfl
      clear hc hb b1 HCT;by_cases hn0:nw<0
      ·have hn0':decide (nw<0)=true:=decide_eq_true hn0;have HX:Hid (nw<0):=hn0;clear hn0;have HFB:Hid (stB D U k T nT=false):=stB_no (fun h=>by have:=(HTI.out.1 (h.2.2.2.2.2 m hlt)).2.1.1;have:=HX.out;omega);go_wp2
       go_ret
       exact⟨by rw[HFB.out];rfl,HBW.out⟩
      ·have hn0':decide (nw<0)=false:=decide_eq_false hn0;by_cases hn1:4294967295<nw
       ·have hn1':decide (4294967295<nw)=true:=decide_eq_true hn1;have HX:Hid (4294967295<nw):=hn1;clear hn1 hn0;have HFB:Hid (stB D U k T nT=false):=stB_no (fun h=>by have:=(HTI.out.1 (h.2.2.2.2.2 m hlt)).2.1.2;have:=HX.out;omega);go_wp2
        go_ret
        exact⟨by rw[HFB.out];rfl,HBW.out⟩
       ·have hn1':decide (4294967295<nw)=false:=decide_eq_false hn1;have HNW:Hid (0≤nw∧nw≤4294967295):=⟨by omega,by omega⟩
        clear hn0 hn1;go_wp2_with fail;refine(holds_any aU nU cU U s _ HLN.out.2 mU (HAU.out.below HBW.out)).mono ?_;rintro e w5 ⟨rfl,rfl⟩;by_cases hin:s∈U
        ·rw[memB_yes hin];have HIN:Hid (s∈U):=hin;clear hin;have d0:(wr.alloc (.cells #[.int .i64 s,.int .i64 nw] 77)).cell? ⟨wr.heap.size,0,none⟩=some (.int .i64 s):=by rw[cell_of_row _ wr.heap.size 0 _ _ _ HRT.out];rfl
         have t0':=HCW.out m hlt;clear t0 t1 t0' c1 c3;go_wp2_with fail;generalize wr.alloc (.cells #[.int .i64 s,.int .i64 nw] 77)=W at *
         go_loopw [5] (fun i wq=>∃ j:Nat,j≤m∧i=.int .i64 j∧Hid (∃ p,wq=W.drewN p)∧Hid (∀ l,l<j→T.getD (l*2) 0≠s)) (fun i _=>m-(intOf i).toNat)
         case atStart=>exact⟨0,Nat.zero_le _,rfl,⟨0,rfl⟩,fun l hl=>by omega⟩
         case round=>
          obtain⟨j,hj,rfl,hwp,hne⟩:=hrel;obtain⟨p,rfl⟩:=hwp.out;clear hwp;by_cases hjm:j<m
          ·have hjm':(j:Int)<m:=by omega
           have hjn:(j:Int)<nT:=by omega
           have tj:=HCW.out j (by omega);by_cases hes:T.getD (j*2) 0=s
           ·have HX:Hid (T.getD (j*2) 0=s):=hes;have HBQ:Hid (∀ n,Below w.heap.size w ((W.drewN p).drewN n)):=fun n=>below_dq (below_dq HBW.out p) n
            rw[hes] at tj;clear hes;have HFB:Hid (stB D U k T nT=false):=stB_no (fun h=>(HTI.out.1 (h.2.2.2.2.2 m hlt)).2.2 j hjm HX.out);go_wp2_with fail
            go_quiet (fail)
            go_wp2
            go_ret
            exact⟨by rw[HFB.out];rfl,by first|exact HBQ.out _|exact below_dq HBW.out _⟩
           ·have HN:Hid (∀ l,l<j+1→T.getD (l*2) 0≠s):=fun l hl=>by
             by_cases hlj:l<j
             ·exact hne.out l hlj
             ·have:l=j:=by omega
              rw[this];exact hes
            have hes':(T.getD (j*2) 0 == s)=false:=by simpa using hes
            clear hes hne;generalize T.getD (j*2) 0=y at *;go_wp2_with fail
            go_quiet (fail)
            go_wp2;go_roundw
            case rel=>exact⟨j+1,by omega,by go_num,by first|exact⟨_,rfl⟩|exact⟨_,dN _ _ _⟩,HN⟩
            case measure=>simp[intOf];omega
          ·have hjm':¬ ((j:Int)<m):=by omega
           have HN:Hid (∀ l,l<m+1→tapI U T l):=fun l hl=>by
            by_cases hlm:l<m
            ·exact hno.out l hlm
            ·have e:l=m:=by omega
             subst e;exact HTI.out.2 ⟨HIN.out,HNW.out,fun l' hl'=>hne.out l' (by omega)⟩
           have HEQ:Hid (VSE w #[.slice aD nD cD,.slice aU nU cU,.int .i64 k,.slice (some ⟨b,off,none⟩) nT cT] (W.drewN p)):=HEW.out.drew p;go_wp2;go_roundw
           case rel=>exact⟨m+1,by omega,by go_num,HEQ.out,HN⟩
           case measure=>simp[intOf];omega
        ·rw[memB_no hin];have HIN:Hid (¬ s∈U):=hin;clear hin;have HFB:Hid (stB D U k T nT=false):=stB_no (fun h=>HIN.out (HTI.out.1 (h.2.2.2.2.2 m hlt)).1);go_wp2
         go_ret
         exact⟨by rw[HFB.out];rfl,HBW.out⟩
     ·have hlt':¬ ((m:Int)<nT):=by omega
      have HYE:Hid (stB D U k T nT=true):=stB_yes ⟨HPD.out,by rw[HLN.out.1];exact h16,HPU.out,HK9.out,HKA.out,fun i hi=>hno.out i (by omega)⟩;have HBW:Hid (Below w.heap.size w wr):=HE.out.below;go_wp2
      go_ret
      exact⟨by rw[HYE.out];rfl,HBW.out⟩
   ·have HKN:Hid (¬ k+(nT:Int)=nU):=hka;have hwr:(IntKind.i64.wrap (k+(nT:Int)) == (nU:Int))=false:=by
     have:=HKB.out;simp only[beq_eq_false_iff_ne,ne_eq];rw[IntKind.wrap_i64];omega
    have hwr2:(wrap64 (k+(nT:Int)) == (nU:Int))=false:=by
     have:=HKB.out;simp only[beq_eq_false_iff_ne,ne_eq];unfold wrap64;omega
    clear hka hk;have HFB:Hid (stB D U k T nT=false):=stB_no (fun h=>by have:=h.2.2.2.2.1;rw[HLN.out.2] at this;exact HKN.out this);go_wp2
    go_ret
    exact⟨by rw[HFB.out];rfl,HB.out⟩
 ·have h16':decide ((16:Int)<(nD:Int))=true:=decide_eq_true (by omega);have HFB:Hid (stB D U k T nT=false):=stB_no (fun h=>by have:=h.2.1;rw[HLN.out.1] at this;omega);go_wp2
  go_ret
  exact⟨by rw[HFB.out];rfl,HB.out⟩
end Go.Proofs.YtjdhhgaelgemcaaGreatDoor
namespace Go.Proofs.YtjdhhgaelgemcaaGreatDoor
open Go.ChangeShapes Go.WideShapes Go.ChangeAt Go.RowKit
set_option linter.unusedVariables false
theorem bkC_get (d u:List Int) (k:Int) (v:Value) (i:Nat):(bkC d u k v)[i]?=(d.map (Value.int .u8)++u.map (Value.int .u8)++[.int .i64 k,v])[i]?:=by unfold bkC;simp
theorem bkC_d {d u:List Int} (hd:d.length=32) (hu:u.length=32) (k:Int) (v:Value) (i:Nat) (hi:i<32):(bkC d u k v)[i]?=some (.int .u8 (d.getD i 0)):=by
 rw[bkC_get,List.append_assoc,List.getElem?_append_left (by simp[hd,hi])];simp[hd,hi]
theorem bkC_u {d u:List Int} (hd:d.length=32) (hu:u.length=32) (k:Int) (v:Value) (i:Nat) (hi:i<32):(bkC d u k v)[32+i]?=some (.int .u8 (u.getD i 0)):=by
 rw[bkC_get,List.getElem?_append_left (by simp[hd,hu];omega),List.getElem?_append_right (by simp[hd])];simp[hd,hu,hi]
theorem bkC_k {d u:List Int} (hd:d.length=32) (hu:u.length=32) (k:Int) (v:Value):(bkC d u k v)[64]?=some (.int .i64 k):=by
 rw[bkC_get,List.getElem?_append_right (by simp[hd,hu])];simp[hd,hu]
theorem bkC_v {d u:List Int} (hd:d.length=32) (hu:u.length=32) (k:Int) (v:Value):(bkC d u k v)[65]?=some v:=by
 rw[bkC_get,List.getElem?_append_right (by simp[hd,hu])];simp[hd,hu]
theorem bkC_set_d {d u:List Int} (hd:d.length=32) (k:Int) (v:Value) (i:Nat) (hi:i<32) (x:Int):(bkC d u k v).setIfInBounds i (.int .u8 x)=bkC (d.set i x) u k v:=by
 unfold bkC;rw[List.setIfInBounds_toArray,List.append_assoc,List.set_append_left _ _ (by simp[hd,hi]),←List.append_assoc,←List.map_set]
theorem bkC_set_u {d u:List Int} (hd:d.length=32) (hu:u.length=32) (k:Int) (v:Value) (i:Nat) (hi:i<32) (x:Int):(bkC d u k v).setIfInBounds (32+i) (.int .u8 x)=bkC d (u.set i x) k v:=by
 unfold bkC;rw[List.setIfInBounds_toArray,List.set_append_left _ _ (by simp[hd,hu];omega),List.set_append_right _ _ (by simp[hd]),List.length_map,hd,Nat.add_sub_cancel_left,←List.map_set]
theorem bkC_set_k {d u:List Int} (hd:d.length=32) (hu:u.length=32) (k:Int) (v:Value) (k':Int):(bkC d u k v).setIfInBounds 64 (.int .i64 k')=bkC d u k' v:=by
 unfold bkC;rw[List.setIfInBounds_toArray,List.set_append_right _ _ (by simp[hd,hu])];simp[hd,hu]
theorem bkC_set_v {d u:List Int} (hd:d.length=32) (hu:u.length=32) (k:Int) (v v':Value):(bkC d u k v).setIfInBounds 65 v'=bkC d u k v':=by
 unfold bkC;rw[List.setIfInBounds_toArray,List.set_append_right _ _ (by simp[hd,hu])];simp[hd,hu]
structure Bk (w:World) (g:Nat) (d u:List Int) (k:Int) (v:Value):Prop where
 row:w.heap[g]?=some (.cells (bkC d u k v) 67 (0,0))
 ld:d.length=32
 lu:u.length=32
 bd:Byte d
 bu:Byte u
variable {w w':World} {g:Nat} {d u:List Int} {k:Int} {v:Value}
theorem Bk.lt (h:Bk w g d u k v):g<w.heap.size:=(Array.getElem?_eq_some_iff.1 h.row).1
theorem Bk.batd (h:Bk w g d u k v):BAt w g 0 d:=⟨h.ld,h.bd,fun i hi=>by
 rw[Nat.zero_add];exact⟨(cell_of_row _ _ _ _ _ _ h.row).trans (bkC_d h.ld h.lu k v i hi),frozen_of_row _ _ _ _ _ h.row⟩⟩
theorem Bk.batu (h:Bk w g d u k v):BAt w g 32 u:=⟨h.lu,h.bu,fun i hi=>⟨(cell_of_row _ _ _ _ _ _ h.row).trans (bkC_u h.ld h.lu k v i hi),frozen_of_row _ _ _ _ _ h.row⟩⟩
theorem Bk.ck (h:Bk w g d u k v):w.cell? ⟨g,64,none⟩=some (.int .i64 k):=(cell_of_row _ _ _ _ _ _ h.row).trans (bkC_k h.ld h.lu k v)
theorem Bk.cv (h:Bk w g d u k v):w.cell? ⟨g,65,none⟩=some v:=(cell_of_row _ _ _ _ _ _ h.row).trans (bkC_v h.ld h.lu k v)
theorem Bk.fz (h:Bk w g d u k v) (i:Nat):w.frozen? ⟨g,i,none⟩=false:=frozen_of_row _ _ _ _ _ h.row
theorem Bk.below (h:Bk w g d u k v) {B:Nat} (b:Below B w w') (hg:g<B):Bk w' g d u k v:=⟨by rw[b.block g hg];exact h.row,h.ld,h.lu,h.bd,h.bu⟩
theorem Bk.drew (h:Bk w g d u k v) (q:Nat):Bk (w.drewN q) g d u k v:=⟨h.row,h.ld,h.lu,h.bd,h.bu⟩
theorem addB_len (bs:List Int) (i:Nat):(addB bs i).length=bs.length:=by unfold addB;simp
theorem remB_len (bs:List Int) (i:Nat):(remB bs i).length=bs.length:=by unfold remB;simp
theorem addB_byte {bs:List Int} (h:Byte bs) (i:Nat):Byte (addB bs i):=by
 have hx:=h.get (i/8);obtain⟨a,b,c⟩:=u8_or_bit _ (i%8) hx.1 hx.2 (by omega);exact byte_set h _ _ a b
theorem remB_byte {bs:List Int} (h:Byte bs) (i:Nat):Byte (remB bs i):=by
 have hx:=h.get (i/8);obtain⟨a,b,c⟩:=u8_not_bit _ (i%8) hx.1 hx.2 (by omega);exact byte_set h _ _ a b
theorem addB_cell (bs:List Int) (i:Nat) (h:i/8<bs.length):bs.set (i/8) ((addB bs i).getD (i/8) 0)=addB bs i:=by
 unfold addB;rw[getD_set8 _ _ _ _ h,if_pos rfl]
theorem remB_cell (bs:List Int) (i:Nat) (h:i/8<bs.length):bs.set (i/8) ((remB bs i).getD (i/8) 0)=remB bs i:=by
 unfold remB;rw[getD_set8 _ _ _ _ h,if_pos rfl]
theorem Bk.addD (h:Bk w g d u k v) (i:Nat) (hi:i<256):Bk (w.setCell ⟨g,0+i/8,none⟩ (.int .u8 ((addB d i).getD (i/8) 0))) g (addB d i) u k v:=
 ⟨by rw[Nat.zero_add,heap_setCell_same _ _ _ _ _ _ h.row,bkC_set_d h.ld _ _ _ (by omega),addB_cell _ _ (by have:=h.ld;omega)],by rw[addB_len];exact h.ld,h.lu,addB_byte h.bd i,h.bu⟩
theorem Bk.remD (h:Bk w g d u k v) (i:Nat) (hi:i<256):Bk (w.setCell ⟨g,0+i/8,none⟩ (.int .u8 ((remB d i).getD (i/8) 0))) g (remB d i) u k v:=
 ⟨by rw[Nat.zero_add,heap_setCell_same _ _ _ _ _ _ h.row,bkC_set_d h.ld _ _ _ (by omega),remB_cell _ _ (by have:=h.ld;omega)],by rw[remB_len];exact h.ld,h.lu,remB_byte h.bd i,h.bu⟩
theorem Bk.addU (h:Bk w g d u k v) (i:Nat) (hi:i<256):Bk (w.setCell ⟨g,32+i/8,none⟩ (.int .u8 ((addB u i).getD (i/8) 0))) g d (addB u i) k v:=
 ⟨by rw[heap_setCell_same _ _ _ _ _ _ h.row,bkC_set_u h.ld h.lu _ _ _ (by omega),addB_cell _ _ (by have:=h.lu;omega)],h.ld,by rw[addB_len];exact h.lu,h.bd,addB_byte h.bu i⟩
theorem Bk.setK (h:Bk w g d u k v) (k':Int):Bk (w.setCell ⟨g,64,none⟩ (.int .i64 k')) g d u k' v:=
 ⟨by rw[heap_setCell_same _ _ _ _ _ _ h.row,bkC_set_k h.ld h.lu],h.ld,h.lu,h.bd,h.bu⟩
theorem Bk.setV (h:Bk w g d u k v) (v':Value):Bk (w.setCell ⟨g,65,none⟩ v') g d u k v':=
 ⟨by rw[heap_setCell_same _ _ _ _ _ _ h.row,bkC_set_v h.ld h.lu],h.ld,h.lu,h.bd,h.bu⟩
set_option maxRecDepth 100000 in
set_option maxHeartbeats 1000000 in
theorem admitted_any (a:Option Addr) (n c:Nat) (hb:Bk w g d u k (.slice a n c)) (h0:0≤k) (h1:k≤1048576) (hn:n≤1048576) :
  Calls Tryz.prog 68 #[.pointer (some ⟨g,0,none⟩)] w fun e w'=>e=.returned (.int .i64 (k+n))∧∃ q,w'=w.drewN q:=by
 have c0:=hb.ck;have c1:=hb.cv;clear hb;go_enter Tryz.func68,Tryz.ntmps68;go_wp2_with fail
 go_region
 go_wp2
 go_ret
 exact⟨rfl,1,rfl⟩
set_option maxRecDepth 100000 in
set_option maxHeartbeats 1000000 in
theorem full_any (hb:Bk w g d u k v) :
  Calls Tryz.prog 67 #[.pointer (some ⟨g,0,none⟩)] w fun e w'=>e=.returned (.bool (decide (popS d 32=16)))∧w'=w:=by
 have HB:Hid (BAt w g 0 d):=hb.batd;clear hb;go_enter Tryz.func67,Tryz.ntmps67;go_wp2_with fail;refine(size_any g 0 d _ HB.out).mono ?_;rintro e w2 ⟨rfl,rfl⟩;clear HB;by_cases hs:popS d 32=16
 ·have HD:Hid (decide (popS d 32=16)=true):=decide_eq_true hs;rw[hs];go_wp2
  go_ret
  exact⟨by rw[HD.out];rfl,rfl⟩
 ·have HD:Hid (decide (popS d 32=16)=false):=decide_eq_false hs;have HE:Hid ((((popS d 32:Nat):Int) == 16)=false):=by
   show _=_
   have:¬ (((popS d 32:Nat):Int)=16):=by omega
   simpa using this
  clear hs;go_wp2
  go_ret
  exact⟨by rw[HD.out,←HE.out];rfl,rfl⟩
end Go.Proofs.YtjdhhgaelgemcaaGreatDoor
namespace Go.Proofs.YtjdhhgaelgemcaaGreatDoor
open Go.ChangeShapes Go.WideShapes Go.ChangeAt Go.RowKit
set_option linter.unusedVariables false
variable {w w':World} {g:Nat} {d u:List Int} {k:Int} {v:Value}
set_option maxRecDepth 100000 in
set_option maxHeartbeats 1000000 in
theorem ackN_any (hb:Bk w g d u k (.slice none 0 0)) (h0:0≤k) (h1:k≤1048576) :
  Calls Tryz.prog 69 #[.pointer (some ⟨g,0,none⟩),.int .i64 k] w fun e w'=>e=.returned (.tuple #[])∧∃ q,w'=(((w.setCell ⟨g,65,none⟩ (.slice none 0 0)).drewN q).setCell ⟨g,64,none⟩ (.int .i64 k)):=by
 have c0:=hb.ck;have c1:=hb.cv;have f0:=hb.fz 64;have f1:=hb.fz 65;have hb2:=hb.setV (.slice none 0 0);have c2:=hb2.ck;have f2:=hb2.fz 64;clear hb hb2;go_enter Tryz.func69,Tryz.ntmps69;go_wp2_with fail
 go_region
 go_wp2
 go_end0
 exact⟨rfl,1,rfl⟩
def ackV (t o n c m:Nat):Value:=.slice (if c=m then some ⟨t,o,none⟩ else some ⟨t,o+m*2,none⟩) (n-m:Nat) (c-m:Nat)
set_option maxRecDepth 100000 in
set_option maxHeartbeats 1000000 in
theorem ackS_any (t o n c m:Nat) (hb:Bk w g d u k (.slice (some ⟨t,o,none⟩) n c)) (h0:0≤k) (h1:k≤1048576) (hm:m≤n) (hc:n≤c) (hn:n≤1048576) (hcm:c≤9223372036854775807) :
  Calls Tryz.prog 69 #[.pointer (some ⟨g,0,none⟩),.int .i64 (k+m)] w fun e w'=>e=.returned (.tuple #[])∧∃ q,w'=(((w.setCell ⟨g,65,none⟩ (ackV t o n c m)).drewN q).setCell ⟨g,64,none⟩ (.int .i64 (k+m))):=by
 have c0:=hb.ck;have c1:=hb.cv;have f0:=hb.fz 64;have f1:=hb.fz 65;have hb2:=hb.setV (ackV t o n c m);have c2:=hb2.ck;have f2:=hb2.fz 64;have HK:Hid ((k+(m:Int)-k).toNat=m):=by show _=_;omega
 have HV:Hid (Value.slice (if c=m then some ⟨t,o,none⟩ else some ⟨t,o+m*2,none⟩) (n-m:Nat) (c-m:Nat)=ackV t o n c m):=rfl;clear hb hb2;go_enter Tryz.func69,Tryz.ntmps69;go_wp2_with fail
 go_region
 rw[HK.out,HV.out];clear HK HV;go_wp2
 go_end0
 exact⟨rfl,1,rfl⟩
end Go.Proofs.YtjdhhgaelgemcaaGreatDoor
namespace Go.Proofs.YtjdhhgaelgemcaaGreatDoor
open Go.ChangeShapes Go.WideShapes Go.ChangeAt Go.RowKit
set_option linter.unusedVariables false
variable {w w':World} {g:Nat} {d u:List Int} {k:Int} {v:Value}
def NeG (g:Nat) (v:Value):Prop:=∀ t,v.ownBlock=some t→t≠g
def TapV (B:Nat) (w:World) (v:Value) (T:List Int) (n:Nat):Prop:=
 T.length=n*2∧((v=.slice none 0 0∧n=0)∨
  ∃ t o c,v=.slice (some ⟨t,o,none⟩) n c∧B≤t∧t<w.heap.size∧n≤c∧c≤9223372036854775807∧(∀ i,i<n*2→w.cell? ⟨t,o+i,none⟩=some (.int .i64 (T.getD i 0))∧w.frozen? ⟨t,o+i,none⟩=false)∧∃ cs,w.heap[t]?=some (.cells cs 77 (0,0))∧o+c*2≤cs.size)
theorem TapO.tapV {B:Nat} {T:List Int} {n:Nat} (h:TapO B w v T n):TapV B w v T n:=by
 have hT:T.length=n*2:=by simpa using h.1
 refine⟨hT,?_⟩;rcases h.2 with⟨h1,h2⟩|⟨t,c,cur,h1,h2,h3,h4,h5,h6,h7⟩
 ·exact .inl ⟨h1,h2⟩
 ·refine .inr ⟨t,0,c,h1,h2,(Array.getElem?_eq_some_iff.1 h3).1,h4,by unfold maxLen at h5;omega,fun i hi=>?_,cur,h3,by omega⟩;rw[Nat.zero_add];refine⟨?_,frozen_of_row _ _ _ _ _ h3⟩;subst h1;rw[World.ownsRow.cellAt h i hi];simp[show i<T.length by omega]
theorem TapV.block {B:Nat} {T:List Int} {n:Nat} (h:TapV B w v T n) (hs:w.heap.size≤w'.heap.size) (hb:∀ t,v.ownBlock=some t→t<w.heap.size→w'.heap[t]?=w.heap[t]?):TapV B w' v T n:=by
 obtain⟨h1,h2|⟨t,o,c,e,hB,ht,hc,hm,hx,cs,hcs,hsz⟩⟩:=h
 ·exact⟨h1,.inl h2⟩
 ·have hk:=hb t (by rw[e];rfl) ht;refine⟨h1,.inr ⟨t,o,c,e,hB,by omega,hc,hm,fun i hi=>?_,cs,by rw[hk];exact hcs,hsz⟩⟩;rw[World.cell?_of_block (a:=⟨t,o+i,none⟩) (w:=w) hk,World.frozen?_of_block (a:=⟨t,o+i,none⟩) (w:=w) hk];exact hx i hi
theorem TapV.drop {B t o c:Nat} {T:List Int} {n:Nat} (h:TapV B w (.slice (some ⟨t,o,none⟩) n c) T n) (m:Nat) (hm:m≤n):TapV B w (ackV t o n c m) (T.drop (m*2)) (n-m):=by
 obtain⟨h1,⟨h2,_⟩|⟨t',o',c',e,hB,ht,hc,hx,hy,cs,hcs,hsz⟩⟩:=h
 ·cases h2
 ·cases e;refine⟨by rw[List.length_drop];omega,.inr ?_⟩;unfold ackV;by_cases he:c=m
  ·rw[if_pos he];exact⟨t,o,c-m,rfl,hB,ht,by omega,by omega,fun i hi=>by omega,cs,hcs,by omega⟩
  ·rw[if_neg he];refine⟨t,o+m*2,c-m,rfl,hB,ht,by omega,by omega,fun i hi=>?_,cs,hcs,by omega⟩;have:=hy (m*2+i) (by omega);rw[←Nat.add_assoc] at this;rw[show(T.drop (m*2)).getD i 0=T.getD (m*2+i) 0 by simp[List.getD]];exact this
def ackM (k a:Int):Nat:=(max a k-k).toNat
theorem bk_ack {B H:Nat} {T:List Int} {n m q:Nat} {v':Value} {k':Int} (hb:Bk w g d u k v) (hH:H≤g) (hgB:NeG g v') (hv:TapV B w v' T n) :
  Bk (((w.setCell ⟨g,65,none⟩ v').drewN q).setCell ⟨g,64,none⟩ (.int .i64 k')) g d u k' v'∧Below H w (((w.setCell ⟨g,65,none⟩ v').drewN q).setCell ⟨g,64,none⟩ (.int .i64 k'))∧
   TapV B (((w.setCell ⟨g,65,none⟩ v').drewN q).setCell ⟨g,64,none⟩ (.int .i64 k')) v' T n:=by
 have hw:Wr g w (((w.setCell ⟨g,65,none⟩ v').drewN q).setCell ⟨g,64,none⟩ (.int .i64 k')):=(((Wr.refl _ _).setCell _ _).drewN _).setCell _ _;refine⟨((hb.setV v').drew q).setK k',hw.below hH,hv.block (by rw[hw.size];exact Nat.le_refl _) (fun t ht _=>hw.block t (hgB t ht))⟩
end Go.Proofs.YtjdhhgaelgemcaaGreatDoor
namespace Go.Proofs.YtjdhhgaelgemcaaGreatDoor
open Go.ChangeShapes Go.WideShapes Go.ChangeAt Go.RowKit
set_option linter.unusedVariables false
variable {w w':World} {g:Nat} {d u:List Int} {k:Int} {v:Value} {D U:Nat→Prop} {T:List Int} {n H B:Nat}
theorem ack_any (m:Nat) (hb:Bk w g d u k v) (hv:TapV B w v T n) (h0:0≤k) (h1:k≤1048576) (hm:m≤n) (hn:n≤1048576) (hH:H≤g) (hgB:NeG g v) :
  Calls Tryz.prog 69 #[.pointer (some ⟨g,0,none⟩),.int .i64 (k+m)] w fun e w'=>e=.returned (.tuple #[])∧Below H w w'∧∃ v',Bk w' g d u (k+m) v'∧TapV B w' v' (T.drop (m*2)) (n-m)∧NeG g v':=by
 have hv0:=hv;obtain⟨hl,⟨rfl,hn0⟩|⟨t,o,c,rfl,hB,ht,hc,hx,hy⟩⟩:=hv
 ·have hm0:m=0:=by omega
  subst hm0;rw[show k+((0:Nat):Int)=k by omega];refine(ackN_any hb h0 h1).mono ?_;rintro e w1 ⟨rfl,q,rfl⟩;obtain⟨r1,r2,r3⟩:=bk_ack (q:=q) (k':=k) (m:=0) hb hH hgB hv0;exact⟨rfl,r2,_,r1,by simpa using r3,hgB⟩
 ·refine(ackS_any t o n c m hb h0 h1 hm hc hn hx).mono ?_;rintro e w1 ⟨rfl,q,rfl⟩;have hne:NeG g (ackV t o n c m):=fun x hx=>hgB x (by unfold ackV at hx;split at hx<;>exact hx)
  obtain⟨r1,r2,r3⟩:=bk_ack (q:=q) (k':=k+m) (m:=m) hb hH hne (hv0.drop m hm);exact⟨rfl,r2,_,r1,r3,hne⟩
theorem TapV.slice (h:TapV B w v T n):∃ a c,v=.slice a n c:=by
 obtain⟨hl,⟨h1,h2⟩|⟨t,o,c,h1,_⟩⟩:=h
 ·exact⟨none,0,by rw[h1,h2]⟩
 ·exact⟨_,c,h1⟩
theorem TapV.drew (h:TapV B w v T n) (q:Nat):TapV B (w.drewN q) v T n:=h.block (Nat.le_refl _) (fun t _ _=>rfl)
end Go.Proofs.YtjdhhgaelgemcaaGreatDoor
namespace Go.Proofs.YtjdhhgaelgemcaaGreatDoor
open Go.ChangeShapes Go.WideShapes Go.ChangeAt Go.RowKit
set_option linter.unusedVariables false
variable {w w':World} {g:Nat} {d u:List Int} {k:Int} {v:Value} {D U:Nat→Prop} {T:List Int} {n H B:Nat}
theorem ser_yes {s:Nat} (h:s<256):serOk (s:Int)=true:=decide_eq_true ⟨by omega,by omega⟩
theorem hasYes_any {o:Nat} (s:Nat) (hb:BAt w g o d) (hd:SetB d D) (hin:s<256∧D s):Calls Tryz.prog 61 #[.pointer (some ⟨g,o,none⟩),.int .i64 s] w fun e w'=>e=.returned (.bool true)∧w'=w:=
 hasS_any g o s d D true w hb hd (by
  rw[Int.toNat_natCast];exact⟨fun _=>⟨by omega,by omega,hin.2⟩,fun h=>rfl⟩)
theorem hasNo_any {o:Nat} (s:Nat) (hb:BAt w g o d) (hd:SetB d D) (hin:¬ (s<256∧D s)):Calls Tryz.prog 61 #[.pointer (some ⟨g,o,none⟩),.int .i64 s] w fun e w'=>e=.returned (.bool false)∧w'=w:=
 hasS_any g o s d D false w hb hd (by
  rw[Int.toNat_natCast];exact⟨fun h=>(by cases h),fun h=>absurd ⟨by omega,h.2.2⟩ hin⟩)
theorem TapV.wr (h:TapV B w v T n) (hw:Wr g w w') (hg:NeG g v):TapV B w' v T n:=h.block (by rw[hw.size];exact Nat.le_refl _) (fun t ht _=>hw.block t (hg t ht))
end Go.Proofs.YtjdhhgaelgemcaaGreatDoor
