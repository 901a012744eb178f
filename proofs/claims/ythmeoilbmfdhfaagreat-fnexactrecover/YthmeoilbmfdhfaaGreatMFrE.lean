import Derived.Test.YthmeoilbmfdhfaaGreatMSwJa
import Derived.Test.YthmeoilbmfdhfaaGreatMSwI
import Derived.Test.YthmeoilbmfdhfaaGreatMDkB
import Derived.Test.YthmeoilbmfdhfaaGreatIDec
import Derived.WalkMore
namespace Go.Proofs.YthmeoilbmfdhfaaGreat
open Go.ChangeShapes Go.WideShapes Go.ChangeAt Go.RowKit
set_option linter.unusedVariables false
def kF (i:Nat):IntKind:=if i%4=1 then .i64 else .u32
theorem kF0 (k:Nat):kF (k*4)=.u32:=by unfold kF;rw[if_neg (by omega)]
theorem kF1 (k:Nat):kF (k*4+1)=.i64:=by unfold kF;rw[if_pos (by omega)]
theorem kF2 (k:Nat):kF (k*4+2)=.u32:=by unfold kF;rw[if_neg (by omega)]
theorem kF3 (k:Nat):kF (k*4+3)=.u32:=by unfold kF;rw[if_neg (by omega)]
def FAt (w:World) (a:Option Addr) (F:List Int):Prop:=
 F=[]∨∃ b off,a=some ⟨b,off,none⟩∧b<w.heap.size∧∀ i,i<F.length→w.cell? ⟨b,off+i,none⟩=some (.int (kF i) (F.getD i 0))
theorem FAt.get {w:World} {a:Option Addr} {F:List Int} (h:FAt w a F) (hz:0<F.length) :
  ∃ b off,a=some ⟨b,off,none⟩∧b<w.heap.size∧∀ i,i<F.length→w.cell? ⟨b,off+i,none⟩=some (.int (kF i) (F.getD i 0)):=by
 rcases h with h|h
 ·simp[h] at hz
 ·exact h
theorem FAt.below {w w':World} {a:Option Addr} {F:List Int} (h:FAt w a F) (hb:Below w.heap.size w w'):FAt w' a F:=by
 rcases h with h|⟨b,off,rfl,hl,hc⟩
 ·exact .inl h
 ·exact .inr ⟨b,off,rfl,by have:=hb.size;omega,fun i hi=>by rw[hb.cell (p:=⟨b,off+i,none⟩) hl];exact hc i hi⟩
theorem FAt.four {w:World} {b o:Nat} {F:List Int} (hc:∀ i,i<F.length→w.cell? ⟨b,o+i,none⟩=some (.int (kF i) (F.getD i 0))) (k:Nat) (hk:k*4+3<F.length) :
  w.cell? ⟨b,o+k*4,none⟩=some (.int .u32 (F.getD (k*4) 0))∧w.cell? ⟨b,o+k*4+1,none⟩=some (.int .i64 (F.getD (k*4+1) 0))∧w.cell? ⟨b,o+k*4+2,none⟩=some (.int .u32 (F.getD (k*4+2) 0))∧w.cell? ⟨b,o+k*4+3,none⟩=some (.int .u32 (F.getD (k*4+3) 0)):=by
 have h0:=hc (k*4) (by omega);have h1:=hc (k*4+1) (by omega);have h2:=hc (k*4+2) (by omega);have h3:=hc (k*4+3) (by omega);rw[kF0] at h0;rw[kF1,←Nat.add_assoc] at h1;rw[kF2,←Nat.add_assoc] at h2;rw[kF3,←Nat.add_assoc] at h3;exact⟨h0,h1,h2,h3⟩
def fC (F:List Int):Array Value:=((List.range F.length).map (fun i=>Value.int (kF i) (F.getD i 0))).toArray
theorem Tryz.infoFr:(Tryz.prog.info? 112).map (fun i=>(i.zero,i.size,i.bytes))=some (some (.agg #[.int .u32 0,.int .i64 0,.int .u32 0,.int .u32 0]),4,24):=by kernel_rfl
set_option maxHeartbeats 400000 in
theorem eqF1_any (s m x y:Int) (w:World):Calls Tryz.prog 89 #[.agg #[.int .u32 s,.int .i64 m,.int .u32 x,.int .u32 y],.agg #[.int .u32 s,.int .i64 m,.int .u32 x,.int .u32 y]] w fun e w'=>e=.returned (.bool true)∧Below w.heap.size w w':=by
 have HB:Hid (Below w.heap.size w ((w.alloc (.cells #[.int .u32 s,.int .i64 m,.int .u32 x,.int .u32 y] 112)).alloc (.cells #[.int .u32 s,.int .i64 m,.int .u32 x,.int .u32 y] 112))):=((Below.refl _ _).alloc (Nat.le_refl _) _).alloc (by simp) _;go_enter Tryz.func89,Tryz.ntmps89;go_wp2
 go_ret
 exact⟨rfl,HB.out⟩
set_option maxRecDepth 100000 in
set_option maxHeartbeats 2000000 in
theorem eqFS_any (a a':Option Addr) (n c c':Nat) (F:List Int) (w:World) (hl:F.length=n*4) (hn:n≤1048576) (ha:FAt w a F) (ha':FAt w a' F) :
  Calls Tryz.prog 42 #[.slice a n c,.slice a' n c'] w fun e w'=>e=.returned (.bool true)∧Below w.heap.size w w':=by
 have h0:((n:Int) != (n:Int))=false:=by simp
 have HLT:Hid (F.length=n*4):=hl;have HA:Hid (FAt w a F):=ha;have HA':Hid (FAt w a' F):=ha';clear hl ha ha';go_enter Tryz.func42,Tryz.ntmps42;go_wp2
 go_loopw [5] (fun i wr=>∃ k:Nat,k≤n∧i=.int .i64 k∧Below w.heap.size w wr) (fun i _=>n-(intOf i).toNat)
 case atStart=>exact⟨0,Nat.zero_le _,rfl,Below.refl _ _⟩
 case round=>
  obtain⟨k,hk,rfl,hbel⟩:=hrel;have HB:Hid (Below w.heap.size w wr):=hbel;by_cases hlt:k<n
  ·have hlt':(k:Int)<n:=by omega
   obtain⟨b,o,ea,hb,hc⟩:=(HA.out.below hbel).get (by have:=HLT.out;omega);obtain⟨b',o',ea',hb',hc'⟩:=(HA'.out.below hbel).get (by have:=HLT.out;omega);obtain⟨t0,t1,t2,t3⟩:=FAt.four hc k (by have:=HLT.out;omega);obtain⟨u0,u1,u2,u3⟩:=FAt.four hc' k (by have:=HLT.out;omega);subst ea ea';clear hc hc' hbel;generalize F.getD (k*4) 0=s at *;generalize F.getD (k*4+1) 0=m at *;generalize F.getD (k*4+2) 0=x at *;generalize F.getD (k*4+3) 0=y at *;have HC1:Hid (b<wr.heap.size∧wr.cell? ⟨b,o+k*4,none⟩=some (.int .u32 s)∧wr.cell? ⟨b,o+k*4+1,none⟩=some (.int .i64 m)∧wr.cell? ⟨b,o+k*4+2,none⟩=some (.int .u32 x)∧wr.cell? ⟨b,o+k*4+3,none⟩=some (.int .u32 y)):=⟨hb,t0,t1,t2,t3⟩
   have HC2:Hid (b'<wr.heap.size∧wr.cell? ⟨b',o'+k*4,none⟩=some (.int .u32 s)∧wr.cell? ⟨b',o'+k*4+1,none⟩=some (.int .i64 m)∧wr.cell? ⟨b',o'+k*4+2,none⟩=some (.int .u32 x)∧wr.cell? ⟨b',o'+k*4+3,none⟩=some (.int .u32 y)):=⟨hb',u0,u1,u2,u3⟩
   clear hb hb' t0 t1 t2 t3 u0 u1 u2 u3;go_wp2_with fail;refine wp_region_any (by kernel_rfl) ?_;refine wpAny_slotsU (fun _ a b=>Below a.heap.size a b) (frame:=(fun (a b c d e f g h i j k l m n o p q:Value)=>fun (t:Nat→Value)=>({ tmps:=List.toArray [a,b,c,d,e,f,g,h,i,j,k,l,m,n,o,p,q,t 0,t 1,t 2,t 3,t 4,t 5,t 6,t 7,t 8,t 9],defers:=[] }:Act)) _ _ _ _ _ _ _ _ _ _ _ _ _ _ _ _ _)
    (Ext:=fun L u w'=>ApX wr [] L u w') (Good:=fun i L w' v=>if i=0 then v=.slice (some ⟨b,o,none⟩) n c else if i=1 then v=.int .i64 k else if i=2 then v=.pointer (some ⟨b,o+k*4,none⟩) else if i=3 then v=.agg #[.int .u32 s,.int .i64 m,.int .u32 x,.int .u32 y] else if i=4 then v=.slice (some ⟨b',o',none⟩) n c' else if i=5 then v=.int .i64 k else if i=6 then v=.pointer (some ⟨b',o'+k*4,none⟩) else if i=7 then v=.agg #[.int .u32 s,.int .i64 m,.int .u32 x,.int .u32 y] else if i=8 then v=.bool true else if i=9 then v=.bool false else True) ?hstab (by kernel_rfl) ?hop ?hdone _ _ ((fun (x0 x1 x2 x3 x4 x5 x6 x7 x8 x9:Value)=>fun (i:Nat)=>if i=0 then x0 else if i=1 then x1 else if i=2 then x2 else if i=3 then x3 else if i=4 then x4 else if i=5 then x5 else if i=6 then x6 else if i=7 then x7 else if i=8 then x8 else if i=9 then x9 else undef) _ _ _ _ _ _ _ _ _ _) _ (by simp) ?ext ?start (by simp)
   case start=>intro i hi h;exact absurd h (by rw[Array.getD_eq_getD_getElem?,Array.getElem?_replicate];split<;>simp)
   case ext=>exact(ApX.start wr [] _ _ (fun i=>by rw[Array.getD_eq_getD_getElem?,Array.getElem?_replicate];split<;>rfl)).drew
   case hstab=>
    intro j L w9 w' i v hM _ _ h;exact h
   case hop=>
    intro i o L t w' ho hLi hx hdep K hK;have hi:i<10:=(Array.getElem?_eq_some_iff.1 ho).1;obtain rfl|rfl|rfl|rfl|rfl|rfl|rfl|rfl|rfl|rfl:i=0∨i=1∨i=2∨i=3∨i=4∨i=5∨i=6∨i=7∨i=8∨i=9:=by omega
    all_goals(simp at ho;subst ho)
    ·clear hdep;have hK':=hK w' (.slice (some ⟨b,o,none⟩) n c) (by simp) (hx.step 0 _ (Below.refl _ _) (fun h=>absurd h (by decide))) (Below.refl _ _);clear hK;rw[if_pos (by rfl)];go_simp;simpa[upd] using hK'
    ·clear hdep;have hK':=hK w' (.int .i64 k) (by simp) (hx.step 1 _ (Below.refl _ _) (fun h=>absurd h (by decide))) (Below.refl _ _);clear hK;rw[if_pos (by rfl)];go_simp;simpa[upd] using hK'
    ·have d0:t 0=.slice (some ⟨b,o,none⟩) n c:=by simpa using(hdep ⟨0,.data⟩ (by simp) rfl).2
     have d1:t 1=.int .i64 k:=by simpa using(hdep ⟨1,.data⟩ (by simp) rfl).2
     clear hdep;have hK':=hK w' (.pointer (some ⟨b,o+k*4,none⟩)) (by simp) (hx.step 2 _ (Below.refl _ _) (fun h=>absurd h (by decide))) (Below.refl _ _);clear hK;rw[if_pos (by rfl)];go_simp;simpa[upd,d0,d1] using hK'
    ·have d2:t 2=.pointer (some ⟨b,o+k*4,none⟩):=by simpa using(hdep ⟨2,.data⟩ (by simp) rfl).2
     clear hdep;have q0:w'.cell? ⟨b,o+k*4,none⟩=some (.int .u32 s):=by rw[hx.below.cell (p:=⟨b,o+k*4,none⟩) HC1.out.1];exact HC1.out.2.1
     have q1:w'.cell? ⟨b,o+k*4+1,none⟩=some (.int .i64 m):=by rw[hx.below.cell (p:=⟨b,o+k*4+1,none⟩) HC1.out.1];exact HC1.out.2.2.1
     have q2:w'.cell? ⟨b,o+k*4+2,none⟩=some (.int .u32 x):=by rw[hx.below.cell (p:=⟨b,o+k*4+2,none⟩) HC1.out.1];exact HC1.out.2.2.2.1
     have q3:w'.cell? ⟨b,o+k*4+3,none⟩=some (.int .u32 y):=by rw[hx.below.cell (p:=⟨b,o+k*4+3,none⟩) HC1.out.1];exact HC1.out.2.2.2.2
     have hK':=hK w' (.agg #[.int .u32 s,.int .i64 m,.int .u32 x,.int .u32 y]) (by simp) (hx.step 3 _ (Below.refl _ _) (fun h=>absurd h (by decide))) (Below.refl _ _);clear hK;rw[if_pos (by rfl)];go_simp;simpa[upd,d2] using hK'
    ·clear hdep;have hK':=hK w' (.slice (some ⟨b',o',none⟩) n c') (by simp) (hx.step 4 _ (Below.refl _ _) (fun h=>absurd h (by decide))) (Below.refl _ _);clear hK;rw[if_pos (by rfl)];go_simp;simpa[upd] using hK'
    ·clear hdep;have hK':=hK w' (.int .i64 k) (by simp) (hx.step 5 _ (Below.refl _ _) (fun h=>absurd h (by decide))) (Below.refl _ _);clear hK;rw[if_pos (by rfl)];go_simp;simpa[upd] using hK'
    ·have d4:t 4=.slice (some ⟨b',o',none⟩) n c':=by simpa using(hdep ⟨4,.data⟩ (by simp) rfl).2
     have d5:t 5=.int .i64 k:=by simpa using(hdep ⟨5,.data⟩ (by simp) rfl).2
     clear hdep;have hK':=hK w' (.pointer (some ⟨b',o'+k*4,none⟩)) (by simp) (hx.step 6 _ (Below.refl _ _) (fun h=>absurd h (by decide))) (Below.refl _ _);clear hK;rw[if_pos (by rfl)];go_simp;simpa[upd,d4,d5] using hK'
    ·have d6:t 6=.pointer (some ⟨b',o'+k*4,none⟩):=by simpa using(hdep ⟨6,.data⟩ (by simp) rfl).2
     clear hdep;have q0:w'.cell? ⟨b',o'+k*4,none⟩=some (.int .u32 s):=by rw[hx.below.cell (p:=⟨b',o'+k*4,none⟩) HC2.out.1];exact HC2.out.2.1
     have q1:w'.cell? ⟨b',o'+k*4+1,none⟩=some (.int .i64 m):=by rw[hx.below.cell (p:=⟨b',o'+k*4+1,none⟩) HC2.out.1];exact HC2.out.2.2.1
     have q2:w'.cell? ⟨b',o'+k*4+2,none⟩=some (.int .u32 x):=by rw[hx.below.cell (p:=⟨b',o'+k*4+2,none⟩) HC2.out.1];exact HC2.out.2.2.2.1
     have q3:w'.cell? ⟨b',o'+k*4+3,none⟩=some (.int .u32 y):=by rw[hx.below.cell (p:=⟨b',o'+k*4+3,none⟩) HC2.out.1];exact HC2.out.2.2.2.2
     have hK':=hK w' (.agg #[.int .u32 s,.int .i64 m,.int .u32 x,.int .u32 y]) (by simp) (hx.step 7 _ (Below.refl _ _) (fun h=>absurd h (by decide))) (Below.refl _ _);clear hK;rw[if_pos (by rfl)];go_simp;simpa[upd,d6] using hK'
    ·have d3:t 3=.agg #[.int .u32 s,.int .i64 m,.int .u32 x,.int .u32 y]:=by simpa using(hdep ⟨3,.data⟩ (by simp) rfl).2
     have d7:t 7=.agg #[.int .u32 s,.int .i64 m,.int .u32 x,.int .u32 y]:=by simpa using(hdep ⟨7,.data⟩ (by simp) rfl).2
     clear hdep;have A:=eqF1_any s m x y w';have hK':∀ ww,Below w'.heap.size w' ww→K _ ww:=fun ww hb=>hK ww (.bool true) (by simp) (hx.step 8 _ hb (fun h=>absurd h (by decide))) hb
     clear hK;rw[if_pos (by rfl)];go_simp;try simp only[d3,d7]
     refine A.mono ?_;rintro e w9 ⟨rfl,hb9⟩;have hK2:=hK' w9 hb9;clear hK' A hb9;go_simp;simpa[upd,d3,d7] using hK2
    ·have d8:t 8=.bool true:=by simpa using(hdep ⟨8,.data⟩ (by simp) rfl).2
     clear hdep;have hK':=hK w' (.bool false) (by simp) (hx.step 9 _ (Below.refl _ _) (fun h=>absurd h (by decide))) (Below.refl _ _);clear hK;rw[if_pos (by rfl)];go_simp;simpa[upd,d8] using hK'
   case hdone=>
    intro L t w' hx hg;have d9:t 9=.bool false:=by simpa using hg 9 (by decide)
    clear hg;have HBW:Hid (Below w.heap.size w w'):=HB.out.trans (hx.below.mono HB.out.size);simp only[d9];clear hx d9;go_wp2;go_roundw
    case rel=>exact⟨k+1,by omega,by go_num,HBW.out⟩
    case measure=>simp[intOf];omega
  ·have hlt':¬ ((k:Int)<n):=by omega
   clear hbel;go_wp2
   go_ret
   exact⟨rfl,HB.out⟩
def jrT (zs:List Int) (ps:List PD) (J q:Nat):List Int:=rdV zs ps (4+q%J:Nat)
def fr4 (z:List Int):List Int:=[num4 z 0,z.getD 6 0,num4 z 8,num4 z 12]
def jrOk (zs:List Int) (ps:List PD) (J q:Nat):Bool:=decB (jrT zs ps J q) && decide (num4 (jrT zs ps J q) 0=(q:Int))
def jrF (zs:List Int) (ps:List PD) (J:Nat):Nat→Nat→List Int
 |_,0=>[]
 |q,n+1=>if q<4000000000∧jrOk zs ps J q=true then fr4 (jrT zs ps J q)++jrF zs ps J (q+1) n else []
theorem jrF_no {zs:List Int} {ps:List PD} {J q n:Nat} (h:n=0∨¬ q<4000000000∨jrOk zs ps J q=false):jrF zs ps J q n=[]:=by
 cases n with
 |zero=>rfl
 |succ n=>
  show(if _ then _ else _)=_
  rw[if_neg];rintro⟨h1,h2⟩;rcases h with h|h|h
  ·omega
  ·exact h h1
  ·rw[h] at h2;cases h2
theorem jrF_yes {zs:List Int} {ps:List PD} {J q n:Nat} (h1:q<4000000000) (h2:jrOk zs ps J q=true):jrF zs ps J q (n+1)=fr4 (jrT zs ps J q)++jrF zs ps J (q+1) n:=by
 show(if _ then _ else _)=_
 rw[if_pos ⟨h1,h2⟩]
theorem fr4_len (z:List Int):(fr4 z).length=4:=rfl
theorem jrF_len (zs:List Int) (ps:List PD) (J:Nat):∀ n q,∃ k,k≤n∧(jrF zs ps J q n).length=k*4
 |0,q=>⟨0,Nat.le_refl _,rfl⟩
 |n+1,q=>by
  unfold jrF;split
  ·obtain⟨k,hk,e⟩:=jrF_len zs ps J n (q+1);exact⟨k+1,by omega,by rw[List.length_append,e,fr4_len];omega⟩
  ·exact⟨0,by omega,rfl⟩
theorem DvF.jr {L c m:Nat} {f:Int} {zs:List Int} {ps:List PD} (h:DvF L c m f zs ps) (q:Nat):(jrT zs ps (L/64-4) q).length=64∧Byte (jrT zs ps (L/64-4) q):=by
 obtain⟨b1,b2,b3,b4⟩:=h.base;have:=Nat.mod_lt q (show 0<L/64-4 by omega);exact h.rd _ (by omega)
def FO (B:Nat) (w:World) (v:Value) (F:List Int) (n:Nat):Prop:=w.ownsRow B 112 4 v n (fC F).toList
theorem fC_list (F:List Int):(fC F).toList=(List.range F.length).map (fun i=>Value.int (kF i) (F.getD i 0)):=by simp[fC]
theorem fC_app {F:List Int} (k:Nat) (hl:F.length=k*4) (s m x y:Int):(fC (F++[s,m,x,y])).toList=(fC F).toList++[.int .u32 s,.int .i64 m,.int .u32 x,.int .u32 y]:=by
 apply List.ext_getElem?;intro i;rw[fC_list,fC_list];by_cases h:i<F.length
 ·rw[List.getElem?_append_left (by simpa using h)];simp[h,show i<F.length+4 by omega,List.getD]
 ·rw[List.getElem?_append_right (by simp;omega)];by_cases h4:i<F.length+4
  ·obtain⟨j,rfl⟩:∃ j,i=F.length+j:=⟨i-F.length,by omega⟩
   have hj:j<4:=by omega
   have e:(List.map (fun i=>Value.int (kF i) ((F++[s,m,x,y]).getD i 0)) (List.range (F++[s,m,x,y]).length))[F.length+j]?=some (.int (kF (k*4+j)) (([s,m,x,y]:List Int).getD j 0)):=by
    rw[List.getElem?_map,List.getElem?_range (by simp;omega)];simp only[Option.map_some,List.getD];rw[List.getElem?_append_right (by omega),Nat.add_sub_cancel_left,hl]
   rw[e];simp only[List.length_map,List.length_range,Nat.add_sub_cancel_left];obtain rfl|rfl|rfl|rfl:j=0∨j=1∨j=2∨j=3:=by omega
   ·rw[Nat.add_zero,kF0];rfl
   ·rw[kF1];rfl
   ·rw[kF2];rfl
   ·rw[kF3];rfl
  ·rw[List.getElem?_eq_none (by simp;omega),List.getElem?_eq_none (by simp;omega)]
theorem FO.alloc {B:Nat} {w:World} {v:Value} {F:List Int} {n:Nat} (h:FO B w v F n) (o:Obj):FO B (w.alloc o) v F n:=World.ownsRow.alloc h _
theorem FO.keep {B:Nat} {w w':World} {v:Value} {F:List Int} {n:Nat} (h:FO B w v F n) (hb:∀ k,B≤k→k<w.heap.size→w'.heap[k]?=w.heap[k]?):FO B w' v F n:=by
 refine⟨h.1,?_⟩;rcases h.2 with h'|⟨g,c,cur,h1,h2,h3,h4⟩
 ·exact .inl h'
 ·exact .inr ⟨g,c,cur,h1,h2,by rw[hb g h2 (Array.getElem?_eq_some_iff.1 h3).1];exact h3,h4⟩
theorem FO.below {B:Nat} {w w':World} {v:Value} {F:List Int} {n:Nat} (h:FO B w v F n) (b:Below w.heap.size w w'):FO B w' v F n:=h.keep (fun k _ hk=>b.block k hk)
theorem FO.ownBlock {B:Nat} {w:World} {v:Value} {F:List Int} {n:Nat} (h:FO B w v F n):∀ k,v.ownBlock=some k→B≤k:=fun k hk=>by
 rcases h.2 with⟨h',_⟩|⟨g,c,cur,h',hb,_⟩
 ·rw[h'] at hk;simp[Value.ownBlock] at hk
 ·rw[h'] at hk;simp[Value.ownBlock] at hk;omega
theorem FO.len {B:Nat} {w:World} {v:Value} {F:List Int} {n:Nat} (h:FO B w v F n):F.length=n*4:=by
 have:=h.1;rw[fC_list] at this;simpa using this
theorem FO.form {B:Nat} {w:World} {v:Value} {F:List Int} {n:Nat} (h:FO B w v F n):∃ a c,v=.slice a n c∧FAt w a F∧n≤c∧Lies B w a:=by
 have hl:=h.len;rcases h.2 with⟨rfl,rfl⟩|⟨g,c,cur,rfl,hb,hg,hc,_,hs,ht⟩
 ·exact⟨none,0,rfl,.inl (List.eq_nil_of_length_eq_zero (by omega)),Nat.le_refl _,fun _ e=>(by cases e)⟩
 ·have hlt:=(Array.getElem?_eq_some_iff.1 hg).1;refine⟨_,c,rfl,.inr ⟨g,0,rfl,hlt,fun i hi=>?_⟩,hc,fun ad e=>(by cases e;exact⟨hb,hlt⟩)⟩;rw[Nat.zero_add,cell_of_row w g i _ _ _ hg];have e:(cur.toList.take (n*4))[i]?=(fC F).toList[i]?:=by rw[ht]
  rw[List.getElem?_take_of_lt (by omega),fC_list] at e;rw[List.getElem?_map,List.getElem?_range hi] at e;rw[←Array.getElem?_toList,e];rfl
theorem wpList_appF (w:World) {ops:Array Oper} {rest:List Oper} {o:Oper} {a:Act} {Q:Exit→Act→World→Prop} (hg:o.guard=none) (sx x:Operand)
  (hop:o.op=Op.call { callee:=Callee.builtin Builtin.append,args:=#[sx,x],argTypes:=#[31,31] }) (B:Nat) (v:Value) (F:List Int) (n:Nat) (hs:a.eval sx=v) (hown:FO B w v F n)
  (wb:World) (s m p y:Int) (hw:w=wb.alloc (.cells #[.int .u32 s,.int .i64 m,.int .u32 p,.int .u32 y] 112)) (hx:a.eval x=.slice (some ⟨wb.heap.size,0,none⟩) 1 1) (hm:n≤1048576) (hB:B≤w.heap.size)
  (hK:∀ v' w',FO B w' v' (F++[s,m,p,y]) (n+1)→Below B w w'→wpList Tryz.prog ops Q rest (a.put o.dst v') w') :
  wpList Tryz.prog ops Q (o::rest) a w:=by
 obtain⟨i0,hi,hz0,hz1,hz2⟩:=info_parts Tryz.infoFr;have hl:=hown.len;refine wpList_append_own_at w hg sx x 31 hop B 112 i0 (.agg #[.int .u32 0,.int .i64 0,.int .u32 0,.int .u32 0]) 4 24 Tryz.underlying31 hi hz0 hz1 hz2 rfl (by decide) v n _ hs hown ⟨wb.heap.size,0,none⟩ 1 1 [.int .u32 s,.int .i64 m,.int .u32 p,.int .u32 y] hx rfl ?_ (by simp[Value.oneCell']) (by unfold maxLen;omega) (by omega) hB ?_
 ·intro j z hz;have hj:j<4:=by have:=(List.getElem?_eq_some_iff.1 hz).1;simpa using this
  rw[Addr.add_lit,hw,cell_of_row _ _ _ _ _ _ (heap_alloc_new wb _),Nat.zero_add];obtain rfl|rfl|rfl|rfl:j=0∨j=1∨j=2∨j=3:=by omega
  all_goals simpa using hz
 intro v' w' h1 h2 _ h5;refine hK v' w' ?_ ((Below.refl _ _).grown h2 hB hown.ownBlock);unfold FO;rw[fC_app n hl];exact h1
theorem run_sliceS (w:World) (g:Nat):(Instr.sliceAt 122 (.pointer (some ⟨g,0,none⟩)) none none none).run Tryz.prog w=.ok (.slice (some ⟨g,0,none⟩) 64 64) w:=by
 unfold Instr.sliceAt;simp[run_underlying Tryz.underlying122,go_sem,Instr.sliceBounds,Addr.add]
structure JX (w:World) (zs:List Int) (ps:List PD) (J tl k:Nat) (v:Value) (wr:World):Prop where
 bel:Below w.heap.size w wr
 fo:∃ F,FO w.heap.size wr v F k∧F++jrF zs ps J (tl+k) (J-k)=jrF zs ps J tl J
set_option maxRecDepth 100000 in
set_option maxHeartbeats 4000000 in
theorem journal_any {w:World} {g:Nat} {a x:Option Addr} {L c m cx:Nat} {f:Int} {d:Bool} {zs:List Int} {ps:List PD} (h:DvI w g a x L c m cx f d zs ps) (F:DvF L c m f zs ps) (tl:Nat) (ht:tl≤4000000000) :
  Calls Tryz.prog 36 #[.pointer (some ⟨g,0,none⟩),.int .u32 (tl:Int)] w fun e w'=>∃ v n,e=.returned v∧FO w.heap.size w' v (jrF zs ps (L/64-4) tl (L/64-4)) n∧Below w.heap.size w w':=by
 have HD:=hid_ofL h;have hJ1:4≤L/64-4:=by have:=F.base;omega
 have hJ2:L/64-4≤252:=by have:=F.base;omega
 have HJS:=hid_ofL (fun ww (hi:DvI ww g a x L c m cx f d zs ps)=>jsec_any hi F);have HFS:=hid_ofL (fun ww (hi:DvI ww g a x L c m cx f d zs ps) q hq=>fsec_any hi F q hq);have HRD:=hid_ofL (fun ww (hi:DvI ww g a x L c m cx f d zs ps) q (hq:q<L/64-4)=>read_any g a x L c m cx f (4+q) d zs ps ww hi.row (by have:=F.base;omega) F.hc F.hl F.hm (by have:=F.base;omega) (by have:=F.base;omega) hi.at_ hi.pat (fun i hi=>F.len i hi));have HTX:=hid_ofL (fun q=>F.jr q);have HSR:Hid ((Tryz.prog.info? 114).map (·.size)=some 5):=by show _=_;kernel_rfl
 have HSF:Hid ((Tryz.prog.info? 112).map (·.size)=some 4):=by show _=_;kernel_rfl
 have hsl:=fun w=>run_sliceS w
 clear h F;generalize L/64-4=J at *;have hJ3:(J:Int)≤252:=by omega
 obtain⟨ti,hti⟩:∃ t:Int,(tl:Int)=t:=⟨_,rfl⟩
 have ht0:0≤ti:=by omega
 have ht1:ti≤4000000000:=by omega
 rw[hti];have HTI:=hid_ofL hti;clear hti ht;go_enter Tryz.func36,Tryz.ntmps36;go_wp2
 go_step3
 go_wp2
 go_step3
 go_wp2
 go_loopw [5,6] (fun v i wr=>∃(k:Nat) (qi:Int),k≤J∧qi=ti+k∧i=.int .u32 qi∧JX w zs ps J tl k v wr) (fun _ i _=>4294967296-(intOf i).toNat)
 case atStart=>exact⟨0,ti,Nat.zero_le _,by simp,rfl,Below.refl _ _,[],⟨rfl,.inl ⟨rfl,rfl⟩⟩,rfl⟩
 case round=>
  obtain⟨k,qi,hk,hqi,rfl,hX⟩:=hrel;have HX:=hid_ofL hX;have hq0:0≤qi:=by omega
  have hq1:qi≤4000000252:=by omega
  have hsub:(qi-ti)%4294967296=(k:Int):=by omega
  have HQN:Hid (((tl+k:Nat):Int)=qi):=by show _=_;have:=HTI.out;omega
  have HQI:=hid_ofL hqi;clear hX hqi;have HD1:=hid_ofL (HD.out.below HX.out.bel);by_cases hlt':qi<4000000000
  ·have HLT:Hid (tl+k<4000000000):=by show _<_;have:=HQN.out;omega
   go_wp2_with fail;refine(HJS.out _ HD1.out).mono ?_;rintro e w9 ⟨rfl,h9⟩;obtain rfl:wr=w9:=h9.symm;by_cases hkJ:k<J
   ·have hkJ':(k:Int)<(J:Int):=by omega
    go_wp2_with fail;obtain⟨sN,hsN⟩:∃ s:Nat,4+(tl+k)%J=s:=⟨_,rfl⟩
    have B:=hid_ofL (HFS.out _ HD1.out (tl+k) (by have:=HLT.out;omega));have A:=hid_ofL (HRD.out _ HD1.out ((tl+k)%J) (Nat.mod_lt _ (by omega)));rw[HQN.out,hsN] at B;rw[hsN] at A;have HSN:=hid_ofL hsN;clear hsN;refine B.out.mono ?_;rintro e w9 ⟨rfl,h9⟩;obtain rfl:wr=w9:=h9.symm;clear B;go_wp2_with fail;refine A.out.mono ?_;rintro e w1 ⟨rfl,b1⟩;have HTK:=hid_ofL (HTX.out (tl+k));have HE:Hid (rdV zs ps (sN:Nat)=jrT zs ps J (tl+k)):=by show _=_;rw[←HSN.out];rfl
    rw[HE.out];have HYS:=hid_ofL (fun (h1:decB (jrT zs ps J (tl+k))=true) (h2:num4 (jrT zs ps J (tl+k)) 0=qi)=>jrF_yes (n:=J-(k+1)) HLT.out (show jrOk zs ps J (tl+k)=true by unfold jrOk;rw[h1,HQN.out,decide_eq_true h2];rfl));have HNO:=hid_ofL (fun (h1:decB (jrT zs ps J (tl+k))=false∨¬ num4 (jrT zs ps J (tl+k)) 0=qi)=>jrF_no (n:=J-k) (.inr (.inr (show jrOk zs ps J (tl+k)=false by unfold jrOk;rw[HQN.out];rcases h1 with h|h<;>simp[h]))));have HXF:=hid_ofL (And.intro (HX.out.bel.trans (b1.mono HX.out.bel.size)) HX.out.fo);have HB1:=hid_ofL b1;clear A b1 HE HX;generalize jrT zs ps J (tl+k)=z at *;have hsz:(z.map (Value.int .u8)).toArray.size=64:=by rw[List.size_toArray,List.length_map];exact HTK.out.1
    have HSS:Hid ((Tryz.prog.info? 122).map (·.size)=some (z.map (Value.int .u8)).toArray.size):=by show _=_;rw[hsz];kernel_rfl
    have HOK:Hid ((z.map (Value.int .u8)).toArray.all (fun x=>x.oneCell')=true):=by show _=_;simp[Value.oneCell']
    have HB2:Hid (Below w1.heap.size w1 (w1.alloc (.cells (z.map (Value.int .u8)).toArray 122))):=(Below.refl _ _).alloc (Nat.le_refl _) _;have HR2:Hid ((w1.alloc (.cells (z.map (Value.int .u8)).toArray 122)).heap[w1.heap.size]?=some (.cells (z.map (Value.int .u8)).toArray 122 (0,0))):=heap_alloc_new w1 _;unfold secV;clear hsz;go_wp2_with (first
     |(refine wpList_store_row rfl 122 (.tmp 7) (.tmp 26) rfl w1.heap.size ((z.map (Value.int .u8)).toArray) rfl rfl 122 _ (heap_alloc_new w1 _) HSS.out (by simp[HTK.out.1]) HOK.out ?_)
     |fail)
    rw[World.setRow_alloc_new];have HB3:=hid_ofL (HB1.out.trans (HB2.out.mono HB1.out.size));have HX3:=hid_ofL (And.intro (HXF.out.1.trans (HB2.out.mono HXF.out.1.size)) HXF.out.2);clear HB1 HB2 HXF HSS HOK;generalize w1.alloc (.cells (z.map (Value.int .u8)).toArray 122)=w2 at *;have hlt2:=(Array.getElem?_eq_some_iff.1 HR2.out).1;have A:=hid_ofL (idec_64 (some ⟨w1.heap.size,0,none⟩) 64 z w2 HTK.out.1 HTK.out.2 (.inr ⟨w1.heap.size,0,rfl,hlt2,fun i hi=>by rw[Nat.zero_add,cell_of_row w2 _ i _ _ _ HR2.out];simp[hi]⟩));clear HR2 hlt2;go_wp2_with fail;refine A.out.mono ?_;rintro e w3 ⟨rfl,b3⟩;have HB4:=hid_ofL (HB3.out.trans (b3.mono HB3.out.size));have HX4:=hid_ofL (And.intro (HX3.out.1.trans (b3.mono HX3.out.1.size)) HX3.out.2);clear A b3 HB3 HX3 HTX HFS HRD HJS;cases hdec:decB z with
    |false=>
     rw[decV_no hdec];unfold fNo;have HN:=hid_ofL (HNO.out (.inl hdec));clear HYS HNO;have HB5:Hid (Below w3.heap.size w3 ((w3.alloc (.cells #[.bool false,.int .u32 0,.int .i64 0,.int .u32 0,.int .u32 0] 114)).setRow w3.heap.size #[.bool false,.int .u32 0,.int .i64 0,.int .u32 0,.int .u32 0])):=((Below.refl _ _).alloc (Nat.le_refl _) _).trans ((Wr.setRow _ _ _).below (Nat.le_refl _));have HR5:Hid (((w3.alloc (.cells #[.bool false,.int .u32 0,.int .i64 0,.int .u32 0,.int .u32 0] 114)).setRow w3.heap.size #[.bool false,.int .u32 0,.int .i64 0,.int .u32 0,.int .u32 0]).heap[w3.heap.size]?=some (.cells #[.bool false,.int .u32 0,.int .i64 0,.int .u32 0,.int .u32 0] 114 (0,0))):=setRow_heap _ _ _ _ _ _ (heap_alloc_new w3 _)
     go_upto_region 8 with (first
      |(refine wpList_store_row rfl 114 (.tmp 8) (.tmp 28) rfl w3.heap.size #[.bool false,.int .u32 0,.int .i64 0,.int .u32 0,.int .u32 0] rfl rfl 114 _ (heap_alloc_new w3 _) HSR.out rfl (all5 _ _ _ _ _) ?_)
      |fail)
     have HX5:=hid_ofL (And.intro (HX4.out.1.trans (HB5.out.mono HX4.out.1.size)) HX4.out.2);have HB6:=hid_ofL (HB4.out.trans (HB5.out.mono HB4.out.size));clear HX4 HB4 HB5;generalize (w3.alloc (.cells #[.bool false,.int .u32 0,.int .i64 0,.int .u32 0,.int .u32 0] 114)).setRow w3.heap.size #[.bool false,.int .u32 0,.int .i64 0,.int .u32 0,.int .u32 0]=w4 at *;generalize w3.heap.size=Q at *;have c0:=cell_of_row w4 Q 0 _ _ _ HR5.out;simp at c0;obtain⟨G,hG,hE⟩:=HX5.out.2;rw[HN.out,List.append_nil] at hE;have HF:Hid (FO w.heap.size w4 u5 (jrF zs ps J tl J) k∧Below w.heap.size w w4):=by rw[←hE];exact⟨hG.below HB6.out,HX5.out.1⟩
     clear hG hE HX5 HN HR5 HB6;go_wp2;try rw[Exit.noGoto_ret]
     go_ret
     exact⟨_,_,rfl,HF.out.1,HF.out.2⟩
    |true=>
     rw[decV_yes hdec];unfold fOk;have u0:=num4_u32 z HTK.out.2 0;have HFR:Hid (fr4 z=[num4 z 0,z.getD 6 0,num4 z 8,num4 z 12]):=rfl;have HYS2:=hid_ofL (HYS.out hdec);have HNO2:=hid_ofL (fun h=>HNO.out (.inr h));clear HYS HNO hdec;rw[HFR.out] at HYS2;generalize num4 z 0=s at *;generalize z.getD 6 0=kd at *;generalize num4 z 8=p at *;generalize num4 z 12=y at *;clear HTK HFR;have HB5:Hid (Below w3.heap.size w3 ((w3.alloc (.cells #[.bool false,.int .u32 0,.int .i64 0,.int .u32 0,.int .u32 0] 114)).setRow w3.heap.size #[.bool true,.int .u32 s,.int .i64 kd,.int .u32 p,.int .u32 y])):=((Below.refl _ _).alloc (Nat.le_refl _) _).trans ((Wr.setRow _ _ _).below (Nat.le_refl _));have HR5:Hid (((w3.alloc (.cells #[.bool false,.int .u32 0,.int .i64 0,.int .u32 0,.int .u32 0] 114)).setRow w3.heap.size #[.bool true,.int .u32 s,.int .i64 kd,.int .u32 p,.int .u32 y]).heap[w3.heap.size]?=some (.cells #[.bool true,.int .u32 s,.int .i64 kd,.int .u32 p,.int .u32 y] 114 (0,0))):=setRow_heap _ _ _ _ _ _ (heap_alloc_new w3 _)
     go_upto_region 8 with (first
      |(refine wpList_store_row rfl 114 (.tmp 8) (.tmp 28) rfl w3.heap.size #[.bool true,.int .u32 s,.int .i64 kd,.int .u32 p,.int .u32 y] rfl rfl 114 _ (heap_alloc_new w3 _) HSR.out rfl (all5 _ _ _ _ _) ?_)
      |fail)
     have HX5:=hid_ofL (And.intro (HX4.out.1.trans (HB5.out.mono HX4.out.1.size)) HX4.out.2);have HB6:=hid_ofL (HB4.out.trans (HB5.out.mono HB4.out.size));clear HX4 HB4 HB5;generalize (w3.alloc (.cells #[.bool false,.int .u32 0,.int .i64 0,.int .u32 0,.int .u32 0] 114)).setRow w3.heap.size #[.bool true,.int .u32 s,.int .i64 kd,.int .u32 p,.int .u32 y]=w4 at *;generalize w3.heap.size=Q at *;have c0:=cell_of_row w4 Q 0 _ _ _ HR5.out;have c1:=cell_of_row w4 Q 1 _ _ _ HR5.out;have c2:=cell_of_row w4 Q 2 _ _ _ HR5.out;have c3:=cell_of_row w4 Q 3 _ _ _ HR5.out;have c4:=cell_of_row w4 Q 4 _ _ _ HR5.out;simp at c0 c1 c2 c3 c4;by_cases hs:s=qi
     ·have hs':(s != qi)=false:=by simp[hs]
      obtain⟨G,hG,hE⟩:=HX5.out.2;have HQ:Hid ((G++[s,kd,p,y])++jrF zs ps J (tl+(k+1)) (J-(k+1))=jrF zs ps J tl J):=by
       show _=_
       have e:=HYS2.out hs;rw[show J-(k+1)+1=J-k by omega] at e;rw[←hE,e,List.append_assoc];rfl
      have hGO:=hG.below HB6.out;have hsz6:=HX5.out.1.size;have HA:=hid_ofL (hGO.alloc (.cells #[.int .u32 s,.int .i64 kd,.int .u32 p,.int .u32 y] 112));have HBF:=hid_ofL HX5.out.1;clear hG hE hGO HYS2 HNO2 HX5 HB6;subst hs;clear hs';have hs':(s != s)=false:=by simp
      go_wp2_with (at_builtin;refine wpList_appF _ rfl _ _ rfl w.heap.size _ G k rfl HA.out w4 s kd p y rfl rfl ?f1 ?f2 ?_)
      case f1=>omega
      case f2=>rw[World.size_alloc];omega
      intro v' w5 hO5 hB5;have HJ:Hid (JX w zs ps J tl (k+1) v' w5):=⟨(HBF.out.alloc hsz6 _).trans hB5,_,hO5,HQ.out⟩
      clear hO5 hB5 HA HBF HQ HR5 c0 c1 c2 c3 c4;go_wp2;go_roundw
      case rel=>exact⟨k+1,s+1,by omega,by have:=HQI.out;omega,by go_num,HJ.out⟩
      case measure=>simp[intOf];omega
     ·have hs':(s != qi)=true:=by simp[hs]
      have HN:=hid_ofL (HNO2.out hs);clear HYS2 HNO2;obtain⟨G,hG,hE⟩:=HX5.out.2;rw[HN.out,List.append_nil] at hE;have HF:Hid (FO w.heap.size w4 u5 (jrF zs ps J tl J) k∧Below w.heap.size w w4):=by rw[←hE];exact⟨hG.below HB6.out,HX5.out.1⟩
      clear hG hE HX5 HN HR5 HB6;go_wp2;try rw[Exit.noGoto_ret]
      go_ret
      exact⟨_,_,rfl,HF.out.1,HF.out.2⟩
   ·have hkJ':¬ (k:Int)<(J:Int):=by omega
    obtain rfl:k=J:=by omega
    obtain⟨G,hG,hE⟩:=HX.out.fo;rw[Nat.sub_self,jrF_no (.inl rfl),List.append_nil] at hE;have HF:Hid (FO w.heap.size wr u5 (jrF zs ps k tl k) k∧Below w.heap.size w wr):=by rw[←hE];exact⟨hG,HX.out.bel⟩
    clear hG hE HX HJS HFS HRD HTX;go_wp2;try rw[Exit.noGoto_ret]
    go_ret
    exact⟨_,_,rfl,HF.out.1,HF.out.2⟩
  ·have HNL:Hid (jrF zs ps J (tl+k) (J-k)=[]):=jrF_no (.inr (.inl (by have:=HQN.out;omega)));obtain⟨G,hG,hE⟩:=HX.out.fo;rw[HNL.out,List.append_nil] at hE;have HF:Hid (FO w.heap.size wr u5 (jrF zs ps J tl J) k∧Below w.heap.size w wr):=by rw[←hE];exact⟨hG,HX.out.bel⟩
   clear hG hE HX HJS HFS HRD HTX HNL;go_wp2;try rw[Exit.noGoto_ret]
   go_ret
   exact⟨_,_,rfl,HF.out.1,HF.out.2⟩
end Go.Proofs.YthmeoilbmfdhfaaGreat
