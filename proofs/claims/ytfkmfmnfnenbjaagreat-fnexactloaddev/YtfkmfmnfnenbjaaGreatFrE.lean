import Derived.Test.YtfkmfmnfnenbjaaGreatMCpA
import Derived.Test.YtfkmfmnfnenbjaaGreatMSvEa
namespace Go.Proofs.YtfkmfmnfnenbjaaGreat
open Go.ChangeShapes Go.WideShapes Go.ChangeAt Go.RowKit
set_option linter.unusedVariables false
def kF (i:Nat):IntKind:=if i%4=1 then .i64 else .u32
theorem kF0 (k:Nat):kF (k*4)=.u32:=by unfold kF;rw[if_neg (by omega)]
theorem kF1 (k:Nat):kF (k*4+1)=.i64:=by unfold kF;rw[if_pos (by omega)]
theorem kF2 (k:Nat):kF (k*4+2)=.u32:=by unfold kF;rw[if_neg (by omega)]
theorem kF3 (k:Nat):kF (k*4+3)=.u32:=by unfold kF;rw[if_neg (by omega)]
def FAt (w:World) (a:Option Addr) (F:List Int):Prop:=
 F=[]∨∃ b off,a=some ⟨b,off,none⟩∧b<w.heap.size∧∀ i,i<F.length→w.cell? ⟨b,off+i,none⟩=some (.int (kF i) (F.getD i 0))
theorem FAt.get {w:World} {a:Option Addr} {F:List Int} (h:FAt w a F) (hz:0<F.length) :
  ∃ b off,a=some ⟨b,off,none⟩∧b<w.heap.size∧∀ i,i<F.length→w.cell? ⟨b,off+i,none⟩=some (.int (kF i) (F.getD i 0)):=by
 rcases h with h|h
 ·simp[h] at hz
 ·exact h
theorem FAt.below {w w':World} {a:Option Addr} {F:List Int} (h:FAt w a F) (hb:Below w.heap.size w w'):FAt w' a F:=by
 rcases h with h|⟨b,off,rfl,hl,hc⟩
 ·exact .inl h
 ·exact .inr ⟨b,off,rfl,by have:=hb.size;omega,fun i hi=>by rw[hb.cell (p:=⟨b,off+i,none⟩) hl];exact hc i hi⟩
theorem FAt.four {w:World} {b o:Nat} {F:List Int} (hc:∀ i,i<F.length→w.cell? ⟨b,o+i,none⟩=some (.int (kF i) (F.getD i 0))) (k:Nat) (hk:k*4+3<F.length) :
  w.cell? ⟨b,o+k*4,none⟩=some (.int .u32 (F.getD (k*4) 0))∧w.cell? ⟨b,o+k*4+1,none⟩=some (.int .i64 (F.getD (k*4+1) 0))∧w.cell? ⟨b,o+k*4+2,none⟩=some (.int .u32 (F.getD (k*4+2) 0))∧w.cell? ⟨b,o+k*4+3,none⟩=some (.int .u32 (F.getD (k*4+3) 0)):=by
 have h0:=hc (k*4) (by omega);have h1:=hc (k*4+1) (by omega);have h2:=hc (k*4+2) (by omega);have h3:=hc (k*4+3) (by omega)
 rw[kF0] at h0;rw[kF1,←Nat.add_assoc] at h1;rw[kF2,←Nat.add_assoc] at h2;rw[kF3,←Nat.add_assoc] at h3
 exact⟨h0,h1,h2,h3⟩
def fC (F:List Int):Array Value:=((List.range F.length).map (fun i=>Value.int (kF i) (F.getD i 0))).toArray
theorem RowV.fat {w:World} {g:Nat} {t:TypeId} {F:List Int} (h:RowV w g t (fC F)):FAt w (some ⟨g,0,none⟩) F:=
 .inr ⟨g,0,rfl,h.lt,fun i hi=>by rw[Nat.zero_add,cell_of_row w g i _ _ _ h];simp[fC,hi]⟩
theorem row_fullF {cur:Array Value} {F:List Int} {m:Nat} (hs:cur.size=m) (hl:F.length=m) (h:∀ i,i<m→cur[i]?=some (.int (kF i) (F.getD i 0))):cur=fC F:=by
 apply Array.ext_getElem?
 intro i
 by_cases hi:i<m
 ·rw[h i hi];simp[fC,show i<F.length by omega]
 ·rw[Array.getElem?_eq_none (by omega),Array.getElem?_eq_none (by simp[fC];omega)]
theorem Tryz.infoFr:(Tryz.prog.info? 89).map (fun i=>(i.zero,i.size,i.bytes))=some (some (.agg #[.int .u32 0,.int .i64 0,.int .u32 0,.int .u32 0]),4,24):=by kernel_rfl
set_option maxHeartbeats 400000 in
theorem eqF1_any (s m x y:Int) (w:World):Calls Tryz.prog 66 #[.agg #[.int .u32 s,.int .i64 m,.int .u32 x,.int .u32 y],.agg #[.int .u32 s,.int .i64 m,.int .u32 x,.int .u32 y]] w fun e w'=>e=.returned (.bool true)∧Below w.heap.size w w':=by
 have HB:Hid (Below w.heap.size w ((w.alloc (.cells #[.int .u32 s,.int .i64 m,.int .u32 x,.int .u32 y] 89)).alloc (.cells #[.int .u32 s,.int .i64 m,.int .u32 x,.int .u32 y] 89))):=((Below.refl _ _).alloc (Nat.le_refl _) _).alloc (by simp) _
 go_enter Tryz.func66,Tryz.ntmps66
 go_wp2
 go_ret
 exact⟨rfl,HB.out⟩
set_option maxRecDepth 100000 in
set_option maxHeartbeats 2000000 in
theorem eqFS_any (a a':Option Addr) (n c c':Nat) (F:List Int) (w:World) (hl:F.length=n*4) (hn:n≤1048576) (ha:FAt w a F) (ha':FAt w a' F) :
  Calls Tryz.prog 31 #[.slice a n c,.slice a' n c'] w fun e w'=>e=.returned (.bool true)∧Below w.heap.size w w':=by
 have h0:((n:Int) != (n:Int))=false:=by simp
 have HLT:Hid (F.length=n*4):=hl
 have HA:Hid (FAt w a F):=ha
 have HA':Hid (FAt w a' F):=ha'
 clear hl ha ha'
 go_enter Tryz.func31,Tryz.ntmps31
 go_wp2
 go_loopw [5] (fun i wr=>∃ k:Nat,k≤n∧i=.int .i64 k∧Below w.heap.size w wr) (fun i _=>n-(intOf i).toNat)
 case atStart=>exact⟨0,Nat.zero_le _,rfl,Below.refl _ _⟩
 case round=>
  obtain⟨k,hk,rfl,hbel⟩:=hrel;have HB:Hid (Below w.heap.size w wr):=hbel;by_cases hlt:k<n
  ·have hlt':(k:Int)<n:=by omega
   obtain⟨b,o,ea,hb,hc⟩:=(HA.out.below hbel).get (by have:=HLT.out;omega);obtain⟨b',o',ea',hb',hc'⟩:=(HA'.out.below hbel).get (by have:=HLT.out;omega);obtain⟨t0,t1,t2,t3⟩:=FAt.four hc k (by have:=HLT.out;omega);obtain⟨u0,u1,u2,u3⟩:=FAt.four hc' k (by have:=HLT.out;omega);subst ea ea';clear hc hc' hbel;generalize F.getD (k*4) 0=s at *;generalize F.getD (k*4+1) 0=m at *;generalize F.getD (k*4+2) 0=x at *;generalize F.getD (k*4+3) 0=y at *;have HC1:Hid (b<wr.heap.size∧wr.cell? ⟨b,o+k*4,none⟩=some (.int .u32 s)∧wr.cell? ⟨b,o+k*4+1,none⟩=some (.int .i64 m)∧wr.cell? ⟨b,o+k*4+2,none⟩=some (.int .u32 x)∧wr.cell? ⟨b,o+k*4+3,none⟩=some (.int .u32 y)):=⟨hb,t0,t1,t2,t3⟩
   have HC2:Hid (b'<wr.heap.size∧wr.cell? ⟨b',o'+k*4,none⟩=some (.int .u32 s)∧wr.cell? ⟨b',o'+k*4+1,none⟩=some (.int .i64 m)∧wr.cell? ⟨b',o'+k*4+2,none⟩=some (.int .u32 x)∧wr.cell? ⟨b',o'+k*4+3,none⟩=some (.int .u32 y)):=⟨hb',u0,u1,u2,u3⟩
   clear hb hb' t0 t1 t2 t3 u0 u1 u2 u3;go_wp2_with fail;refine wp_region_any (by kernel_rfl) ?_;refine wpAny_slotsU (fun _ a b=>Below a.heap.size a b) (frame:=(fun (a b c d e f g h i j k l m n o p q:Value)=>fun (t:Nat→Value)=>({ tmps:=List.toArray [a,b,c,d,e,f,g,h,i,j,k,l,m,n,o,p,q,t 0,t 1,t 2,t 3,t 4,t 5,t 6,t 7,t 8,t 9],defers:=[] }:Act)) _ _ _ _ _ _ _ _ _ _ _ _ _ _ _ _ _)
    (Ext:=fun L u w'=>ApX wr [] L u w') (Good:=fun i L w' v=>if i=0 then v=.slice (some ⟨b,o,none⟩) n c else if i=1 then v=.int .i64 k else if i=2 then v=.pointer (some ⟨b,o+k*4,none⟩) else if i=3 then v=.agg #[.int .u32 s,.int .i64 m,.int .u32 x,.int .u32 y] else if i=4 then v=.slice (some ⟨b',o',none⟩) n c' else if i=5 then v=.int .i64 k else if i=6 then v=.pointer (some ⟨b',o'+k*4,none⟩) else if i=7 then v=.agg #[.int .u32 s,.int .i64 m,.int .u32 x,.int .u32 y] else if i=8 then v=.bool true else if i=9 then v=.bool false else True) ?hstab (by kernel_rfl) ?hop ?hdone _ _ ((fun (x0 x1 x2 x3 x4 x5 x6 x7 x8 x9:Value)=>fun (i:Nat)=>if i=0 then x0 else if i=1 then x1 else if i=2 then x2 else if i=3 then x3 else if i=4 then x4 else if i=5 then x5 else if i=6 then x6 else if i=7 then x7 else if i=8 then x8 else if i=9 then x9 else undef) _ _ _ _ _ _ _ _ _ _) _ (by simp) ?ext ?start (by simp)
   case start=>intro i hi h;exact absurd h (by rw[Array.getD_eq_getD_getElem?,Array.getElem?_replicate];split<;>simp)
   case ext=>exact(ApX.start wr [] _ _ (fun i=>by rw[Array.getD_eq_getD_getElem?,Array.getElem?_replicate];split<;>rfl)).drew
   case hstab=>
    intro j L w9 w' i v hM _ _ h;exact h
   case hop=>
    intro i o L t w' ho hLi hx hdep K hK;have hi:i<10:=(Array.getElem?_eq_some_iff.1 ho).1;obtain rfl|rfl|rfl|rfl|rfl|rfl|rfl|rfl|rfl|rfl:i=0∨i=1∨i=2∨i=3∨i=4∨i=5∨i=6∨i=7∨i=8∨i=9:=by omega
    all_goals(simp at ho;subst ho)
    ·clear hdep;have hK':=hK w' (.slice (some ⟨b,o,none⟩) n c) (by simp) (hx.step 0 _ (Below.refl _ _) (fun h=>absurd h (by decide))) (Below.refl _ _);clear hK;rw[if_pos (by rfl)];go_simp;simpa[upd] using hK'
    ·clear hdep;have hK':=hK w' (.int .i64 k) (by simp) (hx.step 1 _ (Below.refl _ _) (fun h=>absurd h (by decide))) (Below.refl _ _);clear hK;rw[if_pos (by rfl)];go_simp;simpa[upd] using hK'
    ·have d0:t 0=.slice (some ⟨b,o,none⟩) n c:=by simpa using(hdep ⟨0,.data⟩ (by simp) rfl).2
     have d1:t 1=.int .i64 k:=by simpa using(hdep ⟨1,.data⟩ (by simp) rfl).2
     clear hdep;have hK':=hK w' (.pointer (some ⟨b,o+k*4,none⟩)) (by simp) (hx.step 2 _ (Below.refl _ _) (fun h=>absurd h (by decide))) (Below.refl _ _);clear hK;rw[if_pos (by rfl)];go_simp;simpa[upd,d0,d1] using hK'
    ·have d2:t 2=.pointer (some ⟨b,o+k*4,none⟩):=by simpa using(hdep ⟨2,.data⟩ (by simp) rfl).2
     clear hdep;have q0:w'.cell? ⟨b,o+k*4,none⟩=some (.int .u32 s):=by rw[hx.below.cell (p:=⟨b,o+k*4,none⟩) HC1.out.1];exact HC1.out.2.1
     have q1:w'.cell? ⟨b,o+k*4+1,none⟩=some (.int .i64 m):=by rw[hx.below.cell (p:=⟨b,o+k*4+1,none⟩) HC1.out.1];exact HC1.out.2.2.1
     have q2:w'.cell? ⟨b,o+k*4+2,none⟩=some (.int .u32 x):=by rw[hx.below.cell (p:=⟨b,o+k*4+2,none⟩) HC1.out.1];exact HC1.out.2.2.2.1
     have q3:w'.cell? ⟨b,o+k*4+3,none⟩=some (.int .u32 y):=by rw[hx.below.cell (p:=⟨b,o+k*4+3,none⟩) HC1.out.1];exact HC1.out.2.2.2.2
     have hK':=hK w' (.agg #[.int .u32 s,.int .i64 m,.int .u32 x,.int .u32 y]) (by simp) (hx.step 3 _ (Below.refl _ _) (fun h=>absurd h (by decide))) (Below.refl _ _);clear hK;rw[if_pos (by rfl)];go_simp;simpa[upd,d2] using hK'
    ·clear hdep;have hK':=hK w' (.slice (some ⟨b',o',none⟩) n c') (by simp) (hx.step 4 _ (Below.refl _ _) (fun h=>absurd h (by decide))) (Below.refl _ _);clear hK;rw[if_pos (by rfl)];go_simp;simpa[upd] using hK'
    ·clear hdep;have hK':=hK w' (.int .i64 k) (by simp) (hx.step 5 _ (Below.refl _ _) (fun h=>absurd h (by decide))) (Below.refl _ _);clear hK;rw[if_pos (by rfl)];go_simp;simpa[upd] using hK'
    ·have d4:t 4=.slice (some ⟨b',o',none⟩) n c':=by simpa using(hdep ⟨4,.data⟩ (by simp) rfl).2
     have d5:t 5=.int .i64 k:=by simpa using(hdep ⟨5,.data⟩ (by simp) rfl).2
     clear hdep;have hK':=hK w' (.pointer (some ⟨b',o'+k*4,none⟩)) (by simp) (hx.step 6 _ (Below.refl _ _) (fun h=>absurd h (by decide))) (Below.refl _ _);clear hK;rw[if_pos (by rfl)];go_simp;simpa[upd,d4,d5] using hK'
    ·have d6:t 6=.pointer (some ⟨b',o'+k*4,none⟩):=by simpa using(hdep ⟨6,.data⟩ (by simp) rfl).2
     clear hdep;have q0:w'.cell? ⟨b',o'+k*4,none⟩=some (.int .u32 s):=by rw[hx.below.cell (p:=⟨b',o'+k*4,none⟩) HC2.out.1];exact HC2.out.2.1
     have q1:w'.cell? ⟨b',o'+k*4+1,none⟩=some (.int .i64 m):=by rw[hx.below.cell (p:=⟨b',o'+k*4+1,none⟩) HC2.out.1];exact HC2.out.2.2.1
     have q2:w'.cell? ⟨b',o'+k*4+2,none⟩=some (.int .u32 x):=by rw[hx.below.cell (p:=⟨b',o'+k*4+2,none⟩) HC2.out.1];exact HC2.out.2.2.2.1
     have q3:w'.cell? ⟨b',o'+k*4+3,none⟩=some (.int .u32 y):=by rw[hx.below.cell (p:=⟨b',o'+k*4+3,none⟩) HC2.out.1];exact HC2.out.2.2.2.2
     have hK':=hK w' (.agg #[.int .u32 s,.int .i64 m,.int .u32 x,.int .u32 y]) (by simp) (hx.step 7 _ (Below.refl _ _) (fun h=>absurd h (by decide))) (Below.refl _ _);clear hK;rw[if_pos (by rfl)];go_simp;simpa[upd,d6] using hK'
    ·have d3:t 3=.agg #[.int .u32 s,.int .i64 m,.int .u32 x,.int .u32 y]:=by simpa using(hdep ⟨3,.data⟩ (by simp) rfl).2
     have d7:t 7=.agg #[.int .u32 s,.int .i64 m,.int .u32 x,.int .u32 y]:=by simpa using(hdep ⟨7,.data⟩ (by simp) rfl).2
     clear hdep;have A:=eqF1_any s m x y w';have hK':∀ ww,Below w'.heap.size w' ww→K _ ww:=fun ww hb=>hK ww (.bool true) (by simp) (hx.step 8 _ hb (fun h=>absurd h (by decide))) hb
     clear hK;rw[if_pos (by rfl)];go_simp;try simp only[d3,d7]
     refine A.mono ?_;rintro e w9 ⟨rfl,hb9⟩;have hK2:=hK' w9 hb9;clear hK' A hb9;go_simp;simpa[upd,d3,d7] using hK2
    ·have d8:t 8=.bool true:=by simpa using(hdep ⟨8,.data⟩ (by simp) rfl).2
     clear hdep;have hK':=hK w' (.bool false) (by simp) (hx.step 9 _ (Below.refl _ _) (fun h=>absurd h (by decide))) (Below.refl _ _);clear hK;rw[if_pos (by rfl)];go_simp;simpa[upd,d8] using hK'
   case hdone=>
    intro L t w' hx hg;have d9:t 9=.bool false:=by simpa using hg 9 (by decide)
    clear hg;have HBW:Hid (Below w.heap.size w w'):=HB.out.trans (hx.below.mono HB.out.size);simp only[d9];clear hx d9;go_wp2;go_roundw
    case rel=>exact⟨k+1,by omega,by go_num,HBW.out⟩
    case measure=>simp[intOf];omega
  ·have hlt':¬ ((k:Int)<n):=by omega
   clear hbel;go_wp2
   go_ret
   exact⟨rfl,HB.out⟩
end Go.Proofs.YtfkmfmnfnenbjaaGreat
