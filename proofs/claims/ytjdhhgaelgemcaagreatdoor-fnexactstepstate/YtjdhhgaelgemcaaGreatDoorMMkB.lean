import Derived.Test.YtjdhhgaelgemcaaGreatDoorMBase
import Derived.Test.YtjdhhgaelgemcaaGreatDoorMU8i
import Derived.Test.YtjdhhgaelgemcaaGreatDoorMSwA
import Derived.Test.YtjdhhgaelgemcaaGreatDoorMApx
import Derived.Test.YtjdhhgaelgemcaaGreatDoorShN
import Derived.Test.YtjdhhgaelgemcaaGreatDoorMSvE
import Derived.Test.YtjdhhgaelgemcaaGreatDoorMSvP
namespace Go.Proofs.YtjdhhgaelgemcaaGreatDoor
open Go.ChangeShapes Go.WideShapes Go.ChangeAt Go.RowKit
set_option linter.unusedVariables false
def marks (k:Int) (n:Nat):List Int:=(List.range n).map (fun i:Nat=>(k+(i:Int))%256)
theorem marks_len (k:Int) (n:Nat):(marks k n).length=n:=by simp[marks]
theorem marks_get (k:Int) (n i:Nat) (h:i<n):(marks k n).getD i 0=(k+i)%256:=by simp[marks,h]
set_option maxHeartbeats 400000 in
theorem markB_any (a:Option Addr) (n cap:Nat) (k:Int) (w:World) (ho:Open w a n) (hk:0≤k) (hk':k+n≤1099511627776) :
  Calls Tryz.prog 16 #[.slice a n cap,.int .i64 k] w fun e w'=>e=.returned (.int .i64 (k+n))∧At .u8 w' a (marks k n)∧WrO a w w':=by
 go_enter Tryz.func16,Tryz.ntmps16;go_wp2
 go_loopw [1,5] (fun q i wr=>∃ j:Nat,j≤n∧i=.int .i64 j∧q=.int .i64 (k+j)∧WrO a w wr∧
   (n=0∨∃ g o,a=some ⟨g,o,none⟩∧g<w.heap.size∧(∀ t,t<n→(wr.cell? ⟨g,o+t,none⟩).isSome=true∧wr.frozen? ⟨g,o+t,none⟩=false)∧∀ t,t<j→wr.cell? ⟨g,o+t,none⟩=some (.int .u8 ((k+(t:Int))%256)))) (fun _ i _=>n-(intOf i).toNat)
 case atStart=>
  refine⟨0,Nat.zero_le _,rfl,by simp,WrO.refl _ _,?_⟩;rcases ho with h|⟨g,o,h1,h2,h3⟩
  ·exact .inl h
  ·exact .inr ⟨g,o,h1,h2,h3,fun t ht=>by omega⟩
 case round=>
  obtain⟨j,hj,rfl,rfl,hwr,hs⟩:=hrel;by_cases hlt:j<n
  ·rcases hs with h|⟨g,o,rfl,hg,hc,hd⟩
   ·omega
   ·obtain⟨hc1,hf1⟩:=hc j hlt;obtain⟨v0,hv0⟩:=Option.isSome_iff_exists.1 hc1;have HW:Hid (WrO (some ⟨g,o,none⟩) w (wr.setCell ⟨g,o+j,none⟩ (.int .u8 ((k+(j:Int))%256)))):=hwr.setCell _ rfl _ _;have HC:Hid (∀ t,t<n→((wr.setCell ⟨g,o+j,none⟩ (.int .u8 ((k+(j:Int))%256))).cell? ⟨g,o+t,none⟩).isSome=true∧(wr.setCell ⟨g,o+j,none⟩ (.int .u8 ((k+(j:Int))%256))).frozen? ⟨g,o+t,none⟩=false):=by
     intro t ht;obtain⟨u,hu⟩:=Option.isSome_iff_exists.1 (hc t ht).1;obtain⟨u',hu'⟩:=cell?_setCell_some (w:=wr) (p:=⟨g,o+j,none⟩) (x:=.int .u8 ((k+(j:Int))%256)) (q:=⟨g,o+t,none⟩) (v:=u) hu;refine⟨by rw[hu'];rfl,?_⟩;rw[World.frozen?_setCell];exact(hc t ht).2
    have HD:Hid (∀ t,t<j+1→(wr.setCell ⟨g,o+j,none⟩ (.int .u8 ((k+(j:Int))%256))).cell? ⟨g,o+t,none⟩=some (.int .u8 ((k+(t:Int))%256))):=by
     intro t ht;by_cases e:t=j
     ·subst e;exact World.cell?_setCell_same _ _ _ hv0
     ·rw[World.cell?_setCell_other _ _ _ _ (by simp;try omega)];exact hd t (by omega)
    clear hc hd hwr ho hc1;go_wp2;go_roundw
    case rel=>exact⟨j+1,by omega,by go_num,by go_num,HW.out,.inr ⟨g,o,rfl,hg,HC.out,HD.out⟩⟩
    case measure=>simp[intOf];omega
  ·have hjn:j=n:=by omega
   subst hjn;have HA:Hid (At .u8 wr a (marks k j)):=by
    rcases hs with h|⟨g,o,rfl,hg,hc,hd⟩
    ·subst h;exact .inl rfl
    ·exact .inr ⟨g,o,rfl,by rw[hwr.size];exact hg,fun i hi=>by rw[marks_len] at hi;rw[hd i hi,marks_get k j i hi]⟩
   clear hs ho;go_wp2
   go_ret
   exact⟨rfl,HA.out,hwr⟩
structure ApR where
 ok:Bool
 D:List Int
 U:List Int
 k:Int
 T:List Int
 n:Nat
def apNo:ApR:=⟨false,[],[],0,[],0⟩
open Classical in
noncomputable def withS (xs:List Int) (a:Nat):List Int:=upTo (fun v=>decide ((v:Int)∈xs∨v=a)) 256
def lessS (xs:List Int) (a:Nat):List Int:=xs.filter (fun z=>z != (a:Int))
open Classical in
noncomputable def apR (D U:List Int) (k:Int) (T:List Int) (n:Nat) (kind:Int) (a b:Nat):ApR:=
 if kind=1 then(if a<256∧¬ (a:Int)∈U∧¬ (a:Int)∈D then ⟨true,D,withS U a,k,T++[(a:Int),(b:Int)],n+1⟩ else apNo)
 else if kind=2 then(if b=1∧a<256∧¬ (a:Int)∈D∧¬ D.length=16 then ⟨true,withS D a,U,k,T,n⟩ else if b=0∧a<256∧(a:Int)∈D then ⟨true,lessS D a,U,k,T,n⟩ else apNo)
 else if kind=3 then(if b=0∧(a:Int)≤k+n then ⟨true,D,U,max a k,T.drop (ackM k a*2),n-ackM k a⟩ else apNo)
 else apNo
theorem withS_mem {xs:List Int} {a v:Nat} (h:v<256):((v:Int)∈xs∨v=a)↔(v:Int)∈withS xs a:=by
 unfold withS;rw[upTo_mem];constructor
 ·intro hv;exact⟨v,h,decide_eq_true hv,rfl⟩
 ·rintro⟨v',h1,h2,h3⟩;have:v=v':=by omega
  subst this;exact of_decide_eq_true h2
theorem lessS_mem {xs:List Int} {a v:Nat}:((v:Int)∈xs∧v≠a)↔(v:Int)∈lessS xs a:=by
 unfold lessS;rw[List.mem_filter];constructor
 ·rintro⟨h1,h2⟩;exact⟨h1,by rw[bne_iff_ne];omega⟩
 ·rintro⟨h1,h2⟩;exact⟨h1,by rw[bne_iff_ne] at h2;omega⟩
theorem IO.mono {B B':Nat} {w:World} {v:Value} {xs:List Int} (h:IO B' w v xs) (hB:B≤B'):IO B w v xs:=by
 refine⟨h.1,?_⟩;rcases h.2 with h'|⟨g,c,cur,h1,h2,h3⟩
 ·exact .inl h'
 ·exact .inr ⟨g,c,cur,h1,by omega,h3⟩
theorem IO.fresh {w w':World} {v:Value} {xs:List Int} (h:IO w.heap.size w' v xs):Fresh w w' v:=fun k hk=>by
 rcases h.2 with⟨h',_⟩|⟨g,c,cur,h',hb,hh,_⟩
 ·rw[h'] at hk;simp[Value.ownBlock] at hk
 ·rw[h'] at hk;simp[Value.ownBlock] at hk;have:=(Array.getElem?_eq_some_iff.1 hh).1;omega
theorem IO.form {B:Nat} {w:World} {v:Value} {xs:List Int} (h:IO B w v xs):∃ a n c,v=.slice a n c:=by
 rcases h.2 with⟨h',_⟩|⟨g,c,cur,h',_⟩
 ·exact⟨_,_,_,h'⟩
 ·exact⟨_,_,_,h'⟩
theorem IO.keep {B:Nat} {w w':World} {v:Value} {xs:List Int} (h:IO B w v xs) (hb:∀ k,B≤k→k<w.heap.size→w'.heap[k]?=w.heap[k]?):IO B w' v xs:=by
 refine⟨h.1,?_⟩;rcases h.2 with h'|⟨g,c,cur,h1,h2,h3,h4⟩
 ·exact .inl h'
 ·exact .inr ⟨g,c,cur,h1,h2,by rw[hb g h2 (Array.getElem?_eq_some_iff.1 h3).1];exact h3,h4⟩
theorem IO.below {B:Nat} {w w':World} {v:Value} {xs:List Int} (h:IO B w v xs) (b:Below w.heap.size w w'):IO B w' v xs:=h.keep (fun k _ hk=>b.block k hk)
theorem IO.wr {B R:Nat} {w w':World} {v:Value} {xs:List Int} (h:IO B w v xs) (hw:Wr R w w') (hR:R<B):IO B w' v xs:=h.keep (fun k hk _=>hw.block k (by omega))
def StFin (lo:Nat) (k:Int) (aT:Option Addr) (nT cT:Nat) (X Y:List Int) (w:World) (cs:Array Value):Prop:=
 ∃ aD nD cD aU nU cU,cs=#[.slice aD nD cD,.slice aU nU cU,.int .i64 k,.slice aT nT cT]∧IO lo w (.slice aD nD cD) X∧IO lo w (.slice aU nU cU) Y∧ApV (.slice aD nD cD) (.slice aU nU cU)
theorem StFin.below {lo:Nat} {k:Int} {aT:Option Addr} {nT cT:Nat} {X Y:List Int} {w w':World} {cs:Array Value} (h:StFin lo k aT nT cT X Y w cs) (b:Below w.heap.size w w'):StFin lo k aT nT cT X Y w' cs:=by
 obtain⟨aD,nD,cD,aU,nU,cU,e,h1,h2,h3⟩:=h;exact⟨aD,nD,cD,aU,nU,cU,e,h1.below b,h2.below b,h3⟩
def StBd (lo:Nat) (k:Int) (aT:Option Addr) (nT cT:Nat) (X Y:List Int) (w:World) (v:Value):Prop:=∃ cs,v=.agg cs∧StFin lo k aT nT cT X Y w cs
theorem StBd.below {lo:Nat} {k:Int} {aT:Option Addr} {nT cT:Nat} {X Y:List Int} {w w':World} {v:Value} (h:StBd lo k aT nT cT X Y w v) (b:Below w.heap.size w w'):StBd lo k aT nT cT X Y w' v:=by
 obtain⟨cs,e,h⟩:=h;exact⟨cs,e,h.below b⟩
theorem StBd.wr {lo R:Nat} {k:Int} {aT:Option Addr} {nT cT:Nat} {X Y:List Int} {w w':World} {v:Value} (h:StBd lo k aT nT cT X Y w v) (hw:Wr R w w') (hR:R<lo):StBd lo k aT nT cT X Y w' v:=by
 obtain⟨cs,e,aD,nD,cD,aU,nU,cU,e2,h1,h2,h3⟩:=h;exact⟨cs,e,aD,nD,cD,aU,nU,cU,e2,h1.wr hw hR,h2.wr hw hR,h3⟩
set_option maxRecDepth 100000 in
set_option maxHeartbeats 4000000 in
theorem state_any {w:World} {g:Nat} {d u:List Int} {k:Int} (aT:Option Addr) (nT cT:Nat) (P Q:Nat→Bool) (hb:Bk w g d u k (.slice aT nT cT)) (hd:SetB d (fun v=>P v=true)) (hu:SetB u (fun v=>Q v=true)) :
  Calls Tryz.prog 32 #[.pointer (some ⟨g,0,none⟩)] w fun e w'=>∃ aD nD cD aU nU cU,e=.returned (.agg #[.slice aD nD cD,.slice aU nU cU,.int .i64 k,.slice aT nT cT])∧IO w.heap.size w' (.slice aD nD cD) (upTo P 256)∧IO w.heap.size w' (.slice aU nU cU) (upTo Q 256)∧ApV (.slice aD nD cD) (.slice aU nU cU)∧Below w.heap.size w w':=by
 have HBK:Hid (Bk w g d u k (.slice aT nT cT)):=hb;have HGL:Hid (g<w.heap.size):=hb.lt;have HSD:Hid (SetB d (fun v=>P v=true)):=hd;have HSU:Hid (SetB u (fun v=>Q v=true)):=hu;have HSZ:Hid ((Tryz.prog.info? 33).map (·.size)=some 4):=by show _=_;kernel_rfl
 have HW0:Hid (Below w.heap.size w (w.alloc (.cells #[.slice none 0 0,.slice none 0 0,.int .i64 0,.slice none 0 0] 33)).drew):=by
  have h1:Below w.heap.size w (w.alloc (.cells #[.slice none 0 0,.slice none 0 0,.int .i64 0,.slice none 0 0] 33)):=(Below.refl _ _).alloc (Nat.le_refl _) _;exact⟨h1.os,h1.tape,h1.output,h1.size,h1.block⟩
 have HR0:Hid ((w.alloc (.cells #[.slice none 0 0,.slice none 0 0,.int .i64 0,.slice none 0 0] 33)).drew.heap[w.heap.size]?=some (.cells #[.slice none 0 0,.slice none 0 0,.int .i64 0,.slice none 0 0] 33 (0,0))):=heap_alloc_new w _;clear hb hd hu;go_enter Tryz.func32,Tryz.ntmps32;go_wp2_with fail;refine wp_region_any (by kernel_rfl) ?_;refine wpAny_slotsU (fun i a b=>if i=17 then Wr (w.heap.size) a b else Below a.heap.size a b) (frame:=(fun (a b c:Value)=>fun (t:Nat→Value)=>({ tmps:=List.toArray [a,b,c,t 0,t 1,t 2,t 3,t 4,t 5,t 6,t 7,t 8,t 9,t 10,t 11,t 12,t 13,t 14,t 15,t 16],defers:=[] }:Act)) _ _ _)
  (Ext:=fun L u w'=>ApS w (w.heap.size) 17 33 #[.slice none 0 0,.slice none 0 0,.int .i64 0,.slice none 0 0] (StFin (w.heap.size+1) k aT nT cT (upTo P 256) (upTo Q 256)) [3,7] L u w') (Good:=fun i L w' v=>if i=0 then v=.pointer (some ⟨g,0,none⟩) else if i=1 then v=.pointer (some ⟨g,0,none⟩) else if i=2 then v=.pointer (some ⟨g,0,none⟩) else if i=3 then IO (w.heap.size+1) w' v (upTo P 256) else if i=4 then v=.pointer (some ⟨g,0,none⟩) else if i=5 then v=.pointer (some ⟨g,0,none⟩) else if i=6 then v=.pointer (some ⟨g,32,none⟩) else if i=7 then IO (w.heap.size+1) w' v (upTo Q 256) else if i=8 then v=.pointer (some ⟨g,0,none⟩) else if i=9 then v=.pointer (some ⟨g,0,none⟩) else if i=10 then v=.pointer (some ⟨g,64,none⟩) else if i=11 then v=.int .i64 k else if i=12 then v=.pointer (some ⟨g,0,none⟩) else if i=13 then v=.pointer (some ⟨g,0,none⟩) else if i=14 then v=.pointer (some ⟨g,65,none⟩) else if i=15 then v=.slice aT nT cT else if i=16 then StBd (w.heap.size+1) k aT nT cT (upTo P 256) (upTo Q 256) w' v else if i=17 then L 17=true else True) ?hstab (by kernel_rfl) ?hop ?hdone _ _ ((fun (x0 x1 x2 x3 x4 x5 x6 x7 x8 x9 x10 x11 x12 x13 x14 x15 x16:Value)=>fun (i:Nat)=>if i=0 then x0 else if i=1 then x1 else if i=2 then x2 else if i=3 then x3 else if i=4 then x4 else if i=5 then x5 else if i=6 then x6 else if i=7 then x7 else if i=8 then x8 else if i=9 then x9 else if i=10 then x10 else if i=11 then x11 else if i=12 then x12 else if i=13 then x13 else if i=14 then x14 else if i=15 then x15 else if i=16 then x16 else undef) _ _ _ _ _ _ _ _ _ _ _ _ _ _ _ _ _) _ (by simp) ?ext ?start (by simp)
 case start=>intro i hi h;exact absurd h (by rw[Array.getD_eq_getD_getElem?,Array.getElem?_replicate];split<;>simp)
 case ext=>exact ApS.start ⟨HW0.out,fun p _ hp=>absurd hp (by rw[Array.getD_eq_getD_getElem?,Array.getElem?_replicate];split<;>simp),fun p _ q _ _ hp=>absurd hp (by rw[Array.getD_eq_getD_getElem?,Array.getElem?_replicate];split<;>simp)⟩ (fun i=>by rw[Array.getD_eq_getD_getElem?,Array.getElem?_replicate];split<;>rfl) HR0.out
 case hstab=>
  intro j L w9 w' i v hM hij hLi h;by_cases h3:j=3
  ·subst h3;by_cases hl:i=17
   ·subst hl;simp at h hM ⊢;exact h.wr hM (by omega)
   ·rw[if_neg hl] at hM;simp at h ⊢;exact h.below hM
  by_cases h7:j=7
  ·subst h7;by_cases hl:i=17
   ·subst hl;simp at h hM ⊢;exact h.wr hM (by omega)
   ·rw[if_neg hl] at hM;simp at h ⊢;exact h.below hM
  by_cases h16:j=16
  ·subst h16;by_cases hl:i=17
   ·subst hl;simp at h hM ⊢;exact h.wr hM (by omega)
   ·rw[if_neg hl] at hM;simp at h ⊢;exact h.below hM
  by_cases hl:j=17
  ·subst hl;simp at h ⊢;unfold updK;simp[h]
  simp only[if_neg h3,if_neg h7,if_neg h16,if_neg hl] at h ⊢;exact h
 case hop=>
  intro i o L t w' ho hLi hx hdep K hK;have hi:i<18:=(Array.getElem?_eq_some_iff.1 ho).1;obtain rfl|rfl|rfl|rfl|rfl|rfl|rfl|rfl|rfl|rfl|rfl|rfl|rfl|rfl|rfl|rfl|rfl|rfl:i=0∨i=1∨i=2∨i=3∨i=4∨i=5∨i=6∨i=7∨i=8∨i=9∨i=10∨i=11∨i=12∨i=13∨i=14∨i=15∨i=16∨i=17:=by omega
  all_goals(simp at ho;subst ho)
  ·clear hdep;have hK':=hK w' (.pointer (some ⟨g,0,none⟩)) (by simp) (hx.step (fun _ _ _ b h=>h.below b) 0 (by decide) _ (Below.refl _ _) (fun h=>absurd h (by decide))) (by rw[if_neg (by decide)];exact(Below.refl _ _));clear hK;rw[if_pos (by rfl)];go_simp;simpa[upd] using hK'
  ·have d0:t 0=.pointer (some ⟨g,0,none⟩):=by simpa using(hdep ⟨0,.data⟩ (by simp) rfl).2
   clear hdep;have hK':=hK w' (.pointer (some ⟨g,0,none⟩)) (by simp) (hx.step (fun _ _ _ b h=>h.below b) 1 (by decide) _ (Below.refl _ _) (fun h=>absurd h (by decide))) (by rw[if_neg (by decide)];exact(Below.refl _ _));clear hK;rw[if_pos (by rfl)];go_simp;simpa[upd,d0] using hK'
  ·have d1:t 1=.pointer (some ⟨g,0,none⟩):=by simpa using(hdep ⟨1,.data⟩ (by simp) rfl).2
   clear hdep;have hK':=hK w' (.pointer (some ⟨g,0,none⟩)) (by simp) (hx.step (fun _ _ _ b h=>h.below b) 2 (by decide) _ (Below.refl _ _) (fun h=>absurd h (by decide))) (by rw[if_neg (by decide)];exact(Below.refl _ _));clear hK;rw[if_pos (by rfl)];go_simp;simpa[upd,d1] using hK'
  ·have d2:t 2=.pointer (some ⟨g,0,none⟩):=by simpa using(hdep ⟨2,.data⟩ (by simp) rfl).2
   clear hdep;have hsz:w.heap.size+1≤w'.heap.size:=hx.lt;have bw:Below w.heap.size w w':=hx.ax.below;have A:=list_any g 0 d P w' (fun ww hb=>(HBK.out.below (bw.trans (hb.mono bw.size)) HGL.out).batd) HSD.out;have hK':∀ ww v,IO (w.heap.size+1) ww v (upTo P 256)→Fresh w' ww v→Below w'.heap.size w' ww→K _ ww:=fun ww v hv hf hb=>hK ww v (by simpa using hv) (hx.step (fun _ _ _ b h=>h.below b) 3 (by decide) v hb (fun _=>hf)) (by rw[if_neg (by decide)];exact hb)
   clear hK;rw[if_pos (by rfl)];go_simp;try simp only[d2]
   refine A.mono ?_;rintro e w9 ⟨v9,rfl,hv9,hb9⟩;have hK2:=hK' w9 v9 (hv9.mono hsz) hv9.fresh hb9;clear hK' A hv9 bw hb9;go_simp;simpa[upd,d2] using hK2
  ·clear hdep;have hK':=hK w' (.pointer (some ⟨g,0,none⟩)) (by simp) (hx.step (fun _ _ _ b h=>h.below b) 4 (by decide) _ (Below.refl _ _) (fun h=>absurd h (by decide))) (by rw[if_neg (by decide)];exact(Below.refl _ _));clear hK;rw[if_pos (by rfl)];go_simp;simpa[upd] using hK'
  ·have d4:t 4=.pointer (some ⟨g,0,none⟩):=by simpa using(hdep ⟨4,.data⟩ (by simp) rfl).2
   clear hdep;have hK':=hK w' (.pointer (some ⟨g,0,none⟩)) (by simp) (hx.step (fun _ _ _ b h=>h.below b) 5 (by decide) _ (Below.refl _ _) (fun h=>absurd h (by decide))) (by rw[if_neg (by decide)];exact(Below.refl _ _));clear hK;rw[if_pos (by rfl)];go_simp;simpa[upd,d4] using hK'
  ·have d5:t 5=.pointer (some ⟨g,0,none⟩):=by simpa using(hdep ⟨5,.data⟩ (by simp) rfl).2
   clear hdep;have hK':=hK w' (.pointer (some ⟨g,32,none⟩)) (by simp) (hx.step (fun _ _ _ b h=>h.below b) 6 (by decide) _ (Below.refl _ _) (fun h=>absurd h (by decide))) (by rw[if_neg (by decide)];exact(Below.refl _ _));clear hK;rw[if_pos (by rfl)];go_simp;simpa[upd,d5] using hK'
  ·have d6:t 6=.pointer (some ⟨g,32,none⟩):=by simpa using(hdep ⟨6,.data⟩ (by simp) rfl).2
   clear hdep;have hsz:w.heap.size+1≤w'.heap.size:=hx.lt;have bw:Below w.heap.size w w':=hx.ax.below;have A:=list_any g 32 u Q w' (fun ww hb=>(HBK.out.below (bw.trans (hb.mono bw.size)) HGL.out).batu) HSU.out;have hK':∀ ww v,IO (w.heap.size+1) ww v (upTo Q 256)→Fresh w' ww v→Below w'.heap.size w' ww→K _ ww:=fun ww v hv hf hb=>hK ww v (by simpa using hv) (hx.step (fun _ _ _ b h=>h.below b) 7 (by decide) v hb (fun _=>hf)) (by rw[if_neg (by decide)];exact hb)
   clear hK;rw[if_pos (by rfl)];go_simp;try simp only[d6]
   refine A.mono ?_;rintro e w9 ⟨v9,rfl,hv9,hb9⟩;have hK2:=hK' w9 v9 (hv9.mono hsz) hv9.fresh hb9;clear hK' A hv9 bw hb9;go_simp;simpa[upd,d6] using hK2
  ·clear hdep;have hK':=hK w' (.pointer (some ⟨g,0,none⟩)) (by simp) (hx.step (fun _ _ _ b h=>h.below b) 8 (by decide) _ (Below.refl _ _) (fun h=>absurd h (by decide))) (by rw[if_neg (by decide)];exact(Below.refl _ _));clear hK;rw[if_pos (by rfl)];go_simp;simpa[upd] using hK'
  ·have d8:t 8=.pointer (some ⟨g,0,none⟩):=by simpa using(hdep ⟨8,.data⟩ (by simp) rfl).2
   clear hdep;have hK':=hK w' (.pointer (some ⟨g,0,none⟩)) (by simp) (hx.step (fun _ _ _ b h=>h.below b) 9 (by decide) _ (Below.refl _ _) (fun h=>absurd h (by decide))) (by rw[if_neg (by decide)];exact(Below.refl _ _));clear hK;rw[if_pos (by rfl)];go_simp;simpa[upd,d8] using hK'
  ·have d9:t 9=.pointer (some ⟨g,0,none⟩):=by simpa using(hdep ⟨9,.data⟩ (by simp) rfl).2
   clear hdep;have hK':=hK w' (.pointer (some ⟨g,64,none⟩)) (by simp) (hx.step (fun _ _ _ b h=>h.below b) 10 (by decide) _ (Below.refl _ _) (fun h=>absurd h (by decide))) (by rw[if_neg (by decide)];exact(Below.refl _ _));clear hK;rw[if_pos (by rfl)];go_simp;simpa[upd,d9] using hK'
  ·have d10:t 10=.pointer (some ⟨g,64,none⟩):=by simpa using(hdep ⟨10,.data⟩ (by simp) rfl).2
   clear hdep;have cc:w'.cell? ⟨g,64,none⟩=some (.int .i64 k):=(HBK.out.below hx.ax.below HGL.out).ck;have hK':=hK w' (.int .i64 k) (by simp) (hx.step (fun _ _ _ b h=>h.below b) 11 (by decide) _ (Below.refl _ _) (fun h=>absurd h (by decide))) (by rw[if_neg (by decide)];exact(Below.refl _ _));clear hK;rw[if_pos (by rfl)];go_simp;simpa[upd,d10] using hK'
  ·clear hdep;have hK':=hK w' (.pointer (some ⟨g,0,none⟩)) (by simp) (hx.step (fun _ _ _ b h=>h.below b) 12 (by decide) _ (Below.refl _ _) (fun h=>absurd h (by decide))) (by rw[if_neg (by decide)];exact(Below.refl _ _));clear hK;rw[if_pos (by rfl)];go_simp;simpa[upd] using hK'
  ·have d12:t 12=.pointer (some ⟨g,0,none⟩):=by simpa using(hdep ⟨12,.data⟩ (by simp) rfl).2
   clear hdep;have hK':=hK w' (.pointer (some ⟨g,0,none⟩)) (by simp) (hx.step (fun _ _ _ b h=>h.below b) 13 (by decide) _ (Below.refl _ _) (fun h=>absurd h (by decide))) (by rw[if_neg (by decide)];exact(Below.refl _ _));clear hK;rw[if_pos (by rfl)];go_simp;simpa[upd,d12] using hK'
  ·have d13:t 13=.pointer (some ⟨g,0,none⟩):=by simpa using(hdep ⟨13,.data⟩ (by simp) rfl).2
   clear hdep;have hK':=hK w' (.pointer (some ⟨g,65,none⟩)) (by simp) (hx.step (fun _ _ _ b h=>h.below b) 14 (by decide) _ (Below.refl _ _) (fun h=>absurd h (by decide))) (by rw[if_neg (by decide)];exact(Below.refl _ _));clear hK;rw[if_pos (by rfl)];go_simp;simpa[upd,d13] using hK'
  ·have d14:t 14=.pointer (some ⟨g,65,none⟩):=by simpa using(hdep ⟨14,.data⟩ (by simp) rfl).2
   clear hdep;have cc:w'.cell? ⟨g,65,none⟩=some (.slice aT nT cT):=(HBK.out.below hx.ax.below HGL.out).cv;have hK':=hK w' (.slice aT nT cT) (by simp) (hx.step (fun _ _ _ b h=>h.below b) 15 (by decide) _ (Below.refl _ _) (fun h=>absurd h (by decide))) (by rw[if_neg (by decide)];exact(Below.refl _ _));clear hK;rw[if_pos (by rfl)];go_simp;simpa[upd,d14] using hK'
  ·have l3:L 3=true:=(hdep ⟨3,.data⟩ (by simp) rfl).1;have f3:IO (w.heap.size+1) w' (t 3) (upTo P 256):=by simpa using(hdep ⟨3,.data⟩ (by simp) rfl).2
   have l7:L 7=true:=(hdep ⟨7,.data⟩ (by simp) rfl).1;have f7:IO (w.heap.size+1) w' (t 7) (upTo Q 256):=by simpa using(hdep ⟨7,.data⟩ (by simp) rfl).2
   have d11:t 11=.int .i64 k:=by simpa using(hdep ⟨11,.data⟩ (by simp) rfl).2
   have d15:t 15=.slice aT nT cT:=by simpa using(hdep ⟨15,.data⟩ (by simp) rfl).2
   clear hdep;obtain⟨aD,nD,cD,d3⟩:=f3.form;obtain⟨aU,nU,cU,d7⟩:=f7.form;have hap:=hx.ax.ap 3 (by decide) 7 (by decide) (by decide) l3 l7;rw[d3] at f3 hap;rw[d7] at f7 hap;have hK':=hK w' (.agg #[.slice aD nD cD,.slice aU nU cU,.int .i64 k,.slice aT nT cT]) (by simpa using⟨_,rfl,aD,nD,cD,aU,nU,cU,rfl,f3,f7,hap⟩) (hx.step (fun _ _ _ b h=>h.below b) 16 (by decide) _ (Below.refl _ _) (fun h=>absurd h (by decide))) (by rw[if_neg (by decide)];exact(Below.refl _ _));clear hK f3 f7 hap;rw[if_pos (by rfl)];go_simp;simpa[upd,d3,d7,d11,d15] using hK'
  ·have f16:StBd (w.heap.size+1) k aT nT cT (upTo P 256) (upTo Q 256) w' (t 16):=by simpa using(hdep ⟨16,.data⟩ (by simp) rfl).2
   clear hdep;obtain⟨cs,e9,aD,nD,cD,aU,nU,cU,rfl,f3,f7,hap⟩:=f16;have hrs:=hx.pre hLi;have hK':∀ ww,Wr w.heap.size w' ww→ww.heap[w.heap.size]?=some (.cells #[.slice aD nD cD,.slice aU nU cU,.int .i64 k,.slice aT nT cT] 33 (0,0))→K _ ww:=fun ww hw hr=>hK ww undef (by simp[updK]) (hx.put (Nat.le_refl _) (by decide) _ hw hr ⟨aD,nD,cD,aU,nU,cU,rfl,f3.wr hw (by omega),f7.wr hw (by omega),hap⟩) (by rw[if_pos rfl];exact hw)
   clear hK f3 f7 hap;rw[if_pos (by rfl)];refine wp_store_row 33 (.tmp 2) (.tmp 19) rfl w.heap.size _ rfl e9 33 _ hrs HSZ.out rfl (by simp[Value.oneCell']) ?_;have hK2:=hK' _ (Wr.setRow _ _ _) (setRow_heap _ _ _ _ _ _ hrs);clear hK';simpa[upd,Act.put] using hK2
 case hdone=>
  intro L t w' hx hg;have l17:L 17=true:=by simpa using hg 17 (by decide)
  clear hg;obtain⟨cs,hr,aD,nD,cD,aU,nU,cU,rfl,h1,h2,h3⟩:=hx.fin l17;have HR9:Hid (w'.heap[w.heap.size]?=some (.cells #[.slice aD nD cD,.slice aU nU cU,.int .i64 k,.slice aT nT cT] 33 (0,0))):=hr;have HF:Hid (IO w.heap.size w' (.slice aD nD cD) (upTo P 256)∧IO w.heap.size w' (.slice aU nU cU) (upTo Q 256)∧ApV (.slice aD nD cD) (.slice aU nU cU)∧Below w.heap.size w w'):=⟨h1.mono (by omega),h2.mono (by omega),h3,hx.ax.below⟩
  clear hx hr h1 h2 h3;go_wp2_with fail;exact bodyPost_ret (v:=.agg #[.slice aD nD cD,.slice aU nU cU,.int .i64 k,.slice aT nT cT]) (results_cell_row rfl _ _ w.heap.size 33 _ (0,0) _ rfl HR9.out Tryz.underlying33 rfl HSZ.out) rfl ⟨aD,nD,cD,aU,nU,cU,rfl,HF.out.1,HF.out.2.1,HF.out.2.2.1,HF.out.2.2.2⟩
def ktL (q:Nat):List Int:=(List.range q).map kt
theorem ktL_len (q:Nat):(ktL q).length=q:=by simp[ktL]
theorem ktL_snoc (q:Nat):ktL (q+1)=ktL q++[kt q]:=by unfold ktL;rw[List.range_succ,List.map_append];rfl
theorem ktL_get (q i:Nat) (h:i<q):(ktL q).getD i 0=kt i:=by unfold ktL;simp[List.getD,h]
theorem rcT_kt (q:Nat) (h:q<88):rcT (q:Int)=kt q:=by
 unfold rcT kt;rw[if_pos (by omega),Int.toNat_natCast]
theorem run_sliceH (w:World) (g c:Nat) (hc:88≤c):(Instr.sliceAt 131 (.slice (some ⟨g,0,none⟩) 88 c) (some (.int .i64 80)) none none).run Tryz.prog w=.ok (.slice (some ⟨g,80,none⟩) 8 (c-80)) w:=by
 have h4:¬ (c=80):=by omega
 unfold Instr.sliceAt;simp[run_underlying Tryz.underlying131,go_sem,Instr.sliceBounds,h4,Addr.add];try omega
theorem run_sliceM (w:World) (g L c I:Nat) (hI:I+128≤L) (hc:L≤c):(Instr.sliceAt 26 (.slice (some ⟨g,0,none⟩) L c) (some (.int .i64 (I:Int))) (some (.int .i64 ((I:Int)+128))) none).run Tryz.prog w=.ok (.slice (some ⟨g,I,none⟩) 128 (c-I)) w:=by
 have h2:((I:Int)+128)≤(c:Int):=by omega
 have h3:((I:Int)+128).toNat=I+128:=by omega
 have h4:¬ (c=I):=by omega
 have h6:(0:Int)≤(I:Int):=by omega
 have h7:(0:Int)≤(I:Int)+128:=by omega
 unfold Instr.sliceAt;simp[run_underlying Tryz.underlying26,go_sem,Instr.sliceBounds,h2,h3,h4,h6,h7,Addr.add];omega
structure HW (w:World) (v:Value) (hs:List Int):Prop where
 ex:∃ b o c,v=.slice (some ⟨b,o,none⟩) 8 c∧b<w.heap.size∧∀ i,i<8→w.cell? ⟨b,o+i,none⟩=some (.int .u64 (hs.getD i 0))
theorem HW.of_own {w:World} {B:Nat} {v:Value} {hs:List Int} (h:OwnU w B v hs) (h8:hs.length=8):HW w v hs:=by
 obtain⟨g,c,rfl,hB,hg,hc⟩:=h.base;refine⟨g,0,c,by rw[h8],hg,fun i hi=>?_⟩;rw[Nat.zero_add];exact h.cellAt rfl i (by omega)
structure MS (W:World) (gk gm:Nat) (ms:List Int) (y:World):Prop where
 k:gk<y.heap.size∧∀ i,i<88→y.cell? ⟨gk,i,none⟩=some (.int .u64 (kt i))
 m:gm<y.heap.size∧∀ i,i<ms.length→y.cell? ⟨gm,i,none⟩=some (.int .u8 (ms.getD i 0))
 below:Below W.heap.size W y
theorem MS.new {W:World} {gk gm:Nat} {ms:List Int} {y y':World} (h:MS W gk gm ms y) (hb:Below y.heap.size y y'):MS W gk gm ms y':=
 ⟨⟨Nat.lt_of_lt_of_le h.k.1 hb.size,fun i hi=>by rw[World.cell?_of_block (w:=y) (hb.block gk h.k.1)];exact h.k.2 i hi⟩,⟨Nat.lt_of_lt_of_le h.m.1 hb.size,fun i hi=>by rw[World.cell?_of_block (w:=y) (hb.block gm h.m.1)];exact h.m.2 i hi⟩,h.below.trans (hb.mono h.below.size)⟩
set_option maxRecDepth 100000 in
set_option maxHeartbeats 2000000 in
theorem shaS_any (b off cap n:Nat) (zs:List Int) (w:World) (hn:zs.length=n) (hb:b<w.heap.size) (hc:∀ i,i<zs.length→w.cell? ⟨b,off+i,none⟩=some (.int .u8 (zs.getD i 0))) (hz:Byte zs) (hm:n≤2097152) :
  Calls Tryz.prog 75 #[.slice (some ⟨b,off,none⟩) n cap] w fun e w'=>∃ v,e=.returned v∧Own w' w.heap.size v (shaL zs)∧Below w.heap.size w w':=by
 have HC:=hid_ofS hc;have HN:=hid_ofS hn;have HZ:=hid_ofS hz;have HE0:=hid_ofS (OwnK.empty (k:=.u64) (t:=132) w w.heap.size (Nat.le_refl _));have HAL:Hid (Below w.heap.size w (w.alloc (.cells #[] 132))):=(Below.refl _ _).alloc (Nat.le_refl _) _;clear hc hn hz;go_enter Tryz.func75,Tryz.ntmps75;go_wp2
 go_loopw [3,4] (fun v i wr=>∃ q:Nat,q≤88∧i=.int .i64 q∧OwnU wr w.heap.size v (ktL q)∧Below w.heap.size w wr) (fun _ i _=>88-(intOf i).toNat)
 case atStart=>exact⟨0,by omega,rfl,HE0.out,HAL.out⟩
 case round=>
  clear HE0 HAL;obtain⟨q,hq,rfl,hown,hbel⟩:=hrel;by_cases hlt:q<88
  ·have hlt':(q:Int)<88:=by omega
   have hsz:=hbel.size;have HO:=hid_ofS hown;have HB:=hid_ofS hbel;have A:=hid_ofS (rcS_any (q:Int) wr (by omega) (by omega));rw[rcT_kt q hlt] at A;have HSN:=hid_ofS (ktL_snoc q);have HLS:=hid_ofS (ktL_len q);clear hown hbel;generalize kt q=x at *;go_wp2_with fail;refine A.out.mono ?_;rintro e w1 ⟨rfl,b1⟩;have HO1:=hid_ofS (HO.out.grow b1);have HB1:=hid_ofS (HB.out.trans (b1.mono hsz));have hsz1:w.heap.size≤w1.heap.size:=HB1.out.size;clear A HO HB b1;have HLJ:Hid ((ktL q).length+1≤1099511627776):=by show _≤_;rw[HLS.out];omega
   go_wp2_with (at_builtin;refine wpList_appK _ ktU rfl _ _ rfl w.heap.size _ _ rfl (HO1.out.alloc _) ⟨w1.heap.size,0,none⟩ 1 1 [x] rfl rfl ?c1 ?c2 ?c3 ?_);all_goals first|(intro j hj;obtain rfl:j=0:=by omega
                                                                                                                                                                             simp[Addr.add];done)|skip
   case c2=>have:=HLJ.out;simpa using by omega
   case c3=>rw[World.size_alloc];omega
   intro v' w2 hown' hbel' _;have HO2:Hid (OwnU w2 w.heap.size v' (ktL (q+1))):=by rw[HSN.out];exact hown'
   have HB2:Hid (Below w.heap.size w w2):=(HB1.out.alloc hsz1 _).trans hbel';clear hown' hbel' HO1 HB1;go_wp2;go_roundw
   case rel=>exact⟨q+1,by omega,by go_num,HO2.out,HB2.out⟩
   case measure=>simp[intOf];omega
  ·obtain rfl:q=88:=by omega
   obtain⟨gk,ck,rfl,hk1,hk2,hk3⟩:=hown.base;have HKC:Hid (∀ i,i<88→wr.cell? ⟨gk,i,none⟩=some (.int .u64 (kt i))):=fun i hi=>by
    rw[hown.cellAt rfl i (by rw[ktL_len];exact hi),ktL_get _ _ hi]
   rw[ktL_len] at hk3 ⊢;have hsl:=fun w=>run_sliceH w gk ck hk3
   have HB:=hid_ofS hbel;have hsz:=hbel.size;have hbr:b<wr.heap.size:=by omega
   have A:=hid_ofS (padS_any b off cap n zs wr HN.out hbr (fun i hi=>by rw[World.cell?_of_block (w:=w) (hbel.block b hb)];exact HC.out i hi) hm);clear hown hbel;go_wp2_with fail;refine A.out.mono ?_;rintro e W ⟨vm,rfl,om,bm⟩;obtain⟨gm,cm,rfl,hm1,hm2,hm3⟩:=om.base;have HMC:Hid (∀ i,i<(padL zs).length→W.cell? ⟨gm,i,none⟩=some (.int .u8 ((padL zs).getD i 0))):=fun i hi=>by
    obtain⟨b',o',c',e',_,hcc⟩:=om.part;cases e';have:=hcc i hi
    rwa [Nat.zero_add] at this
   have HMS:Hid (MS W gk gm (padL zs) W):=⟨⟨Nat.lt_of_lt_of_le hk2 bm.size,fun i hi=>by rw[World.cell?_of_block (w:=wr) (bm.block gk hk2)];exact HKC.out i hi⟩,⟨hm2,HMC.out⟩,Below.refl _ _⟩
   have HHW:Hid (HW W (.slice (some ⟨gk,80,none⟩) 8 (ck-80)) (mbl zs 0)):=⟨gk,80,ck-80,rfl,HMS.out.k.1,fun i hi=>by
    rw[HMS.out.k.2 (80+i) (by omega)];show _=some (Value.int .u64 (ivL.getD i 0))
    rw[ivL_get i hi]⟩
   have HBW:Hid (Below w.heap.size w W):=HB.out.trans (bm.mono hsz);have HLP:Hid ((padL zs).length=128*nBl n):=by show _=_;rw[nBl_len,HN.out]
   rw[HLP.out] at hm3 ⊢;have hK:128*nBl n≤2097152+256:=by rw[←HLP.out,padL_len,HN.out];have:=(padZ_spec n).2;omega
   have HSH:Hid (txtW (mbl zs (nBl n))=shaL zs):=by show _=_;rw[←HN.out];exact mbl_sha zs (by rw[HN.out];exact hm)
   have HPB:=hid_ofS (padL_byte HZ.out);clear A hsl om bm HMC HKC HC HZ HB hk1 hm1 hk2 hm2;generalize nBl n=K at *;obtain⟨L,hL⟩:∃ L,L=128*K:=⟨_,rfl⟩
   rw[←hL] at hm3 HLP hK ⊢;have HL:=hid_ofS hL;clear hL;go_wp2
   go_loopw [5,7] (fun v i y=>∃ j I:Nat,j≤K∧I=128*j∧i=.int .i64 (I:Int)∧HW y v (mbl zs j)∧MS W gk gm (padL zs) y) (fun _ i _=>(L+128-(intOf i).toNat))
   case atStart=>exact⟨0,0,by omega,rfl,rfl,HHW.out,HMS.out⟩
   case round=>
    clear HHW HMS;obtain⟨j,I,hj,hI,rfl,⟨bh,oh,ch,rfl,hh1,hh2⟩,hms⟩:=hrel;have hL:=HL.out;have HI:=hid_ofS hI;by_cases hlt:j<K
    ·have hlt':(I:Int)<(L:Int):=by omega
     have hIL:I+128≤L:=by omega
     have hsl:=fun w=>run_sliceM w gm L cm I hIL hm3
     have HMS:=hid_ofS hms;have HBS:Hid (mbl zs (j+1)=mixL (mbl zs j) (((padL zs).drop (128*j)).take 128)):=rfl;have hbl:(((padL zs).drop (128*j)).take 128).length=128:=by rw[List.length_take,List.length_drop,HLP.out];omega
     have hbb:Byte (((padL zs).drop (128*j)).take 128):=fun z h=>HPB.out z (List.mem_of_mem_drop (List.mem_of_mem_take h))
     have hBK:BK wr bh oh gm I gk (mbl zs j) (((padL zs).drop (128*j)).take 128):=
      ⟨⟨hh1,hh2⟩,⟨hms.m.1,fun i hi=>by rw[hms.m.2 (I+i) (by rw[HLP.out];omega),pblk_get _ _ _ hi,hI]⟩,hms.k⟩
     have A:=hid_ofS (blockS_any bh oh ch gm I (cm-I) gk ck _ _ wr hBK (mbl_w8 zs j) hbl hbb (by omega));rw[←HBS.out] at A;have HJ:Hid (j+1≤K∧I+128=128*(j+1)):=by constructor<;>omega
     clear hms hh2 hbl hbb hBK HBS hI hL hj hlt;go_wp2_with fail;refine A.out.mono ?_;rintro e w3 ⟨v3,rfl,o3,b3⟩;have HMS3:=hid_ofS (HMS.out.new b3);have HHW3:=hid_ofS (HW.of_own o3 (mbl_w8 zs (j+1)).1);clear A hsl o3 b3 HMS;go_wp2;go_roundw
     case rel=>exact⟨j+1,I+128,HJ.out.1,HJ.out.2,by go_num,HHW3.out,HMS3.out⟩
     case measure=>simp[intOf];omega
    ·obtain rfl:j=K:=by omega
     have hlt':¬ ((I:Int)<(L:Int)):=by omega
     have HBR:Hid (Below w.heap.size w wr):=HBW.out.trans (hms.below.mono HBW.out.size);have HHH:=hid_ofS hh2;have H8:=hid_ofS (mbl_w8 zs j);have hIb:I≤2097700:=by omega
     clear hms hh2 HBW HPB hI hL HI HL;generalize mbl zs j=hs at *;obtain⟨wy,rfl⟩:∃ y,y=wr:=⟨_,rfl⟩
     go_wp2
     go_loopw [8,9] (fun v i y=>∃ q:Nat,q≤8∧i=.int .i64 q∧Own y wy.heap.size v (txtW (hs.take q))∧Below wy.heap.size wy y) (fun _ i _=>8-(intOf i).toNat)
     case atStart=>exact⟨0,by omega,rfl,Own.empty _ _ (Nat.le_refl _),(Below.refl _ _).alloc (Nat.le_refl _) _⟩
     case round=>
      obtain⟨q,hq,rfl,hown,hbel⟩:=hrel;by_cases hlq:q<8
      ·have hlq':(q:Int)<8:=by omega
       have hsz:=hbel.size;have hcl:=HHH.out q hlq;rw[←World.cell?_of_block (w':=wr) (hbel.block bh hh1)] at hcl;have HSN:=hid_ofS (txtW_snoc hs q (by rw[H8.out.1];exact hlq));have HPL:=hid_ofS (txtW_len (hs.take q));rw[List.length_take,H8.out.1] at HPL;have hu:=H8.out.2 q;have HO:=hid_ofS hown;have HB:=hid_ofS hbel;clear hown hbel;obtain⟨x,hx⟩:∃ x,x=hs.getD q 0:=⟨_,rfl⟩
       rw[←hx] at hcl hu HSN;clear hx;have A:=hid_ofS (bytesS_any x wr hu);obtain⟨hu0,hu1⟩:=hu;go_wp2_with fail;refine A.out.mono ?_;rintro e w5 ⟨v5,rfl,o5,b5⟩;obtain⟨g5,c5,rfl,h51,h52,h53⟩:=o5.base;have HC5:Hid (∀ i,i<8→w5.cell? ((⟨g5,0,none⟩:Addr).add i)=some (.int .u8 ((by8 x).getD i 0))):=fun i hi=>by
        obtain⟨b',o',c',e',_,hcc⟩:=o5.part;cases e';rw[Addr.add_lit];exact hcc i (by rw[by8_len];exact hi)
       have HO5:=hid_ofS (own_grow HO.out b5);have HB5:=hid_ofS (HB.out.trans (b5.mono hsz));have hsz5:wy.heap.size≤w5.heap.size:=HB5.out.size;rw[by8_len];clear A HO HB o5 b5;have HLY:Hid ((txtW (hs.take q)).length+8≤1099511627776):=by show _≤_;rw[HPL.out];omega
       go_wp2_with (at_builtin;refine wpList_app _ rfl _ _ rfl wy.heap.size _ _ rfl HO5.out ⟨g5,0,none⟩ 8 c5 (by8 x) rfl (by8_len _) HC5.out HLY.out hsz5 ?_);intro v6 w6 o6 b6 _;have HO6:Hid (Own w6 wy.heap.size v6 (txtW (hs.take (q+1)))):=by rw[HSN.out];exact o6
       have HB6:=hid_ofS (HB5.out.trans b6);clear o6 b6 HO5 HB5;go_wp2;go_roundw
       case rel=>exact⟨q+1,by omega,by go_num,HO6.out,HB6.out⟩
       case measure=>simp[intOf];omega
      ·obtain rfl:q=8:=by omega
       rw[List.take_of_length_le (by rw[H8.out.1];exact Nat.le_refl _),HSH.out] at hown;have HOF:Hid (Own _ w.heap.size _ (shaL zs)):=hown.lower HBR.out.size;have HBF:=hid_ofS (HBR.out.trans (hbel.mono HBR.out.size));clear hown hbel;go_wp2
       go_ret
       exact⟨_,rfl,HOF.out,HBF.out⟩
end Go.Proofs.YtjdhhgaelgemcaaGreatDoor
