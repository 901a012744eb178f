import Derived.Test.YthmeoilbmfdhfaaGreatMReg8
import Derived.Test.YthmeoilbmfdhfaaGreatMBase
import Derived.Test.YthmeoilbmfdhfaaGreatMSwB
import Derived.Test.YthmeoilbmfdhfaaGreatMRowB
namespace Go.Proofs.YthmeoilbmfdhfaaGreat
open Go.ChangeShapes Go.WideShapes Go.ChangeAt Go.RowKit
set_option linter.unusedVariables false
theorem Tryz.infoI64:(Tryz.prog.info? 2).map (fun i=>(i.zero,i.size,i.bytes))=some (some (.int .i64 0),1,8):=by kernel_rfl
set_option maxHeartbeats 400000 in
theorem eqI_any (a a':Option Addr) (n cap cap':Nat) (zs:List Int) (w:World) (hn:zs.length=n) (hm:n≤1048576) (ha:At .i64 w a zs) (ha':At .i64 w a' zs) :
  Calls Tryz.prog 88 #[.slice a n cap,.slice a' n cap'] w fun e w'=>e=.returned (.bool true)∧∃ q,w'=w.drewN q:=by
 have h0:((n:Int) != (n:Int))=false:=by simp
 go_enter Tryz.func88,Tryz.ntmps88
 go_wp2
 go_loopw [5] (fun i wr=>∃ k q:Nat,k≤n∧i=.int .i64 k∧wr=w.drewN q) (fun i _=>n-(intOf i).toNat)
 case atStart=>exact⟨0,0,Nat.zero_le _,rfl,rfl⟩
 case round=>
  obtain⟨k,q,hk,rfl,rfl⟩:=hrel;by_cases hlt:k<n
  ·obtain⟨b,off,rfl,hb,hc⟩:=ha.get (by omega);obtain⟨b',off',rfl,hb',hc'⟩:=ha'.get (by omega);have g1:=hc k (by omega);have g2:=hc' k (by omega);generalize zs.getD k 0=x at *;have hx:(x != x)=false:=by simp
   have hlt':(k:Int)<(n:Int):=by omega
   clear hc hc' ha ha';go_wp2
   go_quiet (fail)
   go_wp2;go_roundw
   case rel=>exact⟨k+1,_,by omega,by go_num,rfl⟩
   case measure=>simp[intOf];omega
  ·go_wp2
   go_ret
   exact⟨rfl,q,rfl⟩
set_option maxHeartbeats 400000 in
theorem eqT1_any (s nw:Int) (w:World):Calls Tryz.prog 143 #[.agg #[.int .i64 s,.int .i64 nw],.agg #[.int .i64 s,.int .i64 nw]] w fun e w'=>e=.returned (.bool true)∧Below w.heap.size w w':=by
 have HB:Hid (Below w.heap.size w ((w.alloc (.cells #[.int .i64 s,.int .i64 nw] 133)).alloc (.cells #[.int .i64 s,.int .i64 nw] 133))):=((Below.refl _ _).alloc (Nat.le_refl _) _).alloc (by simp) _
 go_enter Tryz.func143,Tryz.ntmps143
 go_wp2
 go_ret
 exact⟨rfl,HB.out⟩
set_option maxRecDepth 100000 in
set_option maxHeartbeats 2000000 in
theorem eqTS_any (a a':Option Addr) (n c c':Nat) (T:List Int) (w:World) (hl:T.length=n*2) (hn:n≤1048576) (ha:At .i64 w a T) (ha':At .i64 w a' T) :
  Calls Tryz.prog 90 #[.slice a n c,.slice a' n c'] w fun e w'=>e=.returned (.bool true)∧Below w.heap.size w w':=by
 have h0:((n:Int) != (n:Int))=false:=by simp
 have HLT:Hid (T.length=n*2):=hl
 have HA:Hid (At .i64 w a T):=ha
 have HA':Hid (At .i64 w a' T):=ha'
 clear hl ha ha'
 go_enter Tryz.func90,Tryz.ntmps90
 go_wp2
 go_loopw [5] (fun i wr=>∃ k:Nat,k≤n∧i=.int .i64 k∧Below w.heap.size w wr) (fun i _=>n-(intOf i).toNat)
 case atStart=>exact⟨0,Nat.zero_le _,rfl,Below.refl _ _⟩
 case round=>
  obtain⟨k,hk,rfl,hbel⟩:=hrel;have HB:Hid (Below w.heap.size w wr):=hbel;by_cases hlt:k<n
  ·have hlt':(k:Int)<n:=by omega
   obtain⟨b,o,ea,hb,hc⟩:=(HA.out.below hbel).get (by have:=HLT.out;omega);obtain⟨b',o',ea',hb',hc'⟩:=(HA'.out.below hbel).get (by have:=HLT.out;omega);have t0:=hc (k*2) (by have:=HLT.out;omega);have t1:=hc (k*2+1) (by have:=HLT.out;omega);have u0:=hc' (k*2) (by have:=HLT.out;omega);have u1:=hc' (k*2+1) (by have:=HLT.out;omega);rw[←Nat.add_assoc] at t1 u1;subst ea ea';clear hc hc' hbel;generalize T.getD (k*2) 0=s at *;generalize T.getD (k*2+1) 0=nw at *;have HC1:Hid (b<wr.heap.size∧wr.cell? ⟨b,o+k*2,none⟩=some (.int .i64 s)∧wr.cell? ⟨b,o+k*2+1,none⟩=some (.int .i64 nw)):=⟨hb,t0,t1⟩
   have HC2:Hid (b'<wr.heap.size∧wr.cell? ⟨b',o'+k*2,none⟩=some (.int .i64 s)∧wr.cell? ⟨b',o'+k*2+1,none⟩=some (.int .i64 nw)):=⟨hb',u0,u1⟩
   clear hb hb' t0 t1 u0 u1;go_wp2_with fail;refine wp_region_any (by kernel_rfl) ?_;refine wpAny_slotsG (fun _ _ _=>True) (frame:=(fun (a b c d e f g h i j k l m n o p q:Value)=>fun (t:Nat→Value)=>({ tmps:=List.toArray [a,b,c,d,e,f,g,h,i,j,k,l,m,n,o,p,q,t 0,t 1,t 2,t 3,t 4,t 5,t 6,t 7,t 8,t 9],defers:=[] }:Act)) _ _ _ _ _ _ _ _ _ _ _ _ _ _ _ _ _)
    (Ext:=fun L w'=>Below wr.heap.size wr w') (Good:=fun i L w' v=>if i=0 then v=.slice (some ⟨b,o,none⟩) n c else if i=1 then v=.int .i64 k else if i=2 then v=.pointer (some ⟨b,o+k*2,none⟩) else if i=3 then v=.agg #[.int .i64 s,.int .i64 nw] else if i=4 then v=.slice (some ⟨b',o',none⟩) n c' else if i=5 then v=.int .i64 k else if i=6 then v=.pointer (some ⟨b',o'+k*2,none⟩) else if i=7 then v=.agg #[.int .i64 s,.int .i64 nw] else if i=8 then v=.bool true else if i=9 then v=.bool false else True) (fun j L w9 w' i v _ _ _ h=>h) (by kernel_rfl) ?hop ?hdone _ _ ((fun (x0 x1 x2 x3 x4 x5 x6 x7 x8 x9:Value)=>fun (i:Nat)=>if i=0 then x0 else if i=1 then x1 else if i=2 then x2 else if i=3 then x3 else if i=4 then x4 else if i=5 then x5 else if i=6 then x6 else if i=7 then x7 else if i=8 then x8 else if i=9 then x9 else undef) _ _ _ _ _ _ _ _ _ _) _ (by simp) ?ext ?start (by simp)
   case start=>intro i hi h;exact absurd h (by rw[Array.getD_eq_getD_getElem?,Array.getElem?_replicate];split<;>simp)
   case ext=>exact⟨rfl,rfl,rfl,Nat.le_refl _,fun _ _=>rfl⟩
   case hop=>
    intro i o L t w' ho hLi hx hdep K hK;have hi:i<10:=(Array.getElem?_eq_some_iff.1 ho).1;obtain rfl|rfl|rfl|rfl|rfl|rfl|rfl|rfl|rfl|rfl:i=0∨i=1∨i=2∨i=3∨i=4∨i=5∨i=6∨i=7∨i=8∨i=9:=by omega
    all_goals(simp at ho;subst ho)
    ·clear hdep;have hK':=hK w' (.slice (some ⟨b,o,none⟩) n c) (by simp) hx trivial;clear hK;rw[if_pos (by rfl)];go_simp;simpa[upd] using hK'
    ·clear hdep;have hK':=hK w' (.int .i64 k) (by simp) hx trivial;clear hK;rw[if_pos (by rfl)];go_simp;simpa[upd] using hK'
    ·have d0:t 0=.slice (some ⟨b,o,none⟩) n c:=by simpa using hdep ⟨0,.data⟩ (by simp) rfl
     have d1:t 1=.int .i64 k:=by simpa using hdep ⟨1,.data⟩ (by simp) rfl
     clear hdep;have hK':=hK w' (.pointer (some ⟨b,o+k*2,none⟩)) (by simp) hx trivial;clear hK;rw[if_pos (by rfl)];go_simp;simpa[upd,d0,d1] using hK'
    ·have d2:t 2=.pointer (some ⟨b,o+k*2,none⟩):=by simpa using hdep ⟨2,.data⟩ (by simp) rfl
     clear hdep;have q0:w'.cell? ⟨b,o+k*2,none⟩=some (.int .i64 s):=by rw[hx.cell (p:=⟨b,o+k*2,none⟩) HC1.out.1];exact HC1.out.2.1
     have q1:w'.cell? ⟨b,o+k*2+1,none⟩=some (.int .i64 nw):=by rw[hx.cell (p:=⟨b,o+k*2+1,none⟩) HC1.out.1];exact HC1.out.2.2
     have hK':=hK w' (.agg #[.int .i64 s,.int .i64 nw]) (by simp) hx trivial;clear hK;rw[if_pos (by rfl)];go_simp;simpa[upd,d2] using hK'
    ·clear hdep;have hK':=hK w' (.slice (some ⟨b',o',none⟩) n c') (by simp) hx trivial;clear hK;rw[if_pos (by rfl)];go_simp;simpa[upd] using hK'
    ·clear hdep;have hK':=hK w' (.int .i64 k) (by simp) hx trivial;clear hK;rw[if_pos (by rfl)];go_simp;simpa[upd] using hK'
    ·have d4:t 4=.slice (some ⟨b',o',none⟩) n c':=by simpa using hdep ⟨4,.data⟩ (by simp) rfl
     have d5:t 5=.int .i64 k:=by simpa using hdep ⟨5,.data⟩ (by simp) rfl
     clear hdep;have hK':=hK w' (.pointer (some ⟨b',o'+k*2,none⟩)) (by simp) hx trivial;clear hK;rw[if_pos (by rfl)];go_simp;simpa[upd,d4,d5] using hK'
    ·have d6:t 6=.pointer (some ⟨b',o'+k*2,none⟩):=by simpa using hdep ⟨6,.data⟩ (by simp) rfl
     clear hdep;have q0:w'.cell? ⟨b',o'+k*2,none⟩=some (.int .i64 s):=by rw[hx.cell (p:=⟨b',o'+k*2,none⟩) HC2.out.1];exact HC2.out.2.1
     have q1:w'.cell? ⟨b',o'+k*2+1,none⟩=some (.int .i64 nw):=by rw[hx.cell (p:=⟨b',o'+k*2+1,none⟩) HC2.out.1];exact HC2.out.2.2
     have hK':=hK w' (.agg #[.int .i64 s,.int .i64 nw]) (by simp) hx trivial;clear hK;rw[if_pos (by rfl)];go_simp;simpa[upd,d6] using hK'
    ·have d3:t 3=.agg #[.int .i64 s,.int .i64 nw]:=by simpa using hdep ⟨3,.data⟩ (by simp) rfl
     have d7:t 7=.agg #[.int .i64 s,.int .i64 nw]:=by simpa using hdep ⟨7,.data⟩ (by simp) rfl
     clear hdep;have A:=eqT1_any s nw w';have hK':∀ ww,Below w'.heap.size w' ww→K _ ww:=fun ww hb=>hK ww (.bool true) (by simp) (hx.trans (hb.mono hx.size)) trivial
     clear hK;rw[if_pos (by rfl)];go_simp;try simp only[d3,d7]
     refine A.mono ?_;rintro e w9 ⟨rfl,hb⟩;have hK2:=hK' w9 hb;clear hK' A hb;go_simp;simpa[upd,d3,d7] using hK2
    ·have d8:t 8=.bool true:=by simpa using hdep ⟨8,.data⟩ (by simp) rfl
     clear hdep;have hK':=hK w' (.bool false) (by simp) hx trivial;clear hK;rw[if_pos (by rfl)];go_simp;simpa[upd,d8] using hK'
   case hdone=>
    intro L t w' hx hg;have d9:t 9=.bool false:=by simpa using hg 9 (by decide)
    clear hg;have HBW:Hid (Below w.heap.size w w'):=HB.out.trans (hx.mono HB.out.size);simp only[d9];clear hx d9;go_wp2;go_roundw
    case rel=>exact⟨k+1,by omega,by go_num,HBW.out⟩
    case measure=>simp[intOf];omega
  ·have hlt':¬ ((k:Int)<n):=by omega
   clear hbel;go_wp2
   go_ret
   exact⟨rfl,HB.out⟩
open Classical in
set_option maxRecDepth 100000 in
set_option maxHeartbeats 1000000 in
theorem with_any (ad:Option Addr) (n cap:Nat) (xs:List Int) (a:Nat) (w:World) (hn:xs.length=n) (hm:n≤1048576) (ha:At .i64 w ad xs) :
  Calls Tryz.prog 125 #[.slice ad n cap,.int .i64 a] w fun e w'=>∃ v,e=.returned v∧Iow w.heap.size w' v (withS xs a)∧Below w.heap.size w w':=by
 have HW:Hid (withS xs a=upTo (fun v=>decide ((v:Int)∈xs∨v=a)) 256):=rfl
 have HPD:Hid (∀ v:Nat,(fun v:Nat=>decide ((v:Int)∈xs∨v=a)) v=true↔((v:Int)∈xs∨v=a)):=fun v=>by simp
 generalize (fun v:Nat=>decide ((v:Int)∈xs∨v=a))=P at HW HPD
 have HA:Hid (At .i64 w ad xs):=ha
 have HNX:Hid (xs.length=n):=hn
 have H0:Hid (LIS w P 0 (.slice (some ⟨w.heap.size,0,none⟩) 0 0) (w.alloc (.cells #[] 2))):=
  ⟨⟨by simp[upTo],.inr ⟨w.heap.size,0,#[],rfl,Nat.le_refl _,heap_alloc_new w _,Nat.le_refl _,by simp[maxLen],rfl,rfl⟩⟩,(Below.refl _ _).alloc (Nat.le_refl _) _⟩
 clear ha hn
 go_enter Tryz.func125,Tryz.ntmps125
 go_wp2_with fail
 go_loopw [5,6] (fun l i wr=>∃(k:Nat) (v:Value),k≤256∧i=.int .i64 k∧v=l∧LIS w P k v wr) (fun _ i _=>256-(intOf i).toNat)
 case atStart=>exact⟨0,_,by omega,rfl,rfl,H0.out⟩
 case round=>
  clear H0;obtain⟨k,l,hk,rfl,rfl,hst⟩:=hrel;by_cases hlt:k<256
  ·have hlt':(k:Int)<256:=by omega
   have HST:Hid (LIS w P k l wr):=hst;clear hst;by_cases hp:P k=true
   ·have HN:Hid (upTo P (k+1)=upTo P k++[(k:Int)]):=by show _=_;rw[upTo_succ,if_pos hp]
    have HL:Hid ((upTo P k).length≤1048576):=Nat.le_trans (upTo_len P k) (by omega);have HO:Hid (Iow w.heap.size (wr.alloc (.cells #[.int .i64 (k:Int)] 2)) l (upTo P k)):=HST.out.own.alloc _;have HZ:Hid (w.heap.size≤(wr.alloc (.cells #[.int .i64 (k:Int)] 2)).heap.size):=by
     show _≤_
     have:=HST.out.below.size;simp;omega
    have HD:Hid ((k:Int)∈xs∨k=a):=(HPD.out k).1 hp;clear hp;by_cases hka:k=a
    ·subst hka;go_wp2_with (first
      |(refine wpList_app1 _ rfl (.tmp 20) (.tmp 22) rfl w.heap.size _ (upTo P k) rfl HO.out wr k rfl rfl HL.out HZ.out ?_)
      |fail)
     intro v' w3 h1 h2;have HF:Hid (LIS w P (k+1) v' w3):=⟨by rw[HN.out];exact h1,(HST.out.below.alloc HST.out.below.size _).trans h2⟩
     clear h1 h2 HO HZ HL;go_wp2;go_roundw
     case rel=>exact⟨k+1,_,by omega,by go_num,rfl,HF.out⟩
     case measure=>simp[intOf];omega
    ·have hka':¬ ((k:Int)=(a:Int)):=by omega
     have HM:Hid (memB (k:Int) xs=true):=memB_yes (HD.out.resolve_right hka);clear hka;go_wp2_with fail;refine(holds_any ad n cap xs k _ HNX.out hm (HA.out.below HST.out.below)).mono ?_;rintro e w2 ⟨rfl,rfl⟩;rw[HM.out];go_wp2_with (first
      |(refine wpList_app1 _ rfl (.tmp 20) (.tmp 22) rfl w.heap.size _ (upTo P k) rfl HO.out _ k rfl rfl HL.out HZ.out ?_)
      |fail)
     intro v' w3 h1 h2;have HF:Hid (LIS w P (k+1) v' w3):=⟨by rw[HN.out];exact h1,(HST.out.below.alloc HST.out.below.size _).trans h2⟩
     clear h1 h2 HO HZ HL;go_wp2;go_roundw
     case rel=>exact⟨k+1,_,by omega,by go_num,rfl,HF.out⟩
     case measure=>simp[intOf];omega
   ·have HF:Hid (LIS w P (k+1) l wr):=⟨by rw[upTo_succ,if_neg hp];exact HST.out.own,HST.out.below⟩
    have hka':¬ ((k:Int)=(a:Int)):=fun h=>hp ((HPD.out k).2 (.inr (by omega)))
    have HM:Hid (memB (k:Int) xs=false):=memB_no (fun h=>hp ((HPD.out k).2 (.inl h)));clear hp;go_wp2_with fail;refine(holds_any ad n cap xs k _ HNX.out hm (HA.out.below HST.out.below)).mono ?_;rintro e w2 ⟨rfl,rfl⟩;rw[HM.out];go_wp2;go_roundw
    case rel=>exact⟨k+1,_,by omega,by go_num,rfl,HF.out⟩
    case measure=>simp[intOf];omega
  ·have hke:k=256:=by omega
   subst hke;have HF:Hid (∃ v,Ending.returned l=.returned v∧Iow w.heap.size wr v (withS xs a)∧Below w.heap.size w wr):=⟨l,rfl,by rw[HW.out];exact hst.own,hst.below⟩
   clear hst;go_wp2
   go_ret
   exact HF.out
structure LES (w:World) (xs:List Int) (a k:Nat) (v:Value) (wr:World):Prop where
 own:Iow w.heap.size wr v (lessS (xs.take k) a)
 below:Below w.heap.size w wr
theorem less_yes {xs:List Int} {a k:Nat} (h:k<xs.length) (hne:¬ xs.getD k 0=(a:Int)):lessS (xs.take (k+1)) a=lessS (xs.take k) a++[xs.getD k 0]:=by
 unfold lessS
 rw[take_snoc xs k h,List.filter_append]
 simp;simpa[List.getD] using hne
theorem less_no {xs:List Int} {a k:Nat} (h:k<xs.length) (he:xs.getD k 0=(a:Int)):lessS (xs.take (k+1)) a=lessS (xs.take k) a:=by
 unfold lessS
 rw[take_snoc xs k h,List.filter_append]
 simp;simpa[List.getD] using he
theorem less_len (xs:List Int) (a k:Nat):(lessS (xs.take k) a).length≤k:=by
 unfold lessS
 exact Nat.le_trans (List.length_filter_le _ _) (by rw[List.length_take];omega)
set_option maxRecDepth 100000 in
set_option maxHeartbeats 1000000 in
theorem less_any (ad:Option Addr) (n cap:Nat) (xs:List Int) (a:Nat) (w:World) (hn:xs.length=n) (hm:n≤1048576) (ha:At .i64 w ad xs) :
  Calls Tryz.prog 126 #[.slice ad n cap,.int .i64 a] w fun e w'=>∃ v,e=.returned v∧Iow w.heap.size w' v (lessS xs a)∧Below w.heap.size w w':=by
 have HA:Hid (At .i64 w ad xs):=ha
 have HNX:Hid (xs.length=n):=hn
 have H0:Hid (LES w xs a 0 (.slice (some ⟨w.heap.size,0,none⟩) 0 0) (w.alloc (.cells #[] 2))):=
  ⟨⟨by simp[lessS],.inr ⟨w.heap.size,0,#[],rfl,Nat.le_refl _,heap_alloc_new w _,Nat.le_refl _,by simp[maxLen],rfl,rfl⟩⟩,(Below.refl _ _).alloc (Nat.le_refl _) _⟩
 clear ha hn
 go_enter Tryz.func126,Tryz.ntmps126
 go_wp2_with fail
 go_loopw [5,6] (fun l i wr=>∃(k:Nat) (v:Value),k≤n∧i=.int .i64 k∧v=l∧LES w xs a k v wr) (fun _ i _=>n-(intOf i).toNat)
 case atStart=>exact⟨0,_,by omega,rfl,rfl,H0.out⟩
 case round=>
  clear H0;obtain⟨k,l,hk,rfl,rfl,hst⟩:=hrel;by_cases hlt:k<n
  ·have hlt':(k:Int)<n:=by omega
   have HST:Hid (LES w xs a k l wr):=hst;obtain⟨b,off,ea,hb,hc⟩:=(HA.out.below hst.below).get (by have:=HNX.out;omega);have hck:=hc k (by have:=HNX.out;omega);subst ea;clear hst hc hb;have HLT:Hid (k<xs.length):=by show _<_;have:=HNX.out;omega
   by_cases hne:xs.getD k 0=(a:Int)
   ·have HF:Hid (LES w xs a (k+1) l wr):=⟨by rw[less_no HLT.out hne];exact HST.out.own,HST.out.below⟩
    rw[hne] at hck;clear hne;go_wp2;go_roundw
    case rel=>exact⟨k+1,_,by omega,by go_num,rfl,HF.out⟩
    case measure=>simp[intOf];omega
   ·have HN:Hid (lessS (xs.take (k+1)) a=lessS (xs.take k) a++[xs.getD k 0]):=less_yes HLT.out hne;have HL:Hid ((lessS (xs.take k) a).length≤1048576):=Nat.le_trans (less_len xs a k) (by omega);generalize xs.getD k 0=z at *;have HO:Hid (Iow w.heap.size (wr.alloc (.cells #[.int .i64 z] 2)) l (lessS (xs.take k) a)):=HST.out.own.alloc _;have HZ:Hid (w.heap.size≤(wr.alloc (.cells #[.int .i64 z] 2)).heap.size):=by
     show _≤_
     have:=HST.out.below.size;simp;omega
    go_wp2_with (first
     |(refine wpList_app1 _ rfl (.tmp 20) (.tmp 25) rfl w.heap.size _ (lessS (xs.take k) a) rfl HO.out wr z rfl rfl HL.out HZ.out ?_)
     |fail)
    intro v' w3 h1 h2;have HF:Hid (LES w xs a (k+1) v' w3):=⟨by rw[HN.out];exact h1,(HST.out.below.alloc HST.out.below.size _).trans h2⟩
    clear h1 h2 HO HZ HL hck;go_wp2;go_roundw
    case rel=>exact⟨k+1,_,by omega,by go_num,rfl,HF.out⟩
    case measure=>simp[intOf];omega
  ·have hke:k=n:=by omega
   have hlt':¬ ((k:Int)<n):=by omega
   have HF:Hid (∃ v,Ending.returned l=.returned v∧Iow w.heap.size wr v (lessS xs a)∧Below w.heap.size w wr):=⟨l,rfl,by
    have:=hst.own
    rwa [List.take_of_length_le (by have:=HNX.out;omega)] at this,hst.below⟩
   clear hst hke;go_wp2
   go_ret
   exact HF.out
def mks (k:Int) (n:Nat):List Int:=(List.range n).map (fun i:Nat=>k+(i:Int))
theorem mks_len (k:Int) (n:Nat):(mks k n).length=n:=by simp[mks]
theorem mks_get (k:Int) (n i:Nat) (h:i<n):(mks k n).getD i 0=k+i:=by simp[mks,h]
set_option maxHeartbeats 400000 in
theorem markI_any (a:Option Addr) (n cap:Nat) (k:Int) (w:World) (ho:Open w a n) (hk:0≤k) (hk':k+n≤1099511627776) :
  Calls Tryz.prog 92 #[.slice a n cap,.int .i64 k] w fun e w'=>e=.returned (.int .i64 (k+n))∧At .i64 w' a (mks k n)∧WrO a w w':=by
 go_enter Tryz.func92,Tryz.ntmps92
 go_wp2
 go_loopw [1,5] (fun q i wr=>∃ j:Nat,j≤n∧i=.int .i64 j∧q=.int .i64 (k+j)∧WrO a w wr∧
   (n=0∨∃ g o,a=some ⟨g,o,none⟩∧g<w.heap.size∧(∀ t,t<n→(wr.cell? ⟨g,o+t,none⟩).isSome=true∧wr.frozen? ⟨g,o+t,none⟩=false)∧∀ t,t<j→wr.cell? ⟨g,o+t,none⟩=some (.int .i64 (k+(t:Int))))) (fun _ i _=>n-(intOf i).toNat)
 case atStart=>
  refine⟨0,Nat.zero_le _,rfl,by simp,WrO.refl _ _,?_⟩;rcases ho with h|⟨g,o,h1,h2,h3⟩
  ·exact .inl h
  ·exact .inr ⟨g,o,h1,h2,h3,fun t ht=>by omega⟩
 case round=>
  obtain⟨j,hj,rfl,rfl,hwr,hs⟩:=hrel;by_cases hlt:j<n
  ·rcases hs with h|⟨g,o,rfl,hg,hc,hd⟩
   ·omega
   ·obtain⟨hc1,hf1⟩:=hc j hlt;obtain⟨v0,hv0⟩:=Option.isSome_iff_exists.1 hc1;have HW:Hid (WrO (some ⟨g,o,none⟩) w (wr.setCell ⟨g,o+j,none⟩ (.int .i64 (k+(j:Int))))):=hwr.setCell _ rfl _ _;have HC:Hid (∀ t,t<n→((wr.setCell ⟨g,o+j,none⟩ (.int .i64 (k+(j:Int)))).cell? ⟨g,o+t,none⟩).isSome=true∧(wr.setCell ⟨g,o+j,none⟩ (.int .i64 (k+(j:Int)))).frozen? ⟨g,o+t,none⟩=false):=by
     intro t ht;obtain⟨u,hu⟩:=Option.isSome_iff_exists.1 (hc t ht).1;obtain⟨u',hu'⟩:=cell?_setCell_some (w:=wr) (p:=⟨g,o+j,none⟩) (x:=.int .i64 (k+(j:Int))) (q:=⟨g,o+t,none⟩) (v:=u) hu;refine⟨by rw[hu'];rfl,?_⟩;rw[World.frozen?_setCell];exact(hc t ht).2
    have HD:Hid (∀ t,t<j+1→(wr.setCell ⟨g,o+j,none⟩ (.int .i64 (k+(j:Int)))).cell? ⟨g,o+t,none⟩=some (.int .i64 (k+(t:Int)))):=by
     intro t ht;by_cases e:t=j
     ·subst e;exact World.cell?_setCell_same _ _ _ hv0
     ·rw[World.cell?_setCell_other _ _ _ _ (by simp;try omega)];exact hd t (by omega)
    clear hc hd hwr ho hc1;go_wp2;go_roundw
    case rel=>exact⟨j+1,by omega,by go_num,by go_num,HW.out,.inr ⟨g,o,rfl,hg,HC.out,HD.out⟩⟩
    case measure=>simp[intOf];omega
  ·have hjn:j=n:=by omega
   subst hjn;have HA:Hid (At .i64 wr a (mks k j)):=by
    rcases hs with h|⟨g,o,rfl,hg,hc,hd⟩
    ·subst h;exact .inl rfl
    ·exact .inr ⟨g,o,rfl,by rw[hwr.size];exact hg,fun i hi=>by rw[mks_len] at hi;rw[hd i hi,mks_get k j i hi]⟩
   clear hs ho;go_wp2
   go_ret
   exact⟨rfl,HA.out,hwr⟩
set_option maxHeartbeats 400000 in
theorem heldI_any (a:Option Addr) (n cap:Nat) (k:Int) (w:World) (ha:At .i64 w a (mks k n)) (hk:0≤k) (hk':k+n≤1099511627776) :
  Calls Tryz.prog 94 #[.slice a n cap,.int .i64 k] w fun e w'=>e=.returned (.int .i64 (k+n))∧w'=w:=by
 go_enter Tryz.func94,Tryz.ntmps94
 go_wp2
 go_loop [1,5] (fun q i=>∃ j:Nat,j≤n∧i=.int .i64 j∧q=.int .i64 (k+j)) (fun _ i=>n-(intOf i).toNat)
 case atStart=>exact⟨0,Nat.zero_le _,rfl,by simp⟩
 case round=>
  obtain⟨j,hj,rfl,rfl⟩:=hrel;by_cases hlt:j<n
  ·obtain⟨b,off,rfl,hb,hc⟩:=ha.get (by rw[mks_len];omega);have hcj:=hc j (by rw[mks_len];omega);rw[mks_get k n j hlt] at hcj;have hne:((k+(j:Int)) != (k+(j:Int)))=false:=by simp
   clear hc ha;go_wp2
   go_round
   case rel=>exact⟨j+1,by omega,by go_num,by go_num⟩
   case measure=>simp[intOf];omega
  ·have hjn:j=n:=by omega
   subst hjn;go_wp2
   go_ret
   exact⟨rfl,rfl⟩
set_option maxHeartbeats 1000000 in
theorem markT_any (a:Option Addr) (n cap:Nat) (k:Int) (w:World) (ho:Open w a (n*2)) (hk:0≤k) (hk':k+n*2≤1099511627776) :
  Calls Tryz.prog 93 #[.slice a n cap,.int .i64 k] w fun e w'=>e=.returned (.int .i64 (k+n*2))∧At .i64 w' a (mks k (n*2))∧WrO a w w':=by
 go_enter Tryz.func93,Tryz.ntmps93
 go_wp2
 go_loopw [1,5] (fun q i wr=>∃ j:Nat,j≤n∧i=.int .i64 j∧q=.int .i64 (k+j*2)∧WrO a w wr∧
   (n=0∨∃ g o,a=some ⟨g,o,none⟩∧g<w.heap.size∧(∀ t,t<n*2→(wr.cell? ⟨g,o+t,none⟩).isSome=true∧wr.frozen? ⟨g,o+t,none⟩=false)∧∀ t,t<j*2→wr.cell? ⟨g,o+t,none⟩=some (.int .i64 (k+(t:Int))))) (fun _ i _=>n-(intOf i).toNat)
 case atStart=>
  refine⟨0,Nat.zero_le _,rfl,by simp,WrO.refl _ _,?_⟩;rcases ho with h|⟨g,o,h1,h2,h3⟩
  ·exact .inl (by omega)
  ·exact .inr ⟨g,o,h1,h2,h3,fun t ht=>by omega⟩
 case round=>
  obtain⟨j,hj,rfl,rfl,hwr,hs⟩:=hrel;by_cases hlt:j<n
  ·rcases hs with h|⟨g,o,rfl,hg,hc,hd⟩
   ·omega
   ·have hlt':(j:Int)<n:=by omega
    have hst:∀(W:World) (p:Nat) (x:Int),(∀ t,t<n*2→(W.cell? ⟨g,o+t,none⟩).isSome=true∧W.frozen? ⟨g,o+t,none⟩=false)→∀ t,t<n*2→((W.setCell ⟨g,p,none⟩ (.int .i64 x)).cell? ⟨g,o+t,none⟩).isSome=true∧(W.setCell ⟨g,p,none⟩ (.int .i64 x)).frozen? ⟨g,o+t,none⟩=false:=by
     intro W p x hW t ht;obtain⟨u,hu⟩:=Option.isSome_iff_exists.1 (hW t ht).1;obtain⟨u',hu'⟩:=cell?_setCell_some (w:=W) (p:=⟨g,p,none⟩) (x:=.int .i64 x) (q:=⟨g,o+t,none⟩) (v:=u) hu;refine⟨by rw[hu'];rfl,?_⟩;rw[World.frozen?_setCell];exact(hW t ht).2
    obtain⟨hc1,f0⟩:=hc (j*2) (by omega);obtain⟨v0,c0⟩:=Option.isSome_iff_exists.1 hc1;have hc':=hst wr (o+j*2) (k+j*2) hc;obtain⟨hc2,f1⟩:=hc' (j*2+1) (by omega);obtain⟨v1,c1⟩:=Option.isSome_iff_exists.1 hc2;have HC:Hid (∀ t,t<n*2→(((wr.setCell ⟨g,o+j*2,none⟩ (.int .i64 (k+j*2))).setCell ⟨g,o+j*2+1,none⟩ (.int .i64 (k+j*2+1))).cell? ⟨g,o+t,none⟩).isSome=true∧((wr.setCell ⟨g,o+j*2,none⟩ (.int .i64 (k+j*2))).setCell ⟨g,o+j*2+1,none⟩ (.int .i64 (k+j*2+1))).frozen? ⟨g,o+t,none⟩=false):=hst _ _ _ hc';have HW:Hid (WrO (some ⟨g,o,none⟩) w ((wr.setCell ⟨g,o+j*2,none⟩ (.int .i64 (k+j*2))).setCell ⟨g,o+j*2+1,none⟩ (.int .i64 (k+j*2+1)))):=(hwr.setCell _ rfl _ _).setCell _ rfl _ _;rw[←Nat.add_assoc] at c1 f1;have HD:Hid (∀ t,t<(j+1)*2→((wr.setCell ⟨g,o+j*2,none⟩ (.int .i64 (k+j*2))).setCell ⟨g,o+j*2+1,none⟩ (.int .i64 (k+j*2+1))).cell? ⟨g,o+t,none⟩=some (.int .i64 (k+(t:Int)))):=by
     intro t ht;by_cases e:t=j*2+1
     ·subst e;rw[←Nat.add_assoc,World.cell?_setCell_same _ _ _ c1];rw[show k+(((j*2+1:Nat)):Int)=k+j*2+1 by omega]
     ·rw[World.cell?_setCell_other _ _ _ _ (by simp;try omega)];by_cases e2:t=j*2
      ·subst e2;rw[World.cell?_setCell_same _ _ _ c0];rw[show k+(((j*2:Nat)):Int)=k+j*2 by omega]
      ·rw[World.cell?_setCell_other _ _ _ _ (by simp;try omega)];exact hd t (by omega)
    clear hc hd hwr ho hc1 hc2 hc' hst;go_wp2;go_roundw
    case rel=>exact⟨j+1,by omega,by go_num,by go_num,HW.out,.inr ⟨g,o,rfl,hg,HC.out,HD.out⟩⟩
    case measure=>simp[intOf];omega
  ·have hjn:j=n:=by omega
   subst hjn;have HA:Hid (At .i64 wr a (mks k (j*2))):=by
    rcases hs with h|⟨g,o,rfl,hg,hc,hd⟩
    ·subst h;exact .inl rfl
    ·exact .inr ⟨g,o,rfl,by rw[hwr.size];exact hg,fun i hi=>by rw[mks_len] at hi;rw[hd i hi,mks_get k _ i hi]⟩
   clear hs ho;go_wp2
   go_ret
   exact⟨rfl,HA.out,hwr⟩
end Go.Proofs.YthmeoilbmfdhfaaGreat
