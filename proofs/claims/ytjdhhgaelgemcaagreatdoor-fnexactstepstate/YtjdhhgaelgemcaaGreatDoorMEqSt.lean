import Derived.Test.YtjdhhgaelgemcaaGreatDoorMSvF
import Derived.Deep.Cut
import Derived.Test.YtjdhhgaelgemcaaGreatDoorMBase
import Derived.Test.YtjdhhgaelgemcaaGreatDoorMSwA
import Derived.Test.YtjdhhgaelgemcaaGreatDoorMApx
import Derived.Test.YtjdhhgaelgemcaaGreatDoorMCatC
import Derived.Lib.SmallJoins
import Derived.Test.YtjdhhgaelgemcaaGreatDoorMSvE
namespace Go.Proofs.YtjdhhgaelgemcaaGreatDoor
open Go.ChangeShapes Go.WideShapes Go.ChangeAt Go.RowKit
set_option linter.unusedVariables false
set_option maxRecDepth 100000 in
set_option maxHeartbeats 4000000 in
theorem eqSt_any (aD bD aU bU aT bT:Option Addr) (nD cD dD nU cU dU nT cT dT:Nat) (D U T:List Int) (k:Int) (w:World) (hD:D.length=nD) (hU:U.length=nU) (hT:T.length=nT*2) (mD:nD≤1048576) (mU:nU≤1048576) (mT:nT≤1048576) (AD:At .i64 w aD D) (BD:At .i64 w bD D) (AU:At .i64 w aU U) (BU:At .i64 w bU U) (AT:At .i64 w aT T) (BT:At .i64 w bT T) :
  Calls Tryz.prog 12 #[.agg #[.slice aD nD cD,.slice aU nU cU,.int .i64 k,.slice aT nT cT],.agg #[.slice bD nD dD,.slice bU nU dU,.int .i64 k,.slice bT nT dT]] w fun e w'=>e=.returned (.bool true)∧Below w.heap.size w w':=by
 have HE0:Hid (BE w 33 #[.slice aD nD cD,.slice aU nU cU,.int .i64 k,.slice aT nT cT] #[.slice bD nD dD,.slice bU nU dU,.int .i64 k,.slice bT nT dT] ((w.alloc (.cells #[.slice aD nD cD,.slice aU nU cU,.int .i64 k,.slice aT nT cT] 33)).alloc (.cells #[.slice bD nD dD,.slice bU nU dU,.int .i64 k,.slice bT nT dT] 33))):=BE.start _ _ _ _;have HAD:Hid (At .i64 w aD D∧At .i64 w bD D):=⟨AD,BD⟩
 have HLD:Hid (D.length=nD):=hD;have HAU:Hid (At .i64 w aU U∧At .i64 w bU U):=⟨AU,BU⟩
 have HLU:Hid (U.length=nU):=hU;have HAT:Hid (At .i64 w aT T∧At .i64 w bT T):=⟨AT,BT⟩
 have HLT:Hid (T.length=nT*2):=hT;clear AD BD hD AU BU hU AT BT hT;have nek:(k != k)=false:=by simp
 go_enter Tryz.func12,Tryz.ntmps12;go_wp2_with fail;generalize ((w.alloc (.cells #[.slice aD nD cD,.slice aU nU cU,.int .i64 k,.slice aT nT cT] 33)).alloc (.cells #[.slice bD nD dD,.slice bU nU dU,.int .i64 k,.slice bT nT dT] 33))=w0 at *;refine(eqI_any _ _ nD _ _ D _ HLD.out mD (HAD.out.1.below HE0.out.below) (HAD.out.2.below HE0.out.below)).mono ?_;rintro e w1 ⟨rfl,q0,hq⟩;have hb:Below w0.heap.size w0 w1:=by rw[hq];exact below_dq (Below.refl _ _) _
 clear hq;have HE1:Hid (BE w 33 #[.slice aD nD cD,.slice aU nU cU,.int .i64 k,.slice aT nT cT] #[.slice bD nD dD,.slice bU nU dU,.int .i64 k,.slice bT nT dT] w1):=HE0.out.call hb;clear hb HE0;have x1:w1.cell? ⟨w.heap.size,1,none⟩=some (.slice aU nU cU):=by rw[cell_of_row w1 w.heap.size 1 _ _ _ HE1.out.b0];rfl
 have y1:w1.cell? ⟨w.heap.size+1,1,none⟩=some (.slice bU nU dU):=by rw[cell_of_row w1 (w.heap.size+1) 1 _ _ _ HE1.out.b1];rfl
 go_wp2_with fail;clear x1 y1;refine(eqI_any _ _ nU _ _ U _ HLU.out mU (HAU.out.1.below HE1.out.below) (HAU.out.2.below HE1.out.below)).mono ?_;rintro e w2 ⟨rfl,q1,hq⟩;have hb:Below w1.heap.size w1 w2:=by rw[hq];exact below_dq (Below.refl _ _) _
 clear hq;have HE2:Hid (BE w 33 #[.slice aD nD cD,.slice aU nU cU,.int .i64 k,.slice aT nT cT] #[.slice bD nD dD,.slice bU nU dU,.int .i64 k,.slice bT nT dT] w2):=HE1.out.call hb;clear hb HE1;have x2:w2.cell? ⟨w.heap.size,2,none⟩=some (.int .i64 k):=by rw[cell_of_row w2 w.heap.size 2 _ _ _ HE2.out.b0];rfl
 have y2:w2.cell? ⟨w.heap.size+1,2,none⟩=some (.int .i64 k):=by rw[cell_of_row w2 (w.heap.size+1) 2 _ _ _ HE2.out.b1];rfl
 have x3:w2.cell? ⟨w.heap.size,3,none⟩=some (.slice aT nT cT):=by rw[cell_of_row w2 w.heap.size 3 _ _ _ HE2.out.b0];rfl
 have y3:w2.cell? ⟨w.heap.size+1,3,none⟩=some (.slice bT nT dT):=by rw[cell_of_row w2 (w.heap.size+1) 3 _ _ _ HE2.out.b1];rfl
 go_wp2_with fail;clear x2 y2 x3 y3;refine(eqTS_any _ _ nT _ _ T _ HLT.out mT (HAT.out.1.below HE2.out.below) (HAT.out.2.below HE2.out.below)).mono ?_;rintro e w3 ⟨rfl,hb⟩;have HE3:Hid (BE w 33 #[.slice aD nD cD,.slice aU nU cU,.int .i64 k,.slice aT nT cT] #[.slice bD nD dD,.slice bU nU dU,.int .i64 k,.slice bT nT dT] w3):=HE2.out.call hb;clear hb HE2;have HF:Hid (Below w.heap.size w w3):=HE3.out.below;clear HE3;go_wp2
 go_ret
 exact⟨rfl,HF.out⟩
def marks (k:Int) (n:Nat):List Int:=(List.range n).map (fun i:Nat=>(k+(i:Int))%256)
theorem marks_len (k:Int) (n:Nat):(marks k n).length=n:=by simp[marks]
theorem marks_get (k:Int) (n i:Nat) (h:i<n):(marks k n).getD i 0=(k+i)%256:=by simp[marks,h]
set_option maxHeartbeats 400000 in
theorem markB_any (a:Option Addr) (n cap:Nat) (k:Int) (w:World) (ho:Open w a n) (hk:0≤k) (hk':k+n≤1099511627776) :
  Calls Tryz.prog 16 #[.slice a n cap,.int .i64 k] w fun e w'=>e=.returned (.int .i64 (k+n))∧At .u8 w' a (marks k n)∧WrO a w w':=by
 go_enter Tryz.func16,Tryz.ntmps16;go_wp2
 go_loopw [1,5] (fun q i wr=>∃ j:Nat,j≤n∧i=.int .i64 j∧q=.int .i64 (k+j)∧WrO a w wr∧
   (n=0∨∃ g o,a=some ⟨g,o,none⟩∧g<w.heap.size∧(∀ t,t<n→(wr.cell? ⟨g,o+t,none⟩).isSome=true∧wr.frozen? ⟨g,o+t,none⟩=false)∧∀ t,t<j→wr.cell? ⟨g,o+t,none⟩=some (.int .u8 ((k+(t:Int))%256)))) (fun _ i _=>n-(intOf i).toNat)
 case atStart=>
  refine⟨0,Nat.zero_le _,rfl,by simp,WrO.refl _ _,?_⟩;rcases ho with h|⟨g,o,h1,h2,h3⟩
  ·exact .inl h
  ·exact .inr ⟨g,o,h1,h2,h3,fun t ht=>by omega⟩
 case round=>
  obtain⟨j,hj,rfl,rfl,hwr,hs⟩:=hrel;by_cases hlt:j<n
  ·rcases hs with h|⟨g,o,rfl,hg,hc,hd⟩
   ·omega
   ·obtain⟨hc1,hf1⟩:=hc j hlt;obtain⟨v0,hv0⟩:=Option.isSome_iff_exists.1 hc1;have HW:Hid (WrO (some ⟨g,o,none⟩) w (wr.setCell ⟨g,o+j,none⟩ (.int .u8 ((k+(j:Int))%256)))):=hwr.setCell _ rfl _ _;have HC:Hid (∀ t,t<n→((wr.setCell ⟨g,o+j,none⟩ (.int .u8 ((k+(j:Int))%256))).cell? ⟨g,o+t,none⟩).isSome=true∧(wr.setCell ⟨g,o+j,none⟩ (.int .u8 ((k+(j:Int))%256))).frozen? ⟨g,o+t,none⟩=false):=by
     intro t ht;obtain⟨u,hu⟩:=Option.isSome_iff_exists.1 (hc t ht).1;obtain⟨u',hu'⟩:=cell?_setCell_some (w:=wr) (p:=⟨g,o+j,none⟩) (x:=.int .u8 ((k+(j:Int))%256)) (q:=⟨g,o+t,none⟩) (v:=u) hu;refine⟨by rw[hu'];rfl,?_⟩;rw[World.frozen?_setCell];exact(hc t ht).2
    have HD:Hid (∀ t,t<j+1→(wr.setCell ⟨g,o+j,none⟩ (.int .u8 ((k+(j:Int))%256))).cell? ⟨g,o+t,none⟩=some (.int .u8 ((k+(t:Int))%256))):=by
     intro t ht;by_cases e:t=j
     ·subst e;exact World.cell?_setCell_same _ _ _ hv0
     ·rw[World.cell?_setCell_other _ _ _ _ (by simp;try omega)];exact hd t (by omega)
    clear hc hd hwr ho hc1;go_wp2;go_roundw
    case rel=>exact⟨j+1,by omega,by go_num,by go_num,HW.out,.inr ⟨g,o,rfl,hg,HC.out,HD.out⟩⟩
    case measure=>simp[intOf];omega
  ·have hjn:j=n:=by omega
   subst hjn;have HA:Hid (At .u8 wr a (marks k j)):=by
    rcases hs with h|⟨g,o,rfl,hg,hc,hd⟩
    ·subst h;exact .inl rfl
    ·exact .inr ⟨g,o,rfl,by rw[hwr.size];exact hg,fun i hi=>by rw[marks_len] at hi;rw[hd i hi,marks_get k j i hi]⟩
   clear hs ho;go_wp2
   go_ret
   exact⟨rfl,HA.out,hwr⟩
structure ApR where
 ok:Bool
 D:List Int
 U:List Int
 k:Int
 T:List Int
 n:Nat
def apNo:ApR:=⟨false,[],[],0,[],0⟩
open Classical in
noncomputable def withS (xs:List Int) (a:Nat):List Int:=upTo (fun v=>decide ((v:Int)∈xs∨v=a)) 256
def lessS (xs:List Int) (a:Nat):List Int:=xs.filter (fun z=>z != (a:Int))
open Classical in
noncomputable def apR (D U:List Int) (k:Int) (T:List Int) (n:Nat) (kind:Int) (a b:Nat):ApR:=
 if kind=1 then(if a<256∧¬ (a:Int)∈U∧¬ (a:Int)∈D then ⟨true,D,withS U a,k,T++[(a:Int),(b:Int)],n+1⟩ else apNo)
 else if kind=2 then(if b=1∧a<256∧¬ (a:Int)∈D∧¬ D.length=16 then ⟨true,withS D a,U,k,T,n⟩ else if b=0∧a<256∧(a:Int)∈D then ⟨true,lessS D a,U,k,T,n⟩ else apNo)
 else if kind=3 then(if b=0∧(a:Int)≤k+n then ⟨true,D,U,max a k,T.drop (ackM k a*2),n-ackM k a⟩ else apNo)
 else apNo
theorem withS_mem {xs:List Int} {a v:Nat} (h:v<256):((v:Int)∈xs∨v=a)↔(v:Int)∈withS xs a:=by
 unfold withS;rw[upTo_mem];constructor
 ·intro hv;exact⟨v,h,decide_eq_true hv,rfl⟩
 ·rintro⟨v',h1,h2,h3⟩;have:v=v':=by omega
  subst this;exact of_decide_eq_true h2
theorem lessS_mem {xs:List Int} {a v:Nat}:((v:Int)∈xs∧v≠a)↔(v:Int)∈lessS xs a:=by
 unfold lessS;rw[List.mem_filter];constructor
 ·rintro⟨h1,h2⟩;exact⟨h1,by rw[bne_iff_ne];omega⟩
 ·rintro⟨h1,h2⟩;exact⟨h1,by rw[bne_iff_ne] at h2;omega⟩
open Classical in
set_option maxRecDepth 100000 in
set_option maxHeartbeats 1000000 in
theorem with_any (ad:Option Addr) (n cap:Nat) (xs:List Int) (a:Nat) (w:World) (hn:xs.length=n) (hm:n≤1048576) (ha:At .i64 w ad xs) :
  Calls Tryz.prog 42 #[.slice ad n cap,.int .i64 a] w fun e w'=>∃ v,e=.returned v∧IO w.heap.size w' v (withS xs a)∧Below w.heap.size w w':=by
 have HW:Hid (withS xs a=upTo (fun v=>decide ((v:Int)∈xs∨v=a)) 256):=rfl;have HPD:Hid (∀ v:Nat,(fun v:Nat=>decide ((v:Int)∈xs∨v=a)) v=true↔((v:Int)∈xs∨v=a)):=fun v=>by simp
 generalize (fun v:Nat=>decide ((v:Int)∈xs∨v=a))=P at HW HPD;have HA:Hid (At .i64 w ad xs):=ha;have HNX:Hid (xs.length=n):=hn;have H0:Hid (LIS w P 0 (.slice (some ⟨w.heap.size,0,none⟩) 0 0) (w.alloc (.cells #[] 2))):=
  ⟨⟨by simp[upTo],.inr ⟨w.heap.size,0,#[],rfl,Nat.le_refl _,heap_alloc_new w _,Nat.le_refl _,by simp[maxLen],rfl,rfl⟩⟩,(Below.refl _ _).alloc (Nat.le_refl _) _⟩
 clear ha hn;go_enter Tryz.func42,Tryz.ntmps42;go_wp2_with fail
 go_loopw [5,6] (fun l i wr=>∃(k:Nat) (v:Value),k≤256∧i=.int .i64 k∧v=l∧LIS w P k v wr) (fun _ i _=>256-(intOf i).toNat)
 case atStart=>exact⟨0,_,by omega,rfl,rfl,H0.out⟩
 case round=>
  clear H0;obtain⟨k,l,hk,rfl,rfl,hst⟩:=hrel;by_cases hlt:k<256
  ·have hlt':(k:Int)<256:=by omega
   have HST:Hid (LIS w P k l wr):=hst;clear hst;by_cases hp:P k=true
   ·have HN:Hid (upTo P (k+1)=upTo P k++[(k:Int)]):=by show _=_;rw[upTo_succ,if_pos hp]
    have HL:Hid ((upTo P k).length≤1048576):=Nat.le_trans (upTo_len P k) (by omega);have HO:Hid (IO w.heap.size (wr.alloc (.cells #[.int .i64 (k:Int)] 2)) l (upTo P k)):=HST.out.own.alloc _;have HZ:Hid (w.heap.size≤(wr.alloc (.cells #[.int .i64 (k:Int)] 2)).heap.size):=by
     show _≤_
     have:=HST.out.below.size;simp;omega
    have HD:Hid ((k:Int)∈xs∨k=a):=(HPD.out k).1 hp;clear hp;by_cases hka:k=a
    ·subst hka;go_wp2_with (first
      |(refine wpList_app1 _ rfl (.tmp 20) (.tmp 22) rfl w.heap.size _ (upTo P k) rfl HO.out wr k rfl rfl HL.out HZ.out ?_)
      |fail)
     intro v' w3 h1 h2;have HF:Hid (LIS w P (k+1) v' w3):=⟨by rw[HN.out];exact h1,(HST.out.below.alloc HST.out.below.size _).trans h2⟩
     clear h1 h2 HO HZ HL;go_wp2;go_roundw
     case rel=>exact⟨k+1,_,by omega,by go_num,rfl,HF.out⟩
     case measure=>simp[intOf];omega
    ·have hka':¬ ((k:Int)=(a:Int)):=by omega
     have HM:Hid (memB (k:Int) xs=true):=memB_yes (HD.out.resolve_right hka);clear hka;go_wp2_with fail;refine(holds_any ad n cap xs k _ HNX.out hm (HA.out.below HST.out.below)).mono ?_;rintro e w2 ⟨rfl,rfl⟩;rw[HM.out];go_wp2_with (first
      |(refine wpList_app1 _ rfl (.tmp 20) (.tmp 22) rfl w.heap.size _ (upTo P k) rfl HO.out _ k rfl rfl HL.out HZ.out ?_)
      |fail)
     intro v' w3 h1 h2;have HF:Hid (LIS w P (k+1) v' w3):=⟨by rw[HN.out];exact h1,(HST.out.below.alloc HST.out.below.size _).trans h2⟩
     clear h1 h2 HO HZ HL;go_wp2;go_roundw
     case rel=>exact⟨k+1,_,by omega,by go_num,rfl,HF.out⟩
     case measure=>simp[intOf];omega
   ·have HF:Hid (LIS w P (k+1) l wr):=⟨by rw[upTo_succ,if_neg hp];exact HST.out.own,HST.out.below⟩
    have hka':¬ ((k:Int)=(a:Int)):=fun h=>hp ((HPD.out k).2 (.inr (by omega)))
    have HM:Hid (memB (k:Int) xs=false):=memB_no (fun h=>hp ((HPD.out k).2 (.inl h)));clear hp;go_wp2_with fail;refine(holds_any ad n cap xs k _ HNX.out hm (HA.out.below HST.out.below)).mono ?_;rintro e w2 ⟨rfl,rfl⟩;rw[HM.out];go_wp2;go_roundw
    case rel=>exact⟨k+1,_,by omega,by go_num,rfl,HF.out⟩
    case measure=>simp[intOf];omega
  ·have hke:k=256:=by omega
   subst hke;have HF:Hid (∃ v,Ending.returned l=.returned v∧IO w.heap.size wr v (withS xs a)∧Below w.heap.size w wr):=⟨l,rfl,by rw[HW.out];exact hst.own,hst.below⟩
   clear hst;go_wp2
   go_ret
   exact HF.out
structure LES (w:World) (xs:List Int) (a k:Nat) (v:Value) (wr:World):Prop where
 own:IO w.heap.size wr v (lessS (xs.take k) a)
 below:Below w.heap.size w wr
theorem less_yes {xs:List Int} {a k:Nat} (h:k<xs.length) (hne:¬ xs.getD k 0=(a:Int)):lessS (xs.take (k+1)) a=lessS (xs.take k) a++[xs.getD k 0]:=by
 unfold lessS;rw[take_snoc xs k h,List.filter_append];simp;simpa[List.getD] using hne
theorem less_no {xs:List Int} {a k:Nat} (h:k<xs.length) (he:xs.getD k 0=(a:Int)):lessS (xs.take (k+1)) a=lessS (xs.take k) a:=by
 unfold lessS;rw[take_snoc xs k h,List.filter_append];simp;simpa[List.getD] using he
theorem less_len (xs:List Int) (a k:Nat):(lessS (xs.take k) a).length≤k:=by
 unfold lessS;exact Nat.le_trans (List.length_filter_le _ _) (by rw[List.length_take];omega)
set_option maxRecDepth 100000 in
set_option maxHeartbeats 1000000 in
theorem less_any (ad:Option Addr) (n cap:Nat) (xs:List Int) (a:Nat) (w:World) (hn:xs.length=n) (hm:n≤1048576) (ha:At .i64 w ad xs) :
  Calls Tryz.prog 43 #[.slice ad n cap,.int .i64 a] w fun e w'=>∃ v,e=.returned v∧IO w.heap.size w' v (lessS xs a)∧Below w.heap.size w w':=by
 have HA:Hid (At .i64 w ad xs):=ha;have HNX:Hid (xs.length=n):=hn;have H0:Hid (LES w xs a 0 (.slice (some ⟨w.heap.size,0,none⟩) 0 0) (w.alloc (.cells #[] 2))):=
  ⟨⟨by simp[lessS],.inr ⟨w.heap.size,0,#[],rfl,Nat.le_refl _,heap_alloc_new w _,Nat.le_refl _,by simp[maxLen],rfl,rfl⟩⟩,(Below.refl _ _).alloc (Nat.le_refl _) _⟩
 clear ha hn;go_enter Tryz.func43,Tryz.ntmps43;go_wp2_with fail
 go_loopw [5,6] (fun l i wr=>∃(k:Nat) (v:Value),k≤n∧i=.int .i64 k∧v=l∧LES w xs a k v wr) (fun _ i _=>n-(intOf i).toNat)
 case atStart=>exact⟨0,_,by omega,rfl,rfl,H0.out⟩
 case round=>
  clear H0;obtain⟨k,l,hk,rfl,rfl,hst⟩:=hrel;by_cases hlt:k<n
  ·have hlt':(k:Int)<n:=by omega
   have HST:Hid (LES w xs a k l wr):=hst;obtain⟨b,off,ea,hb,hc⟩:=(HA.out.below hst.below).get (by have:=HNX.out;omega);have hck:=hc k (by have:=HNX.out;omega);subst ea;clear hst hc hb;have HLT:Hid (k<xs.length):=by show _<_;have:=HNX.out;omega
   by_cases hne:xs.getD k 0=(a:Int)
   ·have HF:Hid (LES w xs a (k+1) l wr):=⟨by rw[less_no HLT.out hne];exact HST.out.own,HST.out.below⟩
    rw[hne] at hck;clear hne;go_wp2;go_roundw
    case rel=>exact⟨k+1,_,by omega,by go_num,rfl,HF.out⟩
    case measure=>simp[intOf];omega
   ·have HN:Hid (lessS (xs.take (k+1)) a=lessS (xs.take k) a++[xs.getD k 0]):=less_yes HLT.out hne;have HL:Hid ((lessS (xs.take k) a).length≤1048576):=Nat.le_trans (less_len xs a k) (by omega);generalize xs.getD k 0=z at *;have HO:Hid (IO w.heap.size (wr.alloc (.cells #[.int .i64 z] 2)) l (lessS (xs.take k) a)):=HST.out.own.alloc _;have HZ:Hid (w.heap.size≤(wr.alloc (.cells #[.int .i64 z] 2)).heap.size):=by
     show _≤_
     have:=HST.out.below.size;simp;omega
    go_wp2_with (first
     |(refine wpList_app1 _ rfl (.tmp 20) (.tmp 25) rfl w.heap.size _ (lessS (xs.take k) a) rfl HO.out wr z rfl rfl HL.out HZ.out ?_)
     |fail)
    intro v' w3 h1 h2;have HF:Hid (LES w xs a (k+1) v' w3):=⟨by rw[HN.out];exact h1,(HST.out.below.alloc HST.out.below.size _).trans h2⟩
    clear h1 h2 HO HZ HL hck;go_wp2;go_roundw
    case rel=>exact⟨k+1,_,by omega,by go_num,rfl,HF.out⟩
    case measure=>simp[intOf];omega
  ·have hke:k=n:=by omega
   have hlt':¬ ((k:Int)<n):=by omega
   have HF:Hid (∃ v,Ending.returned l=.returned v∧IO w.heap.size wr v (lessS xs a)∧Below w.heap.size w wr):=⟨l,rfl,by
    have:=hst.own
    rwa [List.take_of_length_le (by have:=HNX.out;omega)] at this,hst.below⟩
   clear hst hke;go_wp2
   go_ret
   exact HF.out
def mks (k:Int) (n:Nat):List Int:=(List.range n).map (fun i:Nat=>k+(i:Int))
theorem mks_len (k:Int) (n:Nat):(mks k n).length=n:=by simp[mks]
theorem mks_get (k:Int) (n i:Nat) (h:i<n):(mks k n).getD i 0=k+i:=by simp[mks,h]
set_option maxHeartbeats 400000 in
theorem markI_any (a:Option Addr) (n cap:Nat) (k:Int) (w:World) (ho:Open w a n) (hk:0≤k) (hk':k+n≤1099511627776) :
  Calls Tryz.prog 35 #[.slice a n cap,.int .i64 k] w fun e w'=>e=.returned (.int .i64 (k+n))∧At .i64 w' a (mks k n)∧WrO a w w':=by
 go_enter Tryz.func35,Tryz.ntmps35;go_wp2
 go_loopw [1,5] (fun q i wr=>∃ j:Nat,j≤n∧i=.int .i64 j∧q=.int .i64 (k+j)∧WrO a w wr∧
   (n=0∨∃ g o,a=some ⟨g,o,none⟩∧g<w.heap.size∧(∀ t,t<n→(wr.cell? ⟨g,o+t,none⟩).isSome=true∧wr.frozen? ⟨g,o+t,none⟩=false)∧∀ t,t<j→wr.cell? ⟨g,o+t,none⟩=some (.int .i64 (k+(t:Int))))) (fun _ i _=>n-(intOf i).toNat)
 case atStart=>
  refine⟨0,Nat.zero_le _,rfl,by simp,WrO.refl _ _,?_⟩;rcases ho with h|⟨g,o,h1,h2,h3⟩
  ·exact .inl h
  ·exact .inr ⟨g,o,h1,h2,h3,fun t ht=>by omega⟩
 case round=>
  obtain⟨j,hj,rfl,rfl,hwr,hs⟩:=hrel;by_cases hlt:j<n
  ·rcases hs with h|⟨g,o,rfl,hg,hc,hd⟩
   ·omega
   ·obtain⟨hc1,hf1⟩:=hc j hlt;obtain⟨v0,hv0⟩:=Option.isSome_iff_exists.1 hc1;have HW:Hid (WrO (some ⟨g,o,none⟩) w (wr.setCell ⟨g,o+j,none⟩ (.int .i64 (k+(j:Int))))):=hwr.setCell _ rfl _ _;have HC:Hid (∀ t,t<n→((wr.setCell ⟨g,o+j,none⟩ (.int .i64 (k+(j:Int)))).cell? ⟨g,o+t,none⟩).isSome=true∧(wr.setCell ⟨g,o+j,none⟩ (.int .i64 (k+(j:Int)))).frozen? ⟨g,o+t,none⟩=false):=by
     intro t ht;obtain⟨u,hu⟩:=Option.isSome_iff_exists.1 (hc t ht).1;obtain⟨u',hu'⟩:=cell?_setCell_some (w:=wr) (p:=⟨g,o+j,none⟩) (x:=.int .i64 (k+(j:Int))) (q:=⟨g,o+t,none⟩) (v:=u) hu;refine⟨by rw[hu'];rfl,?_⟩;rw[World.frozen?_setCell];exact(hc t ht).2
    have HD:Hid (∀ t,t<j+1→(wr.setCell ⟨g,o+j,none⟩ (.int .i64 (k+(j:Int)))).cell? ⟨g,o+t,none⟩=some (.int .i64 (k+(t:Int)))):=by
     intro t ht;by_cases e:t=j
     ·subst e;exact World.cell?_setCell_same _ _ _ hv0
     ·rw[World.cell?_setCell_other _ _ _ _ (by simp;try omega)];exact hd t (by omega)
    clear hc hd hwr ho hc1;go_wp2;go_roundw
    case rel=>exact⟨j+1,by omega,by go_num,by go_num,HW.out,.inr ⟨g,o,rfl,hg,HC.out,HD.out⟩⟩
    case measure=>simp[intOf];omega
  ·have hjn:j=n:=by omega
   subst hjn;have HA:Hid (At .i64 wr a (mks k j)):=by
    rcases hs with h|⟨g,o,rfl,hg,hc,hd⟩
    ·subst h;exact .inl rfl
    ·exact .inr ⟨g,o,rfl,by rw[hwr.size];exact hg,fun i hi=>by rw[mks_len] at hi;rw[hd i hi,mks_get k j i hi]⟩
   clear hs ho;go_wp2
   go_ret
   exact⟨rfl,HA.out,hwr⟩
set_option maxHeartbeats 400000 in
theorem heldI_any (a:Option Addr) (n cap:Nat) (k:Int) (w:World) (ha:At .i64 w a (mks k n)) (hk:0≤k) (hk':k+n≤1099511627776) :
  Calls Tryz.prog 55 #[.slice a n cap,.int .i64 k] w fun e w'=>e=.returned (.int .i64 (k+n))∧w'=w:=by
 go_enter Tryz.func55,Tryz.ntmps55;go_wp2
 go_loop [1,5] (fun q i=>∃ j:Nat,j≤n∧i=.int .i64 j∧q=.int .i64 (k+j)) (fun _ i=>n-(intOf i).toNat)
 case atStart=>exact⟨0,Nat.zero_le _,rfl,by simp⟩
 case round=>
  obtain⟨j,hj,rfl,rfl⟩:=hrel;by_cases hlt:j<n
  ·obtain⟨b,off,rfl,hb,hc⟩:=ha.get (by rw[mks_len];omega);have hcj:=hc j (by rw[mks_len];omega);rw[mks_get k n j hlt] at hcj;have hne:((k+(j:Int)) != (k+(j:Int)))=false:=by simp
   clear hc ha;go_wp2
   go_round
   case rel=>exact⟨j+1,by omega,by go_num,by go_num⟩
   case measure=>simp[intOf];omega
  ·have hjn:j=n:=by omega
   subst hjn;go_wp2
   go_ret
   exact⟨rfl,rfl⟩
set_option maxHeartbeats 1000000 in
theorem markT_any (a:Option Addr) (n cap:Nat) (k:Int) (w:World) (ho:Open w a (n*2)) (hk:0≤k) (hk':k+n*2≤1099511627776) :
  Calls Tryz.prog 36 #[.slice a n cap,.int .i64 k] w fun e w'=>e=.returned (.int .i64 (k+n*2))∧At .i64 w' a (mks k (n*2))∧WrO a w w':=by
 go_enter Tryz.func36,Tryz.ntmps36;go_wp2
 go_loopw [1,5] (fun q i wr=>∃ j:Nat,j≤n∧i=.int .i64 j∧q=.int .i64 (k+j*2)∧WrO a w wr∧
   (n=0∨∃ g o,a=some ⟨g,o,none⟩∧g<w.heap.size∧(∀ t,t<n*2→(wr.cell? ⟨g,o+t,none⟩).isSome=true∧wr.frozen? ⟨g,o+t,none⟩=false)∧∀ t,t<j*2→wr.cell? ⟨g,o+t,none⟩=some (.int .i64 (k+(t:Int))))) (fun _ i _=>n-(intOf i).toNat)
 case atStart=>
  refine⟨0,Nat.zero_le _,rfl,by simp,WrO.refl _ _,?_⟩;rcases ho with h|⟨g,o,h1,h2,h3⟩
  ·exact .inl (by omega)
  ·exact .inr ⟨g,o,h1,h2,h3,fun t ht=>by omega⟩
 case round=>
  obtain⟨j,hj,rfl,rfl,hwr,hs⟩:=hrel;by_cases hlt:j<n
  ·rcases hs with h|⟨g,o,rfl,hg,hc,hd⟩
   ·omega
   ·have hlt':(j:Int)<n:=by omega
    have hst:∀(W:World) (p:Nat) (x:Int),(∀ t,t<n*2→(W.cell? ⟨g,o+t,none⟩).isSome=true∧W.frozen? ⟨g,o+t,none⟩=false)→∀ t,t<n*2→((W.setCell ⟨g,p,none⟩ (.int .i64 x)).cell? ⟨g,o+t,none⟩).isSome=true∧(W.setCell ⟨g,p,none⟩ (.int .i64 x)).frozen? ⟨g,o+t,none⟩=false:=by
     intro W p x hW t ht;obtain⟨u,hu⟩:=Option.isSome_iff_exists.1 (hW t ht).1;obtain⟨u',hu'⟩:=cell?_setCell_some (w:=W) (p:=⟨g,p,none⟩) (x:=.int .i64 x) (q:=⟨g,o+t,none⟩) (v:=u) hu;refine⟨by rw[hu'];rfl,?_⟩;rw[World.frozen?_setCell];exact(hW t ht).2
    obtain⟨hc1,f0⟩:=hc (j*2) (by omega);obtain⟨v0,c0⟩:=Option.isSome_iff_exists.1 hc1;have hc':=hst wr (o+j*2) (k+j*2) hc;obtain⟨hc2,f1⟩:=hc' (j*2+1) (by omega);obtain⟨v1,c1⟩:=Option.isSome_iff_exists.1 hc2;have HC:Hid (∀ t,t<n*2→(((wr.setCell ⟨g,o+j*2,none⟩ (.int .i64 (k+j*2))).setCell ⟨g,o+j*2+1,none⟩ (.int .i64 (k+j*2+1))).cell? ⟨g,o+t,none⟩).isSome=true∧((wr.setCell ⟨g,o+j*2,none⟩ (.int .i64 (k+j*2))).setCell ⟨g,o+j*2+1,none⟩ (.int .i64 (k+j*2+1))).frozen? ⟨g,o+t,none⟩=false):=hst _ _ _ hc';have HW:Hid (WrO (some ⟨g,o,none⟩) w ((wr.setCell ⟨g,o+j*2,none⟩ (.int .i64 (k+j*2))).setCell ⟨g,o+j*2+1,none⟩ (.int .i64 (k+j*2+1)))):=(hwr.setCell _ rfl _ _).setCell _ rfl _ _;rw[←Nat.add_assoc] at c1 f1;have HD:Hid (∀ t,t<(j+1)*2→((wr.setCell ⟨g,o+j*2,none⟩ (.int .i64 (k+j*2))).setCell ⟨g,o+j*2+1,none⟩ (.int .i64 (k+j*2+1))).cell? ⟨g,o+t,none⟩=some (.int .i64 (k+(t:Int)))):=by
     intro t ht;by_cases e:t=j*2+1
     ·subst e;rw[←Nat.add_assoc,World.cell?_setCell_same _ _ _ c1];rw[show k+(((j*2+1:Nat)):Int)=k+j*2+1 by omega]
     ·rw[World.cell?_setCell_other _ _ _ _ (by simp;try omega)];by_cases e2:t=j*2
      ·subst e2;rw[World.cell?_setCell_same _ _ _ c0];rw[show k+(((j*2:Nat)):Int)=k+j*2 by omega]
      ·rw[World.cell?_setCell_other _ _ _ _ (by simp;try omega)];exact hd t (by omega)
    clear hc hd hwr ho hc1 hc2 hc' hst;go_wp2;go_roundw
    case rel=>exact⟨j+1,by omega,by go_num,by go_num,HW.out,.inr ⟨g,o,rfl,hg,HC.out,HD.out⟩⟩
    case measure=>simp[intOf];omega
  ·have hjn:j=n:=by omega
   subst hjn;have HA:Hid (At .i64 wr a (mks k (j*2))):=by
    rcases hs with h|⟨g,o,rfl,hg,hc,hd⟩
    ·subst h;exact .inl rfl
    ·exact .inr ⟨g,o,rfl,by rw[hwr.size];exact hg,fun i hi=>by rw[mks_len] at hi;rw[hd i hi,mks_get k _ i hi]⟩
   clear hs ho;go_wp2
   go_ret
   exact⟨rfl,HA.out,hwr⟩
def SAt (w:World) (a:Option Addr) (zs:List Int):Prop:=
 zs=[]∨∃ b off,a=some ⟨b,off,none⟩∧b<w.heap.size∧∀ i,i<zs.length→w.cell? ⟨b,off+i,none⟩=some (.int .i64 (zs.getD i 0))∧w.frozen? ⟨b,off+i,none⟩=false
theorem SAt.at_ {w:World} {a:Option Addr} {zs:List Int} (h:SAt w a zs):At .i64 w a zs:=by
 rcases h with h|⟨b,off,e,hl,hc⟩
 ·exact .inl h
 ·exact .inr ⟨b,off,e,hl,fun i hi=>(hc i hi).1⟩
theorem SAt.open_ {w:World} {a:Option Addr} {zs:List Int} (h:SAt w a zs) {n:Nat} (hn:zs.length=n):Open w a n:=by
 rcases h with h|⟨b,off,e,hl,hc⟩
 ·subst h;exact .inl (by simpa using hn.symm)
 ·exact .inr ⟨b,off,e,hl,fun i hi=>⟨by rw[(hc i (by omega)).1];rfl,(hc i (by omega)).2⟩⟩
def Lies (lo:Nat) (w:World) (a:Option Addr):Prop:=∀ ad,a=some ad→lo≤ad.block∧ad.block<w.heap.size
def Aprt (a b:Option Addr):Prop:=∀ x y,a=some x→b=some y→x.block≠y.block
theorem Lies.mono {lo lo':Nat} {w w':World} {a:Option Addr} (h:Lies lo w a) (hl:lo'≤lo) (hs:w.heap.size≤w'.heap.size):Lies lo' w' a:=fun ad e=>by have:=h ad e;omega
theorem SAt.keep {w w':World} {a:Option Addr} {zs:List Int} (h:SAt w a zs) (hs:w.heap.size≤w'.heap.size) (hb:∀ ad,a=some ad→ad.block<w.heap.size→w'.heap[ad.block]?=w.heap[ad.block]?):SAt w' a zs:=by
 rcases h with h|⟨b,off,e,hl,hc⟩
 ·exact .inl h
 ·have hk:=hb _ e hl;refine .inr ⟨b,off,e,by omega,fun i hi=>?_⟩;rw[World.cell?_of_block (a:=⟨b,off+i,none⟩) (w:=w) hk,World.frozen?_of_block (a:=⟨b,off+i,none⟩) (w:=w) hk];exact hc i hi
theorem At.keepT {w w':World} {a:Option Addr} {zs:List Int} (h:At .i64 w a zs) (hs:w.heap.size≤w'.heap.size) (hb:∀ ad,a=some ad→ad.block<w.heap.size→w'.heap[ad.block]?=w.heap[ad.block]?):At .i64 w' a zs:=by
 rcases h with h|⟨b,off,e,hl,hc⟩
 ·exact .inl h
 ·have hk:=hb _ e hl;refine .inr ⟨b,off,e,by omega,fun i hi=>?_⟩;rw[World.cell?_of_block (a:=⟨b,off+i,none⟩) (w:=w) hk];exact hc i hi
theorem Open.keepT {w w':World} {a:Option Addr} {n:Nat} (h:Open w a n) (hs:w.heap.size≤w'.heap.size) (hb:∀ ad,a=some ad→ad.block<w.heap.size→w'.heap[ad.block]?=w.heap[ad.block]?):Open w' a n:=by
 rcases h with h|⟨b,off,e,hl,hc⟩
 ·exact .inl h
 ·have hk:=hb _ e hl;refine .inr ⟨b,off,e,by omega,fun i hi=>?_⟩;rw[World.cell?_of_block (a:=⟨b,off+i,none⟩) (w:=w) hk,World.frozen?_of_block (a:=⟨b,off+i,none⟩) (w:=w) hk];exact hc i hi
theorem SAt.below {w w':World} {a:Option Addr} {zs:List Int} (h:SAt w a zs) (b:Below w.heap.size w w'):SAt w' a zs:=h.keep b.size (fun ad _ hl=>b.block _ hl)
theorem WrO.kept {a c:Option Addr} {w w':World} (h:WrO a w w') (hap:Aprt a c):∀ ad,c=some ad→ad.block<w.heap.size→w'.heap[ad.block]?=w.heap[ad.block]?:=
 fun ad e _=>h.block _ (fun x hx=>(hap x ad hx e).symm)
structure S3 (lo:Nat) (w:World) (aD aU aT:Option Addr) (nD nU nT:Nat) (D U T:List Int):Prop where
 d:SAt w aD D
 u:SAt w aU U
 t:SAt w aT T
 nd:D.length=nD
 nu:U.length=nU
 nt:T.length=nT*2
 ld:Lies lo w aD
 lu:Lies lo w aU
 lt:Lies lo w aT
 du:Aprt aD aU
 dt:Aprt aD aT
 ut:Aprt aU aT
theorem S3.keep {lo:Nat} {w w':World} {aD aU aT:Option Addr} {nD nU nT:Nat} {D U T:List Int} (h:S3 lo w aD aU aT nD nU nT D U T) (hs:w.heap.size≤w'.heap.size) (hb:∀ k,lo≤k→k<w.heap.size→w'.heap[k]?=w.heap[k]?):S3 lo w' aD aU aT nD nU nT D U T:=
 ⟨h.d.keep hs (fun ad e hl=>hb _ (h.ld ad e).1 hl),h.u.keep hs (fun ad e hl=>hb _ (h.lu ad e).1 hl),h.t.keep hs (fun ad e hl=>hb _ (h.lt ad e).1 hl),h.nd,h.nu,h.nt,h.ld.mono (Nat.le_refl _) hs,h.lu.mono (Nat.le_refl _) hs,h.lt.mono (Nat.le_refl _) hs,h.du,h.dt,h.ut⟩
theorem S3.below {lo:Nat} {w w':World} {aD aU aT:Option Addr} {nD nU nT:Nat} {D U T:List Int} (h:S3 lo w aD aU aT nD nU nT D U T) (b:Below w.heap.size w w'):S3 lo w' aD aU aT nD nU nT D U T:=h.keep b.size (fun k _ hk=>b.block k hk)
set_option maxHeartbeats 1000000 in
theorem heldT_any (a:Option Addr) (n cap:Nat) (k:Int) (w:World) (ha:At .i64 w a (mks k (n*2))) (hk:0≤k) (hk':k+n*2≤1099511627776) :
  Calls Tryz.prog 56 #[.slice a n cap,.int .i64 k] w fun e w'=>e=.returned (.int .i64 (k+n*2))∧w'=w:=by
 go_enter Tryz.func56,Tryz.ntmps56;go_wp2
 go_loop [1,5] (fun q i=>∃ j:Nat,j≤n∧i=.int .i64 j∧q=.int .i64 (k+j*2)) (fun _ i=>n-(intOf i).toNat)
 case atStart=>exact⟨0,Nat.zero_le _,rfl,by simp⟩
 case round=>
  obtain⟨j,hj,rfl,rfl⟩:=hrel;by_cases hlt:j<n
  ·obtain⟨b,off,rfl,hb,hc⟩:=ha.get (by rw[mks_len];omega);have hc0:=hc (j*2) (by rw[mks_len];omega);have hc1:=hc (j*2+1) (by rw[mks_len];omega);rw[mks_get k _ _ (by omega)] at hc0 hc1;rw[show k+((j*2:Nat):Int)=k+j*2 by omega] at hc0;rw[show k+((j*2+1:Nat):Int)=k+j*2+1 by omega,←Nat.add_assoc] at hc1;have hlt':(j:Int)<n:=by omega
   have hne:((k+(j:Int)*2) != (k+(j:Int)*2))=false:=by simp
   have hne1:((k+(j:Int)*2+1) != (k+(j:Int)*2+1))=false:=by simp
   clear hc ha;go_wp2
   go_round
   case rel=>exact⟨j+1,by omega,by go_num,by go_num⟩
   case measure=>simp[intOf];omega
  ·have hjn:j=n:=by omega
   subst hjn;go_wp2
   go_ret
   exact⟨rfl,rfl⟩
def NotIn (k:Nat) (a:Option Addr):Prop:=∀ ad,a=some ad→k≠ad.block
structure MB (lo:Nat) (w:World) (sc:Array Value) (wr:World):Prop where
 below:Below lo w wr
 box:wr.heap[w.heap.size]?=some (.cells sc 33 (0,0))
theorem MB.wro {lo:Nat} {w wr w':World} {sc:Array Value} (h:MB lo w sc wr) {a:Option Addr} (hl:Lies lo w a) (hw:WrO a wr w'):MB lo w sc w':=
 ⟨h.below.trans (hw.below lo (fun ad e=>(hl ad e).1)),by rw[hw.block _ (fun ad e=>by have:=hl ad e;omega)];exact h.box⟩
set_option maxRecDepth 100000 in
set_option maxHeartbeats 1000000 in
theorem markS_any (aD aU aT:Option Addr) (nD cD nU cU nT cT:Nat) (k0 k:Int) (w:World) (lo:Nat) (hlo:lo≤w.heap.size)
  (oD:Open w aD nD) (oU:Open w aU nU) (oT:Open w aT (nT*2)) (lD:Lies lo w aD) (lU:Lies lo w aU) (lT:Lies lo w aT) (dU:Aprt aD aU) (dT:Aprt aD aT) (uT:Aprt aU aT) (hk:0≤k) (hk':k+nD+nU+nT*2≤1099511627776) :
  Calls Tryz.prog 15 #[.agg #[.slice aD nD cD,.slice aU nU cU,.int .i64 k0,.slice aT nT cT],.int .i64 k] w fun e w'=>e=.returned (.int .i64 (k+nD+nU+nT*2))∧At .i64 w' aD (mks k nD)∧At .i64 w' aU (mks (k+nD) nU)∧At .i64 w' aT (mks (k+nD+nU) (nT*2))∧Below lo w w'∧∀ j,j<w.heap.size→NotIn j aD→NotIn j aU→NotIn j aT→w'.heap[j]?=w.heap[j]?:=by
 have b1:Below w.heap.size w (w.alloc (.cells #[.slice aD nD cD,.slice aU nU cU,.int .i64 k0,.slice aT nT cT] 33)):=(Below.refl _ _).alloc (Nat.le_refl _) _;have HM1:Hid (MB lo w #[.slice aD nD cD,.slice aU nU cU,.int .i64 k0,.slice aT nT cT] (w.alloc (.cells #[.slice aD nD cD,.slice aU nU cU,.int .i64 k0,.slice aT nT cT] 33))):=⟨b1.mono hlo,heap_alloc_new w _⟩
 have HO:Hid (Open (w.alloc (.cells #[.slice aD nD cD,.slice aU nU cU,.int .i64 k0,.slice aT nT cT] 33)) aD nD∧Open (w.alloc (.cells #[.slice aD nD cD,.slice aU nU cU,.int .i64 k0,.slice aT nT cT] 33)) aU nU∧Open (w.alloc (.cells #[.slice aD nD cD,.slice aU nU cU,.int .i64 k0,.slice aT nT cT] 33)) aT (nT*2)):=⟨oD.below b1,oU.below b1,oT.below b1⟩
 have HL:Hid (Lies lo w aD∧Lies lo w aU∧Lies lo w aT):=⟨lD,lU,lT⟩
 have HP:Hid (Aprt aD aU∧Aprt aD aT∧Aprt aU aT):=⟨dU,dT,uT⟩
 have HN1:Hid (∀ j,j<w.heap.size→(w.alloc (.cells #[.slice aD nD cD,.slice aU nU cU,.int .i64 k0,.slice aT nT cT] 33)).heap[j]?=w.heap[j]?):=fun j hj=>b1.block j hj
 clear oD oU oT lD lU lT dU dT uT b1;go_enter Tryz.func15,Tryz.ntmps15;go_wp2_with fail;refine(markI_any aD nD cD k _ HO.out.1 hk (by omega)).mono ?_;rintro e w2 ⟨rfl,hA,hw⟩;generalize w.alloc (.cells #[.slice aD nD cD,.slice aU nU cU,.int .i64 k0,.slice aT nT cT] 33)=w1 at *;have HM2:Hid (MB lo w #[.slice aD nD cD,.slice aU nU cU,.int .i64 k0,.slice aT nT cT] w2):=HM1.out.wro HL.out.1 hw;have HO2:Hid (Open w2 aU nU∧Open w2 aT (nT*2)):=⟨HO.out.2.1.keepT (by rw[hw.size];exact Nat.le_refl _) (hw.kept HP.out.1),HO.out.2.2.keepT (by rw[hw.size];exact Nat.le_refl _) (hw.kept HP.out.2.1)⟩
 have HA2:Hid (At .i64 w2 aD (mks k nD)):=hA;have HN2:Hid (∀ j,j<w.heap.size→NotIn j aD→w2.heap[j]?=w.heap[j]?):=fun j hj h1=>(hw.block j (fun ad e=>h1 ad e)).trans (HN1.out j hj)
 have x1:w2.cell? ⟨w.heap.size,1,none⟩=some (.slice aU nU cU):=by rw[cell_of_row w2 w.heap.size 1 _ _ _ HM2.out.box];rfl
 clear hA hw HM1 HO;go_wp2_with fail;refine(markI_any aU nU cU (k+nD) _ HO2.out.1 (by omega) (by omega)).mono ?_;rintro e w3 ⟨rfl,hA,hw⟩;have HM3:Hid (MB lo w #[.slice aD nD cD,.slice aU nU cU,.int .i64 k0,.slice aT nT cT] w3):=HM2.out.wro HL.out.2.1 hw;have HO3:Hid (Open w3 aT (nT*2)):=HO2.out.2.keepT (by rw[hw.size];exact Nat.le_refl _) (hw.kept HP.out.2.2);have HA3:Hid (At .i64 w3 aD (mks k nD)∧At .i64 w3 aU (mks (k+nD) nU)):=⟨HA2.out.keepT (by rw[hw.size];exact Nat.le_refl _) (hw.kept (fun x y hx hy=>(HP.out.1 y x hy hx).symm)),hA⟩
 have HN3:Hid (∀ j,j<w.heap.size→NotIn j aD→NotIn j aU→w3.heap[j]?=w.heap[j]?):=fun j hj h1 h2=>(hw.block j (fun ad e=>h2 ad e)).trans (HN2.out j hj h1)
 have x3:w3.cell? ⟨w.heap.size,3,none⟩=some (.slice aT nT cT):=by rw[cell_of_row w3 w.heap.size 3 _ _ _ HM3.out.box];rfl
 clear hA hw HM2 HO2 HA2 x1;go_wp2_with fail;refine(markT_any aT nT cT (k+nD+nU) _ HO3.out (by omega) (by omega)).mono ?_;rintro e w4 ⟨rfl,hA,hw⟩;have HM4:Hid (Below lo w w4):=(HM3.out.wro HL.out.2.2 hw).below;have HN4:Hid (∀ j,j<w.heap.size→NotIn j aD→NotIn j aU→NotIn j aT→w4.heap[j]?=w.heap[j]?):=fun j hj h1 h2 h3=>(hw.block j (fun ad e=>h3 ad e)).trans (HN3.out j hj h1 h2)
 have HA4:Hid (At .i64 w4 aD (mks k nD)∧At .i64 w4 aU (mks (k+nD) nU)∧At .i64 w4 aT (mks (k+nD+nU) (nT*2))):=⟨HA3.out.1.keepT (by rw[hw.size];exact Nat.le_refl _) (hw.kept (fun x y hx hy=>(HP.out.2.1 y x hy hx).symm)),HA3.out.2.keepT (by rw[hw.size];exact Nat.le_refl _) (hw.kept (fun x y hx hy=>(HP.out.2.2 y x hy hx).symm)),hA⟩
 clear hA hw HM3 HO3 HA3 x3;go_wp2
 go_ret
 exact⟨rfl,HA4.out.1,HA4.out.2.1,HA4.out.2.2,HM4.out,HN4.out⟩
set_option maxRecDepth 100000 in
set_option maxHeartbeats 1000000 in
theorem heldS_any (aD aU aT:Option Addr) (nD cD nU cU nT cT:Nat) (k0 k:Int) (w:World)
  (hD:At .i64 w aD (mks k nD)) (hU:At .i64 w aU (mks (k+nD) nU)) (hT:At .i64 w aT (mks (k+nD+nU) (nT*2))) (hk:0≤k) (hk':k+nD+nU+nT*2≤1099511627776) :
  Calls Tryz.prog 37 #[.agg #[.slice aD nD cD,.slice aU nU cU,.int .i64 k0,.slice aT nT cT],.int .i64 k] w fun e w'=>e=.returned (.int .i64 (k+nD+nU+nT*2))∧Below w.heap.size w w':=by
 have b1:Below w.heap.size w (w.alloc (.cells #[.slice aD nD cD,.slice aU nU cU,.int .i64 k0,.slice aT nT cT] 33)):=(Below.refl _ _).alloc (Nat.le_refl _) _;have HB:Hid (Below w.heap.size w (w.alloc (.cells #[.slice aD nD cD,.slice aU nU cU,.int .i64 k0,.slice aT nT cT] 33))):=b1;have HA:Hid (At .i64 (w.alloc (.cells #[.slice aD nD cD,.slice aU nU cU,.int .i64 k0,.slice aT nT cT] 33)) aD (mks k nD)∧At .i64 (w.alloc (.cells #[.slice aD nD cD,.slice aU nU cU,.int .i64 k0,.slice aT nT cT] 33)) aU (mks (k+nD) nU)∧At .i64 (w.alloc (.cells #[.slice aD nD cD,.slice aU nU cU,.int .i64 k0,.slice aT nT cT] 33)) aT (mks (k+nD+nU) (nT*2))):=⟨hD.below b1,hU.below b1,hT.below b1⟩
 have g1:¬ (k+(nD:Int)<0):=by omega
 have g2:¬ (k+(nD:Int)+nU<0):=by omega
 have g3:¬ (k+(nD:Int)+nU+nT*2<0):=by omega
 clear hD hU hT b1;go_enter Tryz.func37,Tryz.ntmps37;go_wp2_with fail;refine(heldI_any aD nD cD k _ HA.out.1 hk (by omega)).mono ?_;rintro e w2 ⟨rfl,rfl⟩;go_wp2_with fail;refine(heldI_any aU nU cU (k+nD) _ HA.out.2.1 (by omega) (by omega)).mono ?_;rintro e w3 ⟨rfl,rfl⟩;go_wp2_with fail;refine(heldT_any aT nT cT (k+nD+nU) _ HA.out.2.2 (by omega) (by omega)).mono ?_;rintro e w4 ⟨rfl,rfl⟩;go_wp2
 go_ret
 exact⟨rfl,HB.out⟩
theorem IO.mono {B B':Nat} {w:World} {v:Value} {xs:List Int} (h:IO B' w v xs) (hB:B≤B'):IO B w v xs:=by
 refine⟨h.1,?_⟩;rcases h.2 with h'|⟨g,c,cur,h1,h2,h3⟩
 ·exact .inl h'
 ·exact .inr ⟨g,c,cur,h1,by omega,h3⟩
theorem IO.fresh {w w':World} {v:Value} {xs:List Int} (h:IO w.heap.size w' v xs):Fresh w w' v:=fun k hk=>by
 rcases h.2 with⟨h',_⟩|⟨g,c,cur,h',hb,hh,_⟩
 ·rw[h'] at hk;simp[Value.ownBlock] at hk
 ·rw[h'] at hk;simp[Value.ownBlock] at hk;have:=(Array.getElem?_eq_some_iff.1 hh).1;omega
theorem IO.form {B:Nat} {w:World} {v:Value} {xs:List Int} (h:IO B w v xs):∃ a n c,v=.slice a n c:=by
 rcases h.2 with⟨h',_⟩|⟨g,c,cur,h',_⟩
 ·exact⟨_,_,_,h'⟩
 ·exact⟨_,_,_,h'⟩
theorem IO.keep {B:Nat} {w w':World} {v:Value} {xs:List Int} (h:IO B w v xs) (hb:∀ k,B≤k→k<w.heap.size→w'.heap[k]?=w.heap[k]?):IO B w' v xs:=by
 refine⟨h.1,?_⟩;rcases h.2 with h'|⟨g,c,cur,h1,h2,h3,h4⟩
 ·exact .inl h'
 ·exact .inr ⟨g,c,cur,h1,h2,by rw[hb g h2 (Array.getElem?_eq_some_iff.1 h3).1];exact h3,h4⟩
theorem IO.below {B:Nat} {w w':World} {v:Value} {xs:List Int} (h:IO B w v xs) (b:Below w.heap.size w w'):IO B w' v xs:=h.keep (fun k _ hk=>b.block k hk)
theorem IO.wr {B R:Nat} {w w':World} {v:Value} {xs:List Int} (h:IO B w v xs) (hw:Wr R w w') (hR:R<B):IO B w' v xs:=h.keep (fun k hk _=>hw.block k (by omega))
def StFin (lo:Nat) (k:Int) (aT:Option Addr) (nT cT:Nat) (X Y:List Int) (w:World) (cs:Array Value):Prop:=
 ∃ aD nD cD aU nU cU,cs=#[.slice aD nD cD,.slice aU nU cU,.int .i64 k,.slice aT nT cT]∧IO lo w (.slice aD nD cD) X∧IO lo w (.slice aU nU cU) Y∧ApV (.slice aD nD cD) (.slice aU nU cU)
theorem StFin.below {lo:Nat} {k:Int} {aT:Option Addr} {nT cT:Nat} {X Y:List Int} {w w':World} {cs:Array Value} (h:StFin lo k aT nT cT X Y w cs) (b:Below w.heap.size w w'):StFin lo k aT nT cT X Y w' cs:=by
 obtain⟨aD,nD,cD,aU,nU,cU,e,h1,h2,h3⟩:=h;exact⟨aD,nD,cD,aU,nU,cU,e,h1.below b,h2.below b,h3⟩
def StBd (lo:Nat) (k:Int) (aT:Option Addr) (nT cT:Nat) (X Y:List Int) (w:World) (v:Value):Prop:=∃ cs,v=.agg cs∧StFin lo k aT nT cT X Y w cs
theorem StBd.below {lo:Nat} {k:Int} {aT:Option Addr} {nT cT:Nat} {X Y:List Int} {w w':World} {v:Value} (h:StBd lo k aT nT cT X Y w v) (b:Below w.heap.size w w'):StBd lo k aT nT cT X Y w' v:=by
 obtain⟨cs,e,h⟩:=h;exact⟨cs,e,h.below b⟩
theorem StBd.wr {lo R:Nat} {k:Int} {aT:Option Addr} {nT cT:Nat} {X Y:List Int} {w w':World} {v:Value} (h:StBd lo k aT nT cT X Y w v) (hw:Wr R w w') (hR:R<lo):StBd lo k aT nT cT X Y w' v:=by
 obtain⟨cs,e,aD,nD,cD,aU,nU,cU,e2,h1,h2,h3⟩:=h;exact⟨cs,e,aD,nD,cD,aU,nU,cU,e2,h1.wr hw hR,h2.wr hw hR,h3⟩
set_option maxRecDepth 100000 in
set_option maxHeartbeats 4000000 in
theorem state_any {w:World} {g:Nat} {d u:List Int} {k:Int} (aT:Option Addr) (nT cT:Nat) (P Q:Nat→Bool) (hb:Bk w g d u k (.slice aT nT cT)) (hd:SetB d (fun v=>P v=true)) (hu:SetB u (fun v=>Q v=true)) :
  Calls Tryz.prog 32 #[.pointer (some ⟨g,0,none⟩)] w fun e w'=>∃ aD nD cD aU nU cU,e=.returned (.agg #[.slice aD nD cD,.slice aU nU cU,.int .i64 k,.slice aT nT cT])∧IO w.heap.size w' (.slice aD nD cD) (upTo P 256)∧IO w.heap.size w' (.slice aU nU cU) (upTo Q 256)∧ApV (.slice aD nD cD) (.slice aU nU cU)∧Below w.heap.size w w':=by
 have HBK:Hid (Bk w g d u k (.slice aT nT cT)):=hb;have HGL:Hid (g<w.heap.size):=hb.lt;have HSD:Hid (SetB d (fun v=>P v=true)):=hd;have HSU:Hid (SetB u (fun v=>Q v=true)):=hu;have HSZ:Hid ((Tryz.prog.info? 33).map (·.size)=some 4):=by show _=_;kernel_rfl
 have HW0:Hid (Below w.heap.size w (w.alloc (.cells #[.slice none 0 0,.slice none 0 0,.int .i64 0,.slice none 0 0] 33)).drew):=by
  have h1:Below w.heap.size w (w.alloc (.cells #[.slice none 0 0,.slice none 0 0,.int .i64 0,.slice none 0 0] 33)):=(Below.refl _ _).alloc (Nat.le_refl _) _;exact⟨h1.os,h1.tape,h1.output,h1.size,h1.block⟩
 have HR0:Hid ((w.alloc (.cells #[.slice none 0 0,.slice none 0 0,.int .i64 0,.slice none 0 0] 33)).drew.heap[w.heap.size]?=some (.cells #[.slice none 0 0,.slice none 0 0,.int .i64 0,.slice none 0 0] 33 (0,0))):=heap_alloc_new w _;clear hb hd hu;go_enter Tryz.func32,Tryz.ntmps32;go_wp2_with fail;refine wp_region_any (by kernel_rfl) ?_;refine wpAny_slotsU (fun i a b=>if i=17 then Wr (w.heap.size) a b else Below a.heap.size a b) (frame:=(fun (a b c:Value)=>fun (t:Nat→Value)=>({ tmps:=List.toArray [a,b,c,t 0,t 1,t 2,t 3,t 4,t 5,t 6,t 7,t 8,t 9,t 10,t 11,t 12,t 13,t 14,t 15,t 16],defers:=[] }:Act)) _ _ _)
  (Ext:=fun L u w'=>ApS w (w.heap.size) 17 33 #[.slice none 0 0,.slice none 0 0,.int .i64 0,.slice none 0 0] (StFin (w.heap.size+1) k aT nT cT (upTo P 256) (upTo Q 256)) [3,7] L u w') (Good:=fun i L w' v=>if i=0 then v=.pointer (some ⟨g,0,none⟩) else if i=1 then v=.pointer (some ⟨g,0,none⟩) else if i=2 then v=.pointer (some ⟨g,0,none⟩) else if i=3 then IO (w.heap.size+1) w' v (upTo P 256) else if i=4 then v=.pointer (some ⟨g,0,none⟩) else if i=5 then v=.pointer (some ⟨g,0,none⟩) else if i=6 then v=.pointer (some ⟨g,32,none⟩) else if i=7 then IO (w.heap.size+1) w' v (upTo Q 256) else if i=8 then v=.pointer (some ⟨g,0,none⟩) else if i=9 then v=.pointer (some ⟨g,0,none⟩) else if i=10 then v=.pointer (some ⟨g,64,none⟩) else if i=11 then v=.int .i64 k else if i=12 then v=.pointer (some ⟨g,0,none⟩) else if i=13 then v=.pointer (some ⟨g,0,none⟩) else if i=14 then v=.pointer (some ⟨g,65,none⟩) else if i=15 then v=.slice aT nT cT else if i=16 then StBd (w.heap.size+1) k aT nT cT (upTo P 256) (upTo Q 256) w' v else if i=17 then L 17=true else True) ?hstab (by kernel_rfl) ?hop ?hdone _ _ ((fun (x0 x1 x2 x3 x4 x5 x6 x7 x8 x9 x10 x11 x12 x13 x14 x15 x16:Value)=>fun (i:Nat)=>if i=0 then x0 else if i=1 then x1 else if i=2 then x2 else if i=3 then x3 else if i=4 then x4 else if i=5 then x5 else if i=6 then x6 else if i=7 then x7 else if i=8 then x8 else if i=9 then x9 else if i=10 then x10 else if i=11 then x11 else if i=12 then x12 else if i=13 then x13 else if i=14 then x14 else if i=15 then x15 else if i=16 then x16 else undef) _ _ _ _ _ _ _ _ _ _ _ _ _ _ _ _ _) _ (by simp) ?ext ?start (by simp)
 case start=>intro i hi h;exact absurd h (by rw[Array.getD_eq_getD_getElem?,Array.getElem?_replicate];split<;>simp)
 case ext=>exact ApS.start ⟨HW0.out,fun p _ hp=>absurd hp (by rw[Array.getD_eq_getD_getElem?,Array.getElem?_replicate];split<;>simp),fun p _ q _ _ hp=>absurd hp (by rw[Array.getD_eq_getD_getElem?,Array.getElem?_replicate];split<;>simp)⟩ (fun i=>by rw[Array.getD_eq_getD_getElem?,Array.getElem?_replicate];split<;>rfl) HR0.out
 case hstab=>
  intro j L w9 w' i v hM hij hLi h;by_cases h3:j=3
  ·subst h3;by_cases hl:i=17
   ·subst hl;simp at h hM ⊢;exact h.wr hM (by omega)
   ·rw[if_neg hl] at hM;simp at h ⊢;exact h.below hM
  by_cases h7:j=7
  ·subst h7;by_cases hl:i=17
   ·subst hl;simp at h hM ⊢;exact h.wr hM (by omega)
   ·rw[if_neg hl] at hM;simp at h ⊢;exact h.below hM
  by_cases h16:j=16
  ·subst h16;by_cases hl:i=17
   ·subst hl;simp at h hM ⊢;exact h.wr hM (by omega)
   ·rw[if_neg hl] at hM;simp at h ⊢;exact h.below hM
  by_cases hl:j=17
  ·subst hl;simp at h ⊢;unfold updK;simp[h]
  simp only[if_neg h3,if_neg h7,if_neg h16,if_neg hl] at h ⊢;exact h
 case hop=>
  intro i o L t w' ho hLi hx hdep K hK;have hi:i<18:=(Array.getElem?_eq_some_iff.1 ho).1;obtain rfl|rfl|rfl|rfl|rfl|rfl|rfl|rfl|rfl|rfl|rfl|rfl|rfl|rfl|rfl|rfl|rfl|rfl:i=0∨i=1∨i=2∨i=3∨i=4∨i=5∨i=6∨i=7∨i=8∨i=9∨i=10∨i=11∨i=12∨i=13∨i=14∨i=15∨i=16∨i=17:=by omega
  all_goals(simp at ho;subst ho)
  ·clear hdep;have hK':=hK w' (.pointer (some ⟨g,0,none⟩)) (by simp) (hx.step (fun _ _ _ b h=>h.below b) 0 (by decide) _ (Below.refl _ _) (fun h=>absurd h (by decide))) (by rw[if_neg (by decide)];exact(Below.refl _ _));clear hK;rw[if_pos (by rfl)];go_simp;simpa[upd] using hK'
  ·have d0:t 0=.pointer (some ⟨g,0,none⟩):=by simpa using(hdep ⟨0,.data⟩ (by simp) rfl).2
   clear hdep;have hK':=hK w' (.pointer (some ⟨g,0,none⟩)) (by simp) (hx.step (fun _ _ _ b h=>h.below b) 1 (by decide) _ (Below.refl _ _) (fun h=>absurd h (by decide))) (by rw[if_neg (by decide)];exact(Below.refl _ _));clear hK;rw[if_pos (by rfl)];go_simp;simpa[upd,d0] using hK'
  ·have d1:t 1=.pointer (some ⟨g,0,none⟩):=by simpa using(hdep ⟨1,.data⟩ (by simp) rfl).2
   clear hdep;have hK':=hK w' (.pointer (some ⟨g,0,none⟩)) (by simp) (hx.step (fun _ _ _ b h=>h.below b) 2 (by decide) _ (Below.refl _ _) (fun h=>absurd h (by decide))) (by rw[if_neg (by decide)];exact(Below.refl _ _));clear hK;rw[if_pos (by rfl)];go_simp;simpa[upd,d1] using hK'
  ·have d2:t 2=.pointer (some ⟨g,0,none⟩):=by simpa using(hdep ⟨2,.data⟩ (by simp) rfl).2
   clear hdep;have hsz:w.heap.size+1≤w'.heap.size:=hx.lt;have bw:Below w.heap.size w w':=hx.ax.below;have A:=list_any g 0 d P w' (fun ww hb=>(HBK.out.below (bw.trans (hb.mono bw.size)) HGL.out).batd) HSD.out;have hK':∀ ww v,IO (w.heap.size+1) ww v (upTo P 256)→Fresh w' ww v→Below w'.heap.size w' ww→K _ ww:=fun ww v hv hf hb=>hK ww v (by simpa using hv) (hx.step (fun _ _ _ b h=>h.below b) 3 (by decide) v hb (fun _=>hf)) (by rw[if_neg (by decide)];exact hb)
   clear hK;rw[if_pos (by rfl)];go_simp;try simp only[d2]
   refine A.mono ?_;rintro e w9 ⟨v9,rfl,hv9,hb9⟩;have hK2:=hK' w9 v9 (hv9.mono hsz) hv9.fresh hb9;clear hK' A hv9 bw hb9;go_simp;simpa[upd,d2] using hK2
  ·clear hdep;have hK':=hK w' (.pointer (some ⟨g,0,none⟩)) (by simp) (hx.step (fun _ _ _ b h=>h.below b) 4 (by decide) _ (Below.refl _ _) (fun h=>absurd h (by decide))) (by rw[if_neg (by decide)];exact(Below.refl _ _));clear hK;rw[if_pos (by rfl)];go_simp;simpa[upd] using hK'
  ·have d4:t 4=.pointer (some ⟨g,0,none⟩):=by simpa using(hdep ⟨4,.data⟩ (by simp) rfl).2
   clear hdep;have hK':=hK w' (.pointer (some ⟨g,0,none⟩)) (by simp) (hx.step (fun _ _ _ b h=>h.below b) 5 (by decide) _ (Below.refl _ _) (fun h=>absurd h (by decide))) (by rw[if_neg (by decide)];exact(Below.refl _ _));clear hK;rw[if_pos (by rfl)];go_simp;simpa[upd,d4] using hK'
  ·have d5:t 5=.pointer (some ⟨g,0,none⟩):=by simpa using(hdep ⟨5,.data⟩ (by simp) rfl).2
   clear hdep;have hK':=hK w' (.pointer (some ⟨g,32,none⟩)) (by simp) (hx.step (fun _ _ _ b h=>h.below b) 6 (by decide) _ (Below.refl _ _) (fun h=>absurd h (by decide))) (by rw[if_neg (by decide)];exact(Below.refl _ _));clear hK;rw[if_pos (by rfl)];go_simp;simpa[upd,d5] using hK'
  ·have d6:t 6=.pointer (some ⟨g,32,none⟩):=by simpa using(hdep ⟨6,.data⟩ (by simp) rfl).2
   clear hdep;have hsz:w.heap.size+1≤w'.heap.size:=hx.lt;have bw:Below w.heap.size w w':=hx.ax.below;have A:=list_any g 32 u Q w' (fun ww hb=>(HBK.out.below (bw.trans (hb.mono bw.size)) HGL.out).batu) HSU.out;have hK':∀ ww v,IO (w.heap.size+1) ww v (upTo Q 256)→Fresh w' ww v→Below w'.heap.size w' ww→K _ ww:=fun ww v hv hf hb=>hK ww v (by simpa using hv) (hx.step (fun _ _ _ b h=>h.below b) 7 (by decide) v hb (fun _=>hf)) (by rw[if_neg (by decide)];exact hb)
   clear hK;rw[if_pos (by rfl)];go_simp;try simp only[d6]
   refine A.mono ?_;rintro e w9 ⟨v9,rfl,hv9,hb9⟩;have hK2:=hK' w9 v9 (hv9.mono hsz) hv9.fresh hb9;clear hK' A hv9 bw hb9;go_simp;simpa[upd,d6] using hK2
  ·clear hdep;have hK':=hK w' (.pointer (some ⟨g,0,none⟩)) (by simp) (hx.step (fun _ _ _ b h=>h.below b) 8 (by decide) _ (Below.refl _ _) (fun h=>absurd h (by decide))) (by rw[if_neg (by decide)];exact(Below.refl _ _));clear hK;rw[if_pos (by rfl)];go_simp;simpa[upd] using hK'
  ·have d8:t 8=.pointer (some ⟨g,0,none⟩):=by simpa using(hdep ⟨8,.data⟩ (by simp) rfl).2
   clear hdep;have hK':=hK w' (.pointer (some ⟨g,0,none⟩)) (by simp) (hx.step (fun _ _ _ b h=>h.below b) 9 (by decide) _ (Below.refl _ _) (fun h=>absurd h (by decide))) (by rw[if_neg (by decide)];exact(Below.refl _ _));clear hK;rw[if_pos (by rfl)];go_simp;simpa[upd,d8] using hK'
  ·have d9:t 9=.pointer (some ⟨g,0,none⟩):=by simpa using(hdep ⟨9,.data⟩ (by simp) rfl).2
   clear hdep;have hK':=hK w' (.pointer (some ⟨g,64,none⟩)) (by simp) (hx.step (fun _ _ _ b h=>h.below b) 10 (by decide) _ (Below.refl _ _) (fun h=>absurd h (by decide))) (by rw[if_neg (by decide)];exact(Below.refl _ _));clear hK;rw[if_pos (by rfl)];go_simp;simpa[upd,d9] using hK'
  ·have d10:t 10=.pointer (some ⟨g,64,none⟩):=by simpa using(hdep ⟨10,.data⟩ (by simp) rfl).2
   clear hdep;have cc:w'.cell? ⟨g,64,none⟩=some (.int .i64 k):=(HBK.out.below hx.ax.below HGL.out).ck;have hK':=hK w' (.int .i64 k) (by simp) (hx.step (fun _ _ _ b h=>h.below b) 11 (by decide) _ (Below.refl _ _) (fun h=>absurd h (by decide))) (by rw[if_neg (by decide)];exact(Below.refl _ _));clear hK;rw[if_pos (by rfl)];go_simp;simpa[upd,d10] using hK'
  ·clear hdep;have hK':=hK w' (.pointer (some ⟨g,0,none⟩)) (by simp) (hx.step (fun _ _ _ b h=>h.below b) 12 (by decide) _ (Below.refl _ _) (fun h=>absurd h (by decide))) (by rw[if_neg (by decide)];exact(Below.refl _ _));clear hK;rw[if_pos (by rfl)];go_simp;simpa[upd] using hK'
  ·have d12:t 12=.pointer (some ⟨g,0,none⟩):=by simpa using(hdep ⟨12,.data⟩ (by simp) rfl).2
   clear hdep;have hK':=hK w' (.pointer (some ⟨g,0,none⟩)) (by simp) (hx.step (fun _ _ _ b h=>h.below b) 13 (by decide) _ (Below.refl _ _) (fun h=>absurd h (by decide))) (by rw[if_neg (by decide)];exact(Below.refl _ _));clear hK;rw[if_pos (by rfl)];go_simp;simpa[upd,d12] using hK'
  ·have d13:t 13=.pointer (some ⟨g,0,none⟩):=by simpa using(hdep ⟨13,.data⟩ (by simp) rfl).2
   clear hdep;have hK':=hK w' (.pointer (some ⟨g,65,none⟩)) (by simp) (hx.step (fun _ _ _ b h=>h.below b) 14 (by decide) _ (Below.refl _ _) (fun h=>absurd h (by decide))) (by rw[if_neg (by decide)];exact(Below.refl _ _));clear hK;rw[if_pos (by rfl)];go_simp;simpa[upd,d13] using hK'
  ·have d14:t 14=.pointer (some ⟨g,65,none⟩):=by simpa using(hdep ⟨14,.data⟩ (by simp) rfl).2
   clear hdep;have cc:w'.cell? ⟨g,65,none⟩=some (.slice aT nT cT):=(HBK.out.below hx.ax.below HGL.out).cv;have hK':=hK w' (.slice aT nT cT) (by simp) (hx.step (fun _ _ _ b h=>h.below b) 15 (by decide) _ (Below.refl _ _) (fun h=>absurd h (by decide))) (by rw[if_neg (by decide)];exact(Below.refl _ _));clear hK;rw[if_pos (by rfl)];go_simp;simpa[upd,d14] using hK'
  ·have l3:L 3=true:=(hdep ⟨3,.data⟩ (by simp) rfl).1;have f3:IO (w.heap.size+1) w' (t 3) (upTo P 256):=by simpa using(hdep ⟨3,.data⟩ (by simp) rfl).2
   have l7:L 7=true:=(hdep ⟨7,.data⟩ (by simp) rfl).1;have f7:IO (w.heap.size+1) w' (t 7) (upTo Q 256):=by simpa using(hdep ⟨7,.data⟩ (by simp) rfl).2
   have d11:t 11=.int .i64 k:=by simpa using(hdep ⟨11,.data⟩ (by simp) rfl).2
   have d15:t 15=.slice aT nT cT:=by simpa using(hdep ⟨15,.data⟩ (by simp) rfl).2
   clear hdep;obtain⟨aD,nD,cD,d3⟩:=f3.form;obtain⟨aU,nU,cU,d7⟩:=f7.form;have hap:=hx.ax.ap 3 (by decide) 7 (by decide) (by decide) l3 l7;rw[d3] at f3 hap;rw[d7] at f7 hap;have hK':=hK w' (.agg #[.slice aD nD cD,.slice aU nU cU,.int .i64 k,.slice aT nT cT]) (by simpa using⟨_,rfl,aD,nD,cD,aU,nU,cU,rfl,f3,f7,hap⟩) (hx.step (fun _ _ _ b h=>h.below b) 16 (by decide) _ (Below.refl _ _) (fun h=>absurd h (by decide))) (by rw[if_neg (by decide)];exact(Below.refl _ _));clear hK f3 f7 hap;rw[if_pos (by rfl)];go_simp;simpa[upd,d3,d7,d11,d15] using hK'
  ·have f16:StBd (w.heap.size+1) k aT nT cT (upTo P 256) (upTo Q 256) w' (t 16):=by simpa using(hdep ⟨16,.data⟩ (by simp) rfl).2
   clear hdep;obtain⟨cs,e9,aD,nD,cD,aU,nU,cU,rfl,f3,f7,hap⟩:=f16;have hrs:=hx.pre hLi;have hK':∀ ww,Wr w.heap.size w' ww→ww.heap[w.heap.size]?=some (.cells #[.slice aD nD cD,.slice aU nU cU,.int .i64 k,.slice aT nT cT] 33 (0,0))→K _ ww:=fun ww hw hr=>hK ww undef (by simp[updK]) (hx.put (Nat.le_refl _) (by decide) _ hw hr ⟨aD,nD,cD,aU,nU,cU,rfl,f3.wr hw (by omega),f7.wr hw (by omega),hap⟩) (by rw[if_pos rfl];exact hw)
   clear hK f3 f7 hap;rw[if_pos (by rfl)];refine wp_store_row 33 (.tmp 2) (.tmp 19) rfl w.heap.size _ rfl e9 33 _ hrs HSZ.out rfl (by simp[Value.oneCell']) ?_;have hK2:=hK' _ (Wr.setRow _ _ _) (setRow_heap _ _ _ _ _ _ hrs);clear hK';simpa[upd,Act.put] using hK2
 case hdone=>
  intro L t w' hx hg;have l17:L 17=true:=by simpa using hg 17 (by decide)
  clear hg;obtain⟨cs,hr,aD,nD,cD,aU,nU,cU,rfl,h1,h2,h3⟩:=hx.fin l17;have HR9:Hid (w'.heap[w.heap.size]?=some (.cells #[.slice aD nD cD,.slice aU nU cU,.int .i64 k,.slice aT nT cT] 33 (0,0))):=hr;have HF:Hid (IO w.heap.size w' (.slice aD nD cD) (upTo P 256)∧IO w.heap.size w' (.slice aU nU cU) (upTo Q 256)∧ApV (.slice aD nD cD) (.slice aU nU cU)∧Below w.heap.size w w'):=⟨h1.mono (by omega),h2.mono (by omega),h3,hx.ax.below⟩
  clear hx hr h1 h2 h3;go_wp2_with fail;exact bodyPost_ret (v:=.agg #[.slice aD nD cD,.slice aU nU cU,.int .i64 k,.slice aT nT cT]) (results_cell_row rfl _ _ w.heap.size 33 _ (0,0) _ rfl HR9.out Tryz.underlying33 rfl HSZ.out) rfl ⟨aD,nD,cD,aU,nU,cU,rfl,HF.out.1,HF.out.2.1,HF.out.2.2.1,HF.out.2.2.2⟩
theorem withS_ser (xs:List Int) (a:Nat):SerP (withS xs a):=upTo_ser _
open Classical in
noncomputable def apF (D U:List Int) (k:Int) (T:List Int) (n:Nat) (kind:Int) (a b:Nat):ApR:=if stB D U k T n=true then apR D U k T n kind a b else apNo
theorem stP_of {D U:List Int} {k:Int} {T:List Int} {n:Nat} (h:stB D U k T n=true):StP D U k T n:=by
 unfold stB at h;simpa using h
theorem IO.sat {B:Nat} {w:World} {a:Option Addr} {n c:Nat} {xs:List Int} (h:IO B w (.slice a n c) xs):SAt w a xs∧xs.length=n∧Lies B w a:=by
 rcases h.2 with⟨h',h0⟩|⟨g,cap,cur,h',hb,hh,hc,hm,hs,ht⟩
 ·cases h';have:xs=[]:=List.eq_nil_of_length_eq_zero h0;exact⟨.inl this,h0,fun _ e=>(by cases e)⟩
 ·cases h';have hlt:=(Array.getElem?_eq_some_iff.1 hh).1;refine⟨.inr ⟨g,0,rfl,hlt,fun i hi=>?_⟩,rfl,fun ad e=>(by cases e;exact⟨hb,hlt⟩)⟩;rw[Nat.zero_add];refine⟨?_,frozen_of_row _ _ _ _ _ hh⟩;have:=World.ownsRow.cellAt h i (by omega);rw[this];simp[hi]
theorem TapV.sat {B:Nat} {w:World} {a:Option Addr} {n c:Nat} {T:List Int} (h:TapV B w (.slice a n c) T n):SAt w a T∧T.length=n*2∧Lies B w a:=by
 obtain⟨hl,⟨h1,h2⟩|⟨t,o,c',h1,hB,ht,hc,hm,hx⟩⟩:=h
 ·cases h1;exact⟨.inl (List.eq_nil_of_length_eq_zero (by omega)),hl,fun _ e=>(by cases e)⟩
 ·cases h1;exact⟨.inr ⟨t,o,rfl,ht,fun i hi=>hx.1 i (by omega)⟩,hl,fun ad e=>(by cases e;exact⟨hB,ht⟩)⟩
structure IX (w:World) (fr:Array Value) (wr:World):Prop where
 below:Below w.heap.size w wr
 fb:wr.heap[w.heap.size+1]?=some (.cells fr 56 (0,0))
 rb:wr.heap[w.heap.size+2]?=some (.cells #[.bool false,.slice none 0 0,.slice none 0 0,.int .i64 0,.slice none 0 0] 60 (0,0))
theorem IX.start (w:World) (sc fr:Array Value):IX w fr (((w.alloc (.cells sc 33)).alloc (.cells fr 56)).alloc (.cells #[.bool false,.slice none 0 0,.slice none 0 0,.int .i64 0,.slice none 0 0] 60)):=by
 refine⟨(((Below.refl _ _).alloc (Nat.le_refl _) _).alloc (by simp) _).alloc (by simp;omega) _,?_,?_⟩
 ·rw[Below.heap_alloc _ _ (w.heap.size+1) (by simp)];have:=heap_alloc_new (w.alloc (.cells sc 33)) (.cells fr 56)
  rwa [show(w.alloc (.cells sc 33)).heap.size=w.heap.size+1 by simp] at this
 ·have:=heap_alloc_new ((w.alloc (.cells sc 33)).alloc (.cells fr 56)) (.cells #[.bool false,.slice none 0 0,.slice none 0 0,.int .i64 0,.slice none 0 0] 60)
  rwa [show((w.alloc (.cells sc 33)).alloc (.cells fr 56)).heap.size=w.heap.size+2 by simp] at this
theorem run_appG0 (tS tE:TypeId) (z:Value) (size bytes:Nat) (hinfo:(Tryz.prog.info? tE).map (fun i=>(i.zero,i.size,i.bytes))=some (some z,size,bytes)) (hu:Tryz.prog.underlying tS=some (.slice tE))
  (w:World) (ty:TypeId) (v:Addr) (x:Option Addr) (c:Nat):(Builtin.append_ #[tS,tS] ty #[.slice (some v) 0 0,.slice x 0 c]).run Tryz.prog w=.ok (.slice (some v) 0 0) w:=by
 obtain⟨i0,hi,hz0,hz1,hz2⟩:=info_parts hinfo;have hf:=fun ad=>run_firstCells_some (P:=Tryz.prog) w i0.size 0 ad 0 c [] (by simp) (fun j v hv=>by simp at hv)
 have hs:∀ p,(storeCells p []).run Tryz.prog w=.ok () w:=fun _=>rfl
 cases x with
 |none=>simp[Builtin.append_,run_underlying hu,sizeOf,typeInfo,zeroValue,hi,hz0,Builtin.lenOf,run_firstCells_none,hs]
 |some ad=>simp[Builtin.append_,run_underlying hu,sizeOf,typeInfo,zeroValue,hi,hz0,Builtin.lenOf,hf,hs]
def EmS (lo:Nat) (tE:TypeId) (w:World) (v:Value):Prop:=∃ g,v=.slice (some ⟨g,0,none⟩) 0 0∧lo≤g∧w.heap[g]?=some (.cells #[] tE (0,0))
theorem EmS.below {lo:Nat} {tE:TypeId} {w w':World} {v:Value} (h:EmS lo tE w v) (b:Below w.heap.size w w'):EmS lo tE w' v:=by
 obtain⟨g,e,h1,h2⟩:=h;exact⟨g,e,h1,by rw[b.block g (Array.getElem?_eq_some_iff.1 h2).1];exact h2⟩
theorem EmS.wr {lo R:Nat} {tE:TypeId} {w w':World} {v:Value} (h:EmS lo tE w v) (hw:Wr R w w') (hR:R<lo):EmS lo tE w' v:=by
 obtain⟨g,e,h1,h2⟩:=h;exact⟨g,e,h1,by rw[hw.block g (by omega)];exact h2⟩
theorem EmS.new {lo:Nat} (tE:TypeId) (w:World) (h:lo≤w.heap.size):EmS lo tE (w.alloc (.cells #[] tE)) (.slice (some ⟨w.heap.size,0,none⟩) 0 0):=⟨_,rfl,h,heap_alloc_new w _⟩
theorem EmS.owns {lo:Nat} {tE:TypeId} {w:World} {g:Nat} (size:Nat) (h1:lo≤g) (h2:w.heap[g]?=some (.cells #[] tE (0,0))):w.ownsRow lo tE size (.slice (some ⟨g,0,none⟩) 0 0) 0 []:=
 ⟨by simp,.inr ⟨g,0,#[],rfl,h1,h2,Nat.le_refl _,by simp[maxLen],by simp,by simp⟩⟩
theorem wp_appG (tS tE:TypeId) (z:Value) (size bytes:Nat) (hinfo:(Tryz.prog.info? tE).map (fun i=>(i.zero,i.size,i.bytes))=some (some z,size,bytes)) (hu:Tryz.prog.underlying tS=some (.slice tE)) (hzs:z.cells.size=size) (hsz:0<size) (hby:bytes≤64)
  (w:World) {o:Oper} {a:Act} {K:Act→World→Prop} {Q:Exit→Act→World→Prop} (s x:Operand) (hop:o.op=Op.call { callee:=Callee.builtin Builtin.append,args:=#[s,x],argTypes:=#[tS,tS] })
  (S:Nat) (v:Value) (hs:a.eval s=v) (hem:EmS S tE w v) (xa:Option Addr) (n c:Nat) (zs:List Int) (hx:a.eval x=.slice xa n c) (hl:zs.length=n*size) (hA:At .i64 w xa zs) (hb:n≤1048576) (hSw:S≤w.heap.size)
  (h:∀ v' w',w'.ownsRow S tE size v' n (zs.map (Value.int .i64))→Below w.heap.size w w'→K (a.put o.dst v') w'):o.wp Tryz.prog a w K Q:=by
 obtain⟨B,rfl,hB,hrow⟩:=hem;have hown:=EmS.owns size hB hrow;by_cases h0:n=0
 ·subst h0;have hz:zs=[]:=List.eq_nil_of_length_eq_zero (by omega);have hk:=h (.slice (some ⟨B,0,none⟩) 0 0) w (by rw[hz];exact hown) (Below.refl _ _);have hr:=run_appG0 tS tE z size bytes hinfo hu w o.type ⟨B,0,none⟩ xa c;unfold Oper.wp execOp;simp only[hop,resolve,invoke,builtin,Sem.run_bind,Sem.run_pure,Result.andThen_ok,List.map_toArray,List.map_cons,List.map_nil,hs,hx,hr];exact hk
 ·have hz0':0<zs.length:=by rw[hl];exact Nat.mul_pos (by omega) hsz
  obtain⟨b,off,rfl,hbl,hc⟩:=hA.get hz0';obtain⟨i0,hi,hz0,hz1,hz2⟩:=info_parts hinfo;have hnews:∀ j u,(zs.map (Value.int .i64))[j]?=some u→w.cell? ((⟨b,off,none⟩:Addr).add j)=some u:=by
   intro j u hu;have hj:j<zs.length:=by have:=(List.getElem?_eq_some_iff.1 hu).1;simpa using this
   rw[Addr.add_lit,hc j hj];simp[hj] at hu;simp[hj,hu]
  have hle:n*bytes≤1048576*64:=Nat.mul_le_mul hb hby;have hfit:Builtin.nextslicecap (0+n) 0*i0.bytes≤281474976710656:=by rw[Nat.zero_add,nextslicecap_zero (by omega),hz2];omega
  have hg:=run_append_grow (P:=Tryz.prog) w tS o.type tE i0 z hu hi hz0 ⟨B,0,none⟩ 0 0 [] (by simp) (fun j v hv=>by simp at hv) ⟨b,off,none⟩ n c (zs.map (Value.int .i64)) (by simp[hz1,hl]) hnews (by omega) (by omega) hfit;obtain⟨v',w',hr,h2,h3,h4⟩:=run_append_own (P:=Tryz.prog) w S tS o.type tE i0 z size bytes hu hi hz0 hz1 hz2 hzs hsz _ 0 [] hown ⟨b,off,none⟩ n c (zs.map (Value.int .i64)) (by simp[hl]) hnews (ints_oneCell _ _) (by unfold maxLen;omega) (by rw[Nat.zero_add];omega) hSw;have he:=hr.symm.trans hg;injection he with e1 e2
  have hBl:Below w.heap.size w w':=by rw[e2];exact(Below.refl _ _).drew.alloc (Nat.le_refl _) _
  have hk:=h v' w' (by simpa using h2) hBl;unfold Oper.wp execOp;simp only[hop,resolve,invoke,builtin,Sem.run_bind,Sem.run_pure,Result.andThen_ok,List.map_toArray,List.map_cons,List.map_nil,hs,hx,hr];exact hk
theorem wpList_appG (tS tE:TypeId) (z:Value) (size bytes:Nat) (hinfo:(Tryz.prog.info? tE).map (fun i=>(i.zero,i.size,i.bytes))=some (some z,size,bytes)) (hu:Tryz.prog.underlying tS=some (.slice tE)) (hzs:z.cells.size=size) (hsz:0<size) (hby:bytes≤64)
  (w:World) {ops:Array Oper} {rest:List Oper} {o:Oper} {a:Act} {Q:Exit→Act→World→Prop} (hgd:o.guard=none) (s x:Operand) (hop:o.op=Op.call { callee:=Callee.builtin Builtin.append,args:=#[s,x],argTypes:=#[tS,tS] })
  (S:Nat) (v:Value) (hs:a.eval s=v) (hem:EmS S tE w v) (xa:Option Addr) (n c:Nat) (zs:List Int) (hx:a.eval x=.slice xa n c) (hl:zs.length=n*size) (hA:At .i64 w xa zs) (hb:n≤1048576) (hSw:S≤w.heap.size)
  (h:∀ v' w',w'.ownsRow S tE size v' n (zs.map (Value.int .i64))→Below w.heap.size w w'→wpList Tryz.prog ops Q rest (a.put o.dst v') w'):wpList Tryz.prog ops Q (o::rest) a w:=
 wpList_plain hgd fun _ hK=>wp_appG tS tE z size bytes hinfo hu hzs hsz hby w s x hop S v hs hem xa n c zs hx hl hA hb hSw fun v' w' h1 h2=>hK _ _ (h v' w' h1 h2)
end Go.Proofs.YtjdhhgaelgemcaaGreatDoor
namespace Go.Proofs.YtjdhhgaelgemcaaGreatDoor
open Go.ChangeShapes Go.WideShapes Go.ChangeAt Go.RowKit Go.Joins
set_option linter.unusedVariables false
theorem tab_keepV {w w':World} (h:TabIn w) (hz:1<w.heap.size) (hb:Below w.heap.size w w'):TabIn w':=fun i hi=>by rw[hb.cell (p:=⟨1,i,none⟩) hz];exact h i hi
theorem pt_newV (w:World):Pt (w.alloc (.cells #[.int .u64 0,.int .u64 0,.int .u64 0,.int .u64 0,.int .u64 0,.int .u64 0,.int .u64 0,.int .u64 0,.int .u64 0,.int .u64 0,.int .u64 0,.int .u64 0,.int .u64 0,.int .u64 0,.int .u64 0,.int .u64 0,.int .u64 0,.int .u64 0,.int .u64 0,.int .u64 0] 140)) w.heap.size [0,0,0,0,0] [0,0,0,0,0] [0,0,0,0,0] [0,0,0,0,0]:=⟨heap_alloc_new w _,zero_ok,zero_ok,zero_ok,zero_ok⟩
theorem vsR_64 {pub msg sig:List Int} (h:¬ sig.length=64):vsR pub msg sig=false:=by unfold vsR;simp[h]
theorem vsR_q {pub msg sig:List Int} (h:decide (val 256 (sig.drop 32)<bigL)=false):vsR pub msg sig=false:=by unfold vsR;simp[h]
theorem vsR_p {pub msg sig:List Int} (h:mB pub mdD=false):vsR pub msg sig=false:=by unfold vsR;simp[h]
theorem vsR_r {pub msg sig:List Int} (h:mB (sig.take 32) mdD=false):vsR pub msg sig=false:=by unfold vsR;simp[h]
theorem vsR_e {pub msg sig:List Int} (h1:sig.length=64) (h2:decide (val 256 (sig.drop 32)<bigL)=true) (h3:mB pub mdD=true) (h4:mB (sig.take 32) mdD=true):vsR pub msg sig=eqnS pub msg sig:=by unfold vsR;rw[h2,h3,h4,decide_eq_true h1];simp
theorem dc_pt {zs x y z t:List Int} (hz:Byte zs) (hb:mB zs mdD=true) (hv:dcR zs=true→ev x=dcX zs∧ev y=dcY zs∧ev z=1∧ev t=dcX zs*dcY zs%fp):((ev x,ev y,ev z,ev t):Q4)=ptQ zs:=by
 obtain⟨e1,e2,e3,e4⟩:=hv (by rw[dec_same zs hz];exact hb);have q1:=decX_same zs (mB_len2 hb).1 hz (mB_len2 hb).2;unfold ptQ;rw[e1,q1,e2,e3,e4,q1];rfl
theorem ev_rd (x y z t:List Int):Rd ((ev x,ev y,ev z,ev t):Q4):=⟨ev_bd _,ev_bd _,ev_bd _,ev_bd _⟩
set_option maxRecDepth 100000 in
set_option maxHeartbeats 4000000 in
theorem vsI_any (bp op cp bm om cm bs os cs np nm ns:Nat) (pub msg sig:List Int) (w:World) (hpl:pub.length=np) (hml:msg.length=nm) (hsl:sig.length=ns) (hp:PtA w bp op pub) (hm:PtA w bm om msg) (hs:PtA w bs os sig)
  (zp:Byte pub) (zm:Byte msg) (zs:Byte sig) (hcs:ns≤cs) (bnp:np≤1048576) (bnm:nm≤1048576) (bns:ns≤1048576) (hT:TabIn w) (h0:1<w.heap.size) :
  Calls Tryz.prog 81 #[.slice (some ⟨bp,op,none⟩) np cp,.slice (some ⟨bm,om,none⟩) nm cm,.slice (some ⟨bs,os,none⟩) ns cs] w fun e w'=>e=.returned (.bool (vsR pub msg sig))∧Below w.heap.size w w':=by
 have HB0:Hid (Below w.heap.size w (((w.alloc (.cells #[.int .u64 0,.int .u64 0,.int .u64 0,.int .u64 0,.int .u64 0,.int .u64 0,.int .u64 0,.int .u64 0,.int .u64 0,.int .u64 0,.int .u64 0,.int .u64 0,.int .u64 0,.int .u64 0,.int .u64 0,.int .u64 0,.int .u64 0,.int .u64 0,.int .u64 0,.int .u64 0] 140)).alloc (.cells #[.int .u64 0,.int .u64 0,.int .u64 0,.int .u64 0,.int .u64 0,.int .u64 0,.int .u64 0,.int .u64 0,.int .u64 0,.int .u64 0,.int .u64 0,.int .u64 0,.int .u64 0,.int .u64 0,.int .u64 0,.int .u64 0,.int .u64 0,.int .u64 0,.int .u64 0,.int .u64 0] 140)).alloc (.cells #[.int .u64 0,.int .u64 0,.int .u64 0,.int .u64 0,.int .u64 0,.int .u64 0,.int .u64 0,.int .u64 0,.int .u64 0,.int .u64 0,.int .u64 0,.int .u64 0,.int .u64 0,.int .u64 0,.int .u64 0,.int .u64 0,.int .u64 0,.int .u64 0,.int .u64 0,.int .u64 0] 140))):=((below_new3 _ _).trans ((below_new3 _ _).mono (by simp))).trans ((below_new3 _ _).mono (by simp;omega));have HK0:Hid (Pt (((w.alloc (.cells #[.int .u64 0,.int .u64 0,.int .u64 0,.int .u64 0,.int .u64 0,.int .u64 0,.int .u64 0,.int .u64 0,.int .u64 0,.int .u64 0,.int .u64 0,.int .u64 0,.int .u64 0,.int .u64 0,.int .u64 0,.int .u64 0,.int .u64 0,.int .u64 0,.int .u64 0,.int .u64 0] 140)).alloc (.cells #[.int .u64 0,.int .u64 0,.int .u64 0,.int .u64 0,.int .u64 0,.int .u64 0,.int .u64 0,.int .u64 0,.int .u64 0,.int .u64 0,.int .u64 0,.int .u64 0,.int .u64 0,.int .u64 0,.int .u64 0,.int .u64 0,.int .u64 0,.int .u64 0,.int .u64 0,.int .u64 0] 140)).alloc (.cells #[.int .u64 0,.int .u64 0,.int .u64 0,.int .u64 0,.int .u64 0,.int .u64 0,.int .u64 0,.int .u64 0,.int .u64 0,.int .u64 0,.int .u64 0,.int .u64 0,.int .u64 0,.int .u64 0,.int .u64 0,.int .u64 0,.int .u64 0,.int .u64 0,.int .u64 0,.int .u64 0] 140)) w.heap.size [0,0,0,0,0] [0,0,0,0,0] [0,0,0,0,0] [0,0,0,0,0]):=((pt_newV w).below (below_new3 _ _) (by simp)).below (below_new3 _ _) (by simp;omega);have HN0:Hid (Pt (((w.alloc (.cells #[.int .u64 0,.int .u64 0,.int .u64 0,.int .u64 0,.int .u64 0,.int .u64 0,.int .u64 0,.int .u64 0,.int .u64 0,.int .u64 0,.int .u64 0,.int .u64 0,.int .u64 0,.int .u64 0,.int .u64 0,.int .u64 0,.int .u64 0,.int .u64 0,.int .u64 0,.int .u64 0] 140)).alloc (.cells #[.int .u64 0,.int .u64 0,.int .u64 0,.int .u64 0,.int .u64 0,.int .u64 0,.int .u64 0,.int .u64 0,.int .u64 0,.int .u64 0,.int .u64 0,.int .u64 0,.int .u64 0,.int .u64 0,.int .u64 0,.int .u64 0,.int .u64 0,.int .u64 0,.int .u64 0,.int .u64 0] 140)).alloc (.cells #[.int .u64 0,.int .u64 0,.int .u64 0,.int .u64 0,.int .u64 0,.int .u64 0,.int .u64 0,.int .u64 0,.int .u64 0,.int .u64 0,.int .u64 0,.int .u64 0,.int .u64 0,.int .u64 0,.int .u64 0,.int .u64 0,.int .u64 0,.int .u64 0,.int .u64 0,.int .u64 0] 140)) (w.heap.size+1) [0,0,0,0,0] [0,0,0,0,0] [0,0,0,0,0] [0,0,0,0,0]):=by
  have:=(pt_newV (w.alloc (.cells #[.int .u64 0,.int .u64 0,.int .u64 0,.int .u64 0,.int .u64 0,.int .u64 0,.int .u64 0,.int .u64 0,.int .u64 0,.int .u64 0,.int .u64 0,.int .u64 0,.int .u64 0,.int .u64 0,.int .u64 0,.int .u64 0,.int .u64 0,.int .u64 0,.int .u64 0,.int .u64 0] 140))).below (below_new3 ((w.alloc (.cells #[.int .u64 0,.int .u64 0,.int .u64 0,.int .u64 0,.int .u64 0,.int .u64 0,.int .u64 0,.int .u64 0,.int .u64 0,.int .u64 0,.int .u64 0,.int .u64 0,.int .u64 0,.int .u64 0,.int .u64 0,.int .u64 0,.int .u64 0,.int .u64 0,.int .u64 0,.int .u64 0] 140)).alloc (.cells #[.int .u64 0,.int .u64 0,.int .u64 0,.int .u64 0,.int .u64 0,.int .u64 0,.int .u64 0,.int .u64 0,.int .u64 0,.int .u64 0,.int .u64 0,.int .u64 0,.int .u64 0,.int .u64 0,.int .u64 0,.int .u64 0,.int .u64 0,.int .u64 0,.int .u64 0,.int .u64 0] 140)) (.cells #[.int .u64 0,.int .u64 0,.int .u64 0,.int .u64 0,.int .u64 0,.int .u64 0,.int .u64 0,.int .u64 0,.int .u64 0,.int .u64 0,.int .u64 0,.int .u64 0,.int .u64 0,.int .u64 0,.int .u64 0,.int .u64 0,.int .u64 0,.int .u64 0,.int .u64 0,.int .u64 0] 140)) (by simp);rw[show(w.alloc (.cells #[.int .u64 0,.int .u64 0,.int .u64 0,.int .u64 0,.int .u64 0,.int .u64 0,.int .u64 0,.int .u64 0,.int .u64 0,.int .u64 0,.int .u64 0,.int .u64 0,.int .u64 0,.int .u64 0,.int .u64 0,.int .u64 0,.int .u64 0,.int .u64 0,.int .u64 0,.int .u64 0] 140)).heap.size=w.heap.size+1 by simp] at this;exact this
 have HL0:Hid (Pt (((w.alloc (.cells #[.int .u64 0,.int .u64 0,.int .u64 0,.int .u64 0,.int .u64 0,.int .u64 0,.int .u64 0,.int .u64 0,.int .u64 0,.int .u64 0,.int .u64 0,.int .u64 0,.int .u64 0,.int .u64 0,.int .u64 0,.int .u64 0,.int .u64 0,.int .u64 0,.int .u64 0,.int .u64 0] 140)).alloc (.cells #[.int .u64 0,.int .u64 0,.int .u64 0,.int .u64 0,.int .u64 0,.int .u64 0,.int .u64 0,.int .u64 0,.int .u64 0,.int .u64 0,.int .u64 0,.int .u64 0,.int .u64 0,.int .u64 0,.int .u64 0,.int .u64 0,.int .u64 0,.int .u64 0,.int .u64 0,.int .u64 0] 140)).alloc (.cells #[.int .u64 0,.int .u64 0,.int .u64 0,.int .u64 0,.int .u64 0,.int .u64 0,.int .u64 0,.int .u64 0,.int .u64 0,.int .u64 0,.int .u64 0,.int .u64 0,.int .u64 0,.int .u64 0,.int .u64 0,.int .u64 0,.int .u64 0,.int .u64 0,.int .u64 0,.int .u64 0] 140)) (w.heap.size+1+1) [0,0,0,0,0] [0,0,0,0,0] [0,0,0,0,0] [0,0,0,0,0]):=by
  have:=pt_newV ((w.alloc (.cells #[.int .u64 0,.int .u64 0,.int .u64 0,.int .u64 0,.int .u64 0,.int .u64 0,.int .u64 0,.int .u64 0,.int .u64 0,.int .u64 0,.int .u64 0,.int .u64 0,.int .u64 0,.int .u64 0,.int .u64 0,.int .u64 0,.int .u64 0,.int .u64 0,.int .u64 0,.int .u64 0] 140)).alloc (.cells #[.int .u64 0,.int .u64 0,.int .u64 0,.int .u64 0,.int .u64 0,.int .u64 0,.int .u64 0,.int .u64 0,.int .u64 0,.int .u64 0,.int .u64 0,.int .u64 0,.int .u64 0,.int .u64 0,.int .u64 0,.int .u64 0,.int .u64 0,.int .u64 0,.int .u64 0,.int .u64 0] 140));rw[show((w.alloc (.cells #[.int .u64 0,.int .u64 0,.int .u64 0,.int .u64 0,.int .u64 0,.int .u64 0,.int .u64 0,.int .u64 0,.int .u64 0,.int .u64 0,.int .u64 0,.int .u64 0,.int .u64 0,.int .u64 0,.int .u64 0,.int .u64 0,.int .u64 0,.int .u64 0,.int .u64 0,.int .u64 0] 140)).alloc (.cells #[.int .u64 0,.int .u64 0,.int .u64 0,.int .u64 0,.int .u64 0,.int .u64 0,.int .u64 0,.int .u64 0,.int .u64 0,.int .u64 0,.int .u64 0,.int .u64 0,.int .u64 0,.int .u64 0,.int .u64 0,.int .u64 0,.int .u64 0,.int .u64 0,.int .u64 0,.int .u64 0] 140)).heap.size=w.heap.size+1+1 by simp] at this;exact this
 have HP:=hid_ofS hp;have HM:=hid_ofS hm;have HS:=hid_ofS hs;have HZ:=hid_ofS (And.intro zp (And.intro zm zs));have HT:=hid_ofS (And.intro hT h0);clear hp hm hs zp zm zs hT h0;by_cases h64:ns=64
 ·subst h64;have hslh:=fun w=>run_sliceHi w bs os cs hcs
  have hsll:=fun w=>run_sliceLo w bs os cs hcs
  have hdl:(sig.drop 32).length=32:=by rw[List.length_drop,hsl]
  have htl:(sig.take 32).length=32:=by rw[List.length_take,hsl];rfl
  go_enter Tryz.func81,Tryz.ntmps81;go_wp2_with fail;generalize (((w.alloc (.cells #[.int .u64 0,.int .u64 0,.int .u64 0,.int .u64 0,.int .u64 0,.int .u64 0,.int .u64 0,.int .u64 0,.int .u64 0,.int .u64 0,.int .u64 0,.int .u64 0,.int .u64 0,.int .u64 0,.int .u64 0,.int .u64 0,.int .u64 0,.int .u64 0,.int .u64 0,.int .u64 0] 140)).alloc (.cells #[.int .u64 0,.int .u64 0,.int .u64 0,.int .u64 0,.int .u64 0,.int .u64 0,.int .u64 0,.int .u64 0,.int .u64 0,.int .u64 0,.int .u64 0,.int .u64 0,.int .u64 0,.int .u64 0,.int .u64 0,.int .u64 0,.int .u64 0,.int .u64 0,.int .u64 0,.int .u64 0] 140)).alloc (.cells #[.int .u64 0,.int .u64 0,.int .u64 0,.int .u64 0,.int .u64 0,.int .u64 0,.int .u64 0,.int .u64 0,.int .u64 0,.int .u64 0,.int .u64 0,.int .u64 0,.int .u64 0,.int .u64 0,.int .u64 0,.int .u64 0,.int .u64 0,.int .u64 0,.int .u64 0,.int .u64 0] 140))=w0 at *;refine(iok2_any (some ⟨bs,os+32,none⟩) 32 (cs-32) (sig.drop 32) _ hdl ((HS.out.below HB0.out).drop 32).at_ (byte_drop HZ.out.2.2 32)).mono ?_;rintro e w1 ⟨rfl,b1⟩;have HB1:Hid (Below w.heap.size w w1):=HB0.out.trans (b1.mono HB0.out.size);have HK1:Hid (Pt w1 w.heap.size [0,0,0,0,0] [0,0,0,0,0] [0,0,0,0,0] [0,0,0,0,0]):=HK0.out.below b1 HK0.out.row.lt;have HN1:Hid (Pt w1 (w.heap.size+1) [0,0,0,0,0] [0,0,0,0,0] [0,0,0,0,0] [0,0,0,0,0]):=HN0.out.below b1 HN0.out.row.lt;have HL1:Hid (Pt w1 (w.heap.size+1+1) [0,0,0,0,0] [0,0,0,0,0] [0,0,0,0,0] [0,0,0,0,0]):=HL0.out.below b1 HL0.out.row.lt;have hqq:decide (32=32∧val 256 (sig.drop 32)<bigL)=decide (val 256 (sig.drop 32)<bigL):=by simp
  rw[hqq];clear b1 HB0 HK0 HN0 HL0 hqq;cases hq:decide (val 256 (sig.drop 32)<bigL) with
  |false=>
   have HV:=hid_ofS (vsR_q (pub:=pub) (msg:=msg) hq);clear hq HK1 HN1 HL1;go_wp2
   go_ret
   exact⟨by rw[HV.out];rfl,HB1.out⟩
  |true=>
   have HQ:=hid_ofS hq;clear hq;go_wp2_with fail;refine(decode_any w.heap.size _ _ _ _ (some ⟨bp,op,none⟩) np cp pub _ hpl bnp (HP.out.below HB1.out).at_ HZ.out.1 HK1.out).mono ?_;rintro e w2 ⟨x1,y1,z1,t1,P1,hw1,rfl,hv1⟩;have HB2:Hid (Below w.heap.size w w2):=HB1.out.trans (hw1.below w.heap.size (Nat.le_refl _) HB1.out.size);have HK2:Hid (Pt w2 w.heap.size x1 y1 z1 t1):=P1;have HN2:Hid (Pt w2 (w.heap.size+1) [0,0,0,0,0] [0,0,0,0,0] [0,0,0,0,0] [0,0,0,0,0]):=HN1.out.wrh2 hw1 (by omega);have HL2:Hid (Pt w2 (w.heap.size+1+1) [0,0,0,0,0] [0,0,0,0,0] [0,0,0,0,0] [0,0,0,0,0]):=HL1.out.wrh2 hw1 (by omega);have HV1:=hid_ofS hv1;rw[dec_same pub HZ.out.1];clear hw1 P1 hv1 HB1 HK1 HN1 HL1;cases hb:mB pub mdD with
   |false=>
    have HV:=hid_ofS (vsR_p (msg:=msg) (sig:=sig) hb);clear hb HK2 HN2 HL2 HV1;go_wp2
    go_ret
    exact⟨by rw[HV.out];rfl,HB2.out⟩
   |true=>
    have HE1:=hid_ofS (dc_pt HZ.out.1 hb HV1.out);have HBP:=hid_ofS hb;obtain rfl:np=32:=by rw[←hpl];exact(mB_len2 hb).1
    clear hb HV1;go_wp2_with fail;refine(decode_any (w.heap.size+1) _ _ _ _ (some ⟨bs,os,none⟩) 32 cs (sig.take 32) _ htl (by decide) ((HS.out.below HB2.out).take 32).at_ (byte_take HZ.out.2.2 32) HN2.out).mono ?_;rintro e w3 ⟨x2,y2,z2,t2,P2,hw2,rfl,hv2⟩;have HB3:Hid (Below w.heap.size w w3):=HB2.out.trans (hw2.below w.heap.size (by omega) HB2.out.size);have HK3:Hid (Pt w3 w.heap.size x1 y1 z1 t1):=HK2.out.wrh2 hw2 (by omega);have HN3:Hid (Pt w3 (w.heap.size+1) x2 y2 z2 t2):=P2;have HL3:Hid (Pt w3 (w.heap.size+1+1) [0,0,0,0,0] [0,0,0,0,0] [0,0,0,0,0] [0,0,0,0,0]):=HL2.out.wrh2 hw2 (by omega);have HV2:=hid_ofS hv2;rw[dec_same (sig.take 32) (byte_take HZ.out.2.2 32)];clear hw2 P2 hv2 HB2 HK2 HN2 HL2;cases hb2:mB (sig.take 32) mdD with
    |false=>
     have HV:=hid_ofS (vsR_r (msg:=msg) (pub:=pub) hb2);clear hb2 HK3 HN3 HL3 HV2;go_wp2
     go_ret
     exact⟨by rw[HV.out];rfl,HB3.out⟩
    |true=>
     have HE2:=hid_ofS (dc_pt (byte_take HZ.out.2.2 32) hb2 HV2.out);have HVR:=hid_ofS (vsR_e (msg:=msg) hsl HQ.out HBP.out hb2);clear hb2 HV2 HQ HBP;go_wp2_with fail;refine(ibas_any _).mono ?_;rintro e w4 ⟨v4,b4s,rfl,o4,c1,c2,c3,b4⟩;obtain rfl:=bB_of c1 c2 c3;obtain⟨g4,c4,rfl,hA4,hc4⟩:=PtA.of_own o4;have HB4:Hid (Below w.heap.size w w4):=HB3.out.trans (b4.mono HB3.out.size);have HK4:Hid (Pt w4 w.heap.size x1 y1 z1 t1):=HK3.out.below b4 HK3.out.row.lt;have HN4:Hid (Pt w4 (w.heap.size+1) x2 y2 z2 t2):=HN3.out.below b4 HN3.out.row.lt;have HL4:Hid (Pt w4 (w.heap.size+1+1) [0,0,0,0,0] [0,0,0,0,0] [0,0,0,0,0] [0,0,0,0,0]):=HL3.out.below b4 HL3.out.row.lt;have HA4:=hid_ofS hA4;rw[bB_len];clear o4 c1 c2 c3 b4 hA4 hc4 HB3 HK3 HN3 HL3;go_wp2_with fail;refine(decode_any (w.heap.size+1+1) _ _ _ _ (some ⟨g4,0,none⟩) 32 c4 bB _ bB_len (by decide) HA4.out.at_ bB_byte HL4.out).mono ?_;rintro e w5 ⟨x3,y3,z3,t3,P3,hw3,rfl,hv3⟩;have HB5:Hid (Below w.heap.size w w5):=HB4.out.trans (hw3.below w.heap.size (by omega) HB4.out.size);have HK5:Hid (Pt w5 w.heap.size x1 y1 z1 t1):=HK4.out.wrh2 hw3 (by omega);have HN5:Hid (Pt w5 (w.heap.size+1) x2 y2 z2 t2):=HN4.out.wrh2 hw3 (by omega);have HL5:Hid (Pt w5 (w.heap.size+1+1) x3 y3 z3 t3):=P3;have HE3:=hid_ofS (dc_pt bB_byte bB_ok hv3);generalize dcR bB=rb at *;clear hw3 P3 hv3 HB4 HK4 HN4 HL4 HA4;go_wp2_with fail;refine(nof_any (some ⟨bs,os+32,none⟩) 32 (cs-32) (sig.drop 32) _ hdl (by decide) (by decide) ((HS.out.below HB5.out).drop 32).at_ (byte_drop HZ.out.2.2 32)).mono ?_;rintro e w6 ⟨ms,hl,hw,hv,rfl,b6⟩;rw[List.take_of_length_le (by omega)] at hv;have HB6:Hid (Below w.heap.size w w6):=HB5.out.trans (b6.mono HB5.out.size);have HK6:Hid (Pt w6 w.heap.size x1 y1 z1 t1):=HK5.out.below b6 HK5.out.row.lt;have HN6:Hid (Pt w6 (w.heap.size+1) x2 y2 z2 t2):=HN5.out.below b6 HN5.out.row.lt;have HL6:Hid (Pt w6 (w.heap.size+1+1) x3 y3 z3 t3):=HL5.out.below b6 HL5.out.row.lt;have CM:=hid_ofS (multiply_any (w.heap.size+1+1) x3 y3 z3 t3 ms w6 HL6.out hl hw);rw[HE3.out,hv] at CM;clear b6 HB5 HK5 HN5 HL5 hl hw hv;go_wp2_with fail;refine CM.out.mono ?_;rintro e w7 ⟨x4,y4,z4,t4,P4,hw4,rfl,hq4⟩;have HB7:Hid (Below w.heap.size w w7):=HB6.out.trans (hw4.below w.heap.size (by omega) HB6.out.size);have HK7:Hid (Pt w7 w.heap.size x1 y1 z1 t1):=HK6.out.wrh2 hw4 (by omega);have HN7:Hid (Pt w7 (w.heap.size+1) x2 y2 z2 t2):=HN6.out.wrh2 hw4 (by omega);have HL7:Hid (Pt w7 (w.heap.size+1+1) x4 y4 z4 t4):=P4;have HQ4:=hid_ofS hq4;clear P4 hw4 hq4 CM HB6 HK6 HN6 HL6;have hfl:[sig.take 32,pub,msg].flatten=sig.take 32++pub++msg:=by simp
     have hfn:(sig.take 32++pub++msg).length=32+32+nm:=by rw[List.length_append,List.length_append,htl,hpl,hml]
     have HAL:Hid (Below w7.heap.size w7 (w7.alloc (.cells #[.slice (some ⟨bs,os,none⟩) 32 cs,.slice (some ⟨bp,op,none⟩) 32 cp,.slice (some ⟨bm,om,none⟩) nm cm] 26))):=below_new3 _ _;have CC:Hid (Calls Tryz.prog 108 #[.slice (some ⟨w7.heap.size,0,none⟩) 3 3] (w7.alloc (.cells #[.slice (some ⟨bs,os,none⟩) 32 cs,.slice (some ⟨bp,op,none⟩) 32 cp,.slice (some ⟨bm,om,none⟩) nm cm] 26)) _):=
      conc_any w7.heap.size 3 3 [.slice (some ⟨bs,os,none⟩) 32 cs,.slice (some ⟨bp,op,none⟩) 32 cp,.slice (some ⟨bm,om,none⟩) nm cm] [sig.take 32,pub,msg] _ rfl (by simp)
       (fun i hi=>by
        rw[cell_of_row _ _ i _ _ _ (heap_alloc_new w7 _)]
        match i,hi with
        |0,_=>rfl
        |1,_=>rfl
        |2,_=>rfl)
       (fun i hi=>by
        have bx:=HB7.out.trans (HAL.out.mono HB7.out.size)
        match i,hi with
        |0,_=>exact((HS.out.below bx).take 32).part 32 cs htl
        |1,_=>exact(HP.out.below bx).part 32 cp hpl
        |2,_=>exact(HM.out.below bx).part nm cm hml)
       (by rw[hfl,hfn];omega) (by rw[hfl,hfn];omega) (by decide)
     rw[hfl] at CC;have HFN:=hid_ofS hfn;clear hfl hfn;go_wp2_with fail;refine CC.out.mono ?_;rintro e w8 ⟨v8,rfl,o8,b8⟩;obtain⟨g8,c8,rfl,hA8,hc8⟩:=PtA.of_own o8;have b78:Below w7.heap.size w7 w8:=HAL.out.trans (b8.mono HAL.out.size);have HB8:Hid (Below w.heap.size w w8):=HB7.out.trans (b78.mono HB7.out.size);have HK8:Hid (Pt w8 w.heap.size x1 y1 z1 t1):=HK7.out.below b78 HK7.out.row.lt;have HN8:Hid (Pt w8 (w.heap.size+1) x2 y2 z2 t2):=HN7.out.below b78 HN7.out.row.lt;have HL8:Hid (Pt w8 (w.heap.size+1+1) x4 y4 z4 t4):=HL7.out.below b78 HL7.out.row.lt;have HBY:Hid (Byte (sig.take 32++pub++msg)):=fun z hz=>by
      simp only[List.mem_append] at hz;rcases hz with (h|h)|h
      ·exact byte_take HZ.out.2.2 32 z h
      ·exact HZ.out.1 z h
      ·exact HZ.out.2.1 z h
     have CH:=hid_ofS (shaI_any (some ⟨g8,0,none⟩) _ c8 (sig.take 32++pub++msg) w8 rfl hA8.at_ HBY.out (by rw[HFN.out];omega) hc8 (tab_keepV HT.out.1 HT.out.2 HB8.out) (Nat.lt_of_lt_of_le HT.out.2 HB8.out.size));clear o8 b8 b78 hA8 hc8 CC HAL HB7 HK7 HN7 HL7;rw[HFN.out] at CH ⊢;go_wp2_with fail;refine CH.out.mono ?_;rintro e w9 ⟨v9,rfl,o9,b9⟩;obtain⟨g9,c9,rfl,hA9,hc9⟩:=PtA.of_own o9;have HB9:Hid (Below w.heap.size w w9):=HB8.out.trans (b9.mono HB8.out.size);have HK9:Hid (Pt w9 w.heap.size x1 y1 z1 t1):=HK8.out.below b9 HK8.out.row.lt;have HN9:Hid (Pt w9 (w.heap.size+1) x2 y2 z2 t2):=HN8.out.below b9 HN8.out.row.lt;have HL9:Hid (Pt w9 (w.heap.size+1+1) x4 y4 z4 t4):=HL8.out.below b9 HL8.out.row.lt;have hsl9:(shaL (sig.take 32++pub++msg)).length=64:=by unfold shaL;rw[txtW_len,(finL_w8 _ _ _).1]
     have CR:=hid_ofS (rnum_any (some ⟨g9,0,none⟩) 64 c9 (shaL (sig.take 32++pub++msg)) w9 hsl9 (by decide) hA9.at_ (by unfold shaL;exact txtW_byte _));rw[hsl9];clear o9 b9 hA9 hc9 CH HB8 HK8 HN8 HL8 hsl9 HBY;go_wp2_with fail;refine CR.out.mono ?_;rintro e w10 ⟨ks,hl,hw,hv,rfl,b10⟩;have HB10:Hid (Below w.heap.size w w10):=HB9.out.trans (b10.mono HB9.out.size);have HK10:Hid (Pt w10 w.heap.size x1 y1 z1 t1):=HK9.out.below b10 HK9.out.row.lt;have HN10:Hid (Pt w10 (w.heap.size+1) x2 y2 z2 t2):=HN9.out.below b10 HN9.out.row.lt;have HL10:Hid (Pt w10 (w.heap.size+1+1) x4 y4 z4 t4):=HL9.out.below b10 HL9.out.row.lt;have CM:=hid_ofS (multiply_any w.heap.size x1 y1 z1 t1 ks w10 HK10.out hl hw);rw[HE1.out,show val 18446744073709551616 ks=hsV pub msg sig from hv] at CM;clear b10 HB9 HK9 HN9 HL9 CR hl hw hv;go_wp2_with fail;refine CM.out.mono ?_;rintro e w11 ⟨x5,y5,z5,t5,P5,hw5,rfl,hq5⟩;have HB11:Hid (Below w.heap.size w w11):=HB10.out.trans (hw5.below w.heap.size (Nat.le_refl _) HB10.out.size);have HK11:Hid (Pt w11 w.heap.size x5 y5 z5 t5):=P5;have HN11:Hid (Pt w11 (w.heap.size+1) x2 y2 z2 t2):=HN10.out.wrh2 hw5 (by omega);have HL11:Hid (Pt w11 (w.heap.size+1+1) x4 y4 z4 t4):=HL10.out.wrh2 hw5 (by omega);have HQ5:=hid_ofS hq5;clear P5 hw5 hq5 CM HB10 HK10 HN10 HL10;have CA:=hid_ofS (add_any (w.heap.size+1) w.heap.size x2 y2 z2 t2 x5 y5 z5 t5 w11 HN11.out HK11.out);go_wp2_with fail;refine CA.out.mono ?_;intro e w12 h12;obtain⟨x6,y6,z6,t6,P6,hw6,rfl,hq6⟩:=h12.q4;have HB12:Hid (Below w.heap.size w w12):=HB11.out.trans (hw6.below w.heap.size (by omega) HB11.out.size);have HN12:Hid (Pt w12 (w.heap.size+1) x6 y6 z6 t6):=P6;have HL12:Hid (Pt w12 (w.heap.size+1+1) x4 y4 z4 t4):=HL11.out.wrh2 hw6 (by omega);have HEQ:Hid (decide (cdV (ev x4) (ev y4) (ev z4)=cdV (ev x6) (ev y6) (ev z6))=vsR pub msg sig):=by
      show _=_
      have hp1:Rd (ptQ pub):=by rw[←HE1.out];exact ev_rd _ _ _ _
      have hp2:Rd (ptQ (sig.take 32)):=by rw[←HE2.out];exact ev_rd _ _ _ _
      have hp3:Rd (ptQ bB):=by rw[←HE3.out];exact ev_rd _ _ _ _
      rw[HVR.out,←eqn_same pub msg sig hp1 hp2 hp3];unfold eqnI;rw[←HQ4.out,←HQ5.out,←HE2.out,←hq6];rfl
     clear h12 P6 hw6 hq6 CA HB11 HK11 HN11 HL11 HE1 HE2 HE3 HQ4 HQ5 HVR;obtain⟨vr,hvr⟩:∃ v,v=vsR pub msg sig:=⟨_,rfl⟩
     rw[←hvr] at HEQ;have HVV:=hid_ofS hvr;clear hvr;have CL:=hid_ofS (pcode_any (w.heap.size+1+1) x4 y4 z4 t4 w12 HL12.out);generalize cdV (ev x4) (ev y4) (ev z4)=V1 at *;go_wp2_with fail;refine CL.out.mono ?_;rintro e w13 ⟨ls,hl1,hw1,hv1,rfl,b13⟩;have HB13:Hid (Below w.heap.size w w13):=HB12.out.trans (b13.mono HB12.out.size);have HN13:Hid (Pt w13 (w.heap.size+1) x6 y6 z6 t6):=HN12.out.below b13 HN12.out.row.lt;have CR:=hid_ofS (pcode_any (w.heap.size+1) x6 y6 z6 t6 w13 HN13.out);generalize cdV (ev x6) (ev y6) (ev z6)=V2 at *;have HW1:=hid_ofS (And.intro hw1 hv1);clear b13 CL HB12 HN12 HL12 hw1 hv1;go_wp2_with fail;refine CR.out.mono ?_;rintro e w14 ⟨rs,hl2,hw2,hv2,rfl,b14⟩;have HB14:Hid (Below w.heap.size w w14):=HB13.out.trans (b14.mono HB13.out.size);have HQ:Hid (decide (ls=rs)=vr):=by
      show _=_
      rw[←HEQ.out];obtain⟨hw1,hv1⟩:=HW1.out;by_cases h:ls=rs
      ·rw[decide_eq_true h,decide_eq_true (by rw[←hv1,←hv2,h])]
      ·rw[decide_eq_false h,decide_eq_false (fun e=>h (val_inj (B:=18446744073709551616) (by decide) hw1 hw2 (by omega) (by rw[hv1,hv2,e])))]
     clear b14 CR HB13 HN13 HW1 HEQ hw2 hv2;go_wp2_with (simp only[run_eqW _ 9998 4 143 Tryz.underlying143 ls rs hl1 hl2]);rw[HQ.out];clear HQ;simp only[Result.andThen_ok];go_simp;go_wp2
     go_ret
     exact⟨by rw[←HVV.out];rfl,HB14.out⟩
 ·have HV:=hid_ofS (vsR_64 (pub:=pub) (msg:=msg) (sig:=sig) (by rw[hsl];exact h64));have h65:¬ ((ns:Int)=64):=by omega
  have h66:((ns:Int) != 64)=true:=by simpa using h65
  clear HK0 HN0 HL0;go_enter Tryz.func81,Tryz.ntmps81;go_wp2
  go_ret
  exact⟨by rw[HV.out];rfl,HB0.out⟩
end Go.Proofs.YtjdhhgaelgemcaaGreatDoor
namespace Go.Proofs.YtjdhhgaelgemcaaGreatDoor
open Go.ChangeShapes Go.WideShapes Go.ChangeAt Go.RowKit
set_option linter.unusedVariables false
set_option maxRecDepth 100000 in
set_option maxHeartbeats 4000000 in
theorem szSt_any (aD aU aT:Option Addr) (nD cD nU cU nT cT:Nat) (k:Int) (left:Int) (w:World) (h0:0≤left) (h1:left≤1048576) (mD:nD≤9223372036854775807) (mU:nU≤9223372036854775807) (mT:nT≤9223372036854775807) :
  Calls Tryz.prog 4 #[.agg #[.slice aD nD cD,.slice aU nU cU,.int .i64 k,.slice aT nT cT],.int .i64 left] w fun e w'=>e=.returned (.int .i64 (szQ left (nD+nU+nT)))∧Below w.heap.size w w':=by
 have HZ:Hid (∀ left n,szQ left n=if left<n then -1 else left-n):=fun _ _=>rfl
 have HE0:Hid (OE w 25 #[.slice aD nD cD,.slice aU nU cU,.int .i64 k,.slice aT nT cT] (w.alloc (.cells #[.slice aD nD cD,.slice aU nU cU,.int .i64 k,.slice aT nT cT] 25))):=OE.start _ _ _;go_enter Tryz.func4,Tryz.ntmps4;go_wp2_with fail;generalize (w.alloc (.cells #[.slice aD nD cD,.slice aU nU cU,.int .i64 k,.slice aT nT cT] 25))=w0 at *;refine(szI_any _ _ _ _ _ h0 h1 mD).mono ?_;rintro e w1 ⟨rfl,rfl⟩;have HE1:Hid (OE w 25 #[.slice aD nD cD,.slice aU nU cU,.int .i64 k,.slice aT nT cT] w1):=HE0.out;clear HE0;by_cases k0:left<((nD:Nat):Int)
 ·have r:szQ (left) (nD)=-1:=by rw[HZ.out,if_pos k0]
  have HR:Hid (szQ left (nD+nU+nT)=-1):=by show _=_;rw[HZ.out,if_pos (by omega)]
  have HF:Hid (Below w.heap.size w w1):=HE1.out.below;rw[r];clear r k0 HE1;go_wp2
  go_ret
  exact⟨ret_int HR.out.symm,HF.out⟩
 have r:szQ (left) (nD)=left-((nD:Nat):Int):=by rw[HZ.out,if_neg k0]
 rw[r];clear r;have q0:¬ (left-((nD:Nat):Int)<0):=by omega
 have z0:0≤left-((nD:Nat):Int):=by omega
 have zz0:left-((nD:Nat):Int)≤1048576:=by omega
 generalize el0:left-((nD:Nat):Int)=l0 at *;have HQ0:Hid (left-((nD:Nat):Int)=l0):=el0;clear el0;have x1:w1.cell? ⟨w.heap.size,1,none⟩=some (.slice aU nU cU):=by rw[cell_of_row w1 w.heap.size 1 _ _ _ HE1.out.b0];rfl
 go_wp2_with fail;clear x1 q0;refine(szI_any _ _ _ _ _ z0 zz0 mU).mono ?_;rintro e w2 ⟨rfl,rfl⟩;have HE2:Hid (OE w 25 #[.slice aD nD cD,.slice aU nU cU,.int .i64 k,.slice aT nT cT] w2):=HE1.out;clear HE1;by_cases k1:l0<((nU:Nat):Int)
 ·have r:szQ (l0) (nU)=-1:=by rw[HZ.out,if_pos k1]
  have HR:Hid (szQ left (nD+nU+nT)=-1):=by show _=_;have:=HQ0.out;rw[HZ.out,if_pos (by omega)]
  have HF:Hid (Below w.heap.size w w2):=HE2.out.below;rw[r];clear r k1 HE2;go_wp2
  go_ret
  exact⟨ret_int HR.out.symm,HF.out⟩
 have r:szQ (l0) (nU)=l0-((nU:Nat):Int):=by rw[HZ.out,if_neg k1]
 rw[r];clear r;have q1:¬ (l0-((nU:Nat):Int)<0):=by omega
 have z1:0≤l0-((nU:Nat):Int):=by omega
 have zz1:l0-((nU:Nat):Int)≤1048576:=by omega
 generalize el1:l0-((nU:Nat):Int)=l1 at *;have HQ1:Hid (l0-((nU:Nat):Int)=l1):=el1;clear el1;have x3:w2.cell? ⟨w.heap.size,3,none⟩=some (.slice aT nT cT):=by rw[cell_of_row w2 w.heap.size 3 _ _ _ HE2.out.b0];rfl
 go_wp2_with fail;clear x3 q1;refine(szT_any _ _ _ _ _ z1 zz1 mT).mono ?_;rintro e w3 ⟨rfl,rfl⟩;have HE3:Hid (OE w 25 #[.slice aD nD cD,.slice aU nU cU,.int .i64 k,.slice aT nT cT] w3):=HE2.out;clear HE2;by_cases k2:l1<((nT:Nat):Int)
 ·have r:szQ (l1) (nT)=-1:=by rw[HZ.out,if_pos k2]
  have HR:Hid (szQ left (nD+nU+nT)=-1):=by show _=_;have:=HQ0.out;have:=HQ1.out;rw[HZ.out,if_pos (by omega)]
  have HF:Hid (Below w.heap.size w w3):=HE3.out.below;rw[r];clear r k2 HE3;go_wp2
  go_ret
  exact⟨ret_int HR.out.symm,HF.out⟩
 have r:szQ (l1) (nT)=l1-((nT:Nat):Int):=by rw[HZ.out,if_neg k2]
 rw[r];clear r;have q2:¬ (l1-((nT:Nat):Int)<0):=by omega
 have z2:0≤l1-((nT:Nat):Int):=by omega
 have zz2:l1-((nT:Nat):Int)≤1048576:=by omega
 generalize el2:l1-((nT:Nat):Int)=l2 at *;have HQ2:Hid (l1-((nT:Nat):Int)=l2):=el2;clear el2;have HR:Hid (szQ left (nD+nU+nT)=l2):=by show _=_;rw[HZ.out];have:=HQ0.out;have:=HQ1.out;have:=HQ2.out;rw[if_neg (by omega)];omega
 have HF:Hid (Below w.heap.size w w3):=HE3.out.below;clear HE3;go_wp2
 go_ret
 exact⟨ret_int HR.out.symm,HF.out⟩
end Go.Proofs.YtjdhhgaelgemcaaGreatDoor
