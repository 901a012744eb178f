import Derived.Test.YtilpkdnoaldfmaaGreatDoorMCatC
import Derived.Test.YtilpkdnoaldfmaaGreatDoorMBase
import Derived.Deep.WholeRow
import Derived.Test.YtilpkdnoaldfmaaGreatDoorMRows8
import Derived.Test.YtilpkdnoaldfmaaGreatDoorMArgDev
import Derived.Deep.Cut
import Derived.Test.YtilpkdnoaldfmaaGreatDoorMSwH
import Derived.Test.YtilpkdnoaldfmaaGreatDoorMSwA
import Derived.Test.YtilpkdnoaldfmaaGreatDoorMArrEq
import Derived.Test.YtilpkdnoaldfmaaGreatDoorMDkJ
import Derived.Laws.BytesArg
namespace Go.Proofs.YtilpkdnoaldfmaaGreatDoor
open Go.ChangeShapes Go.WideShapes Go.ChangeAt Go.RowKit
set_option linter.unusedVariables false
theorem all4d (a a':Option Addr) (l l' c c':Nat) (f:Int) (d:Bool):(#[Value.slice a l c,.slice a' l' c',.int .i64 f,.bool d].all (fun v=>v.oneCell'))=true:=by simp[Value.oneCell']
theorem Tryz.sizeDev:(Tryz.prog.info? 27).map (·.size)=some 4:=by kernel_rfl
theorem newB (w:World) (o:Obj):Below w.heap.size w (w.alloc o):=(Below.refl _ _).alloc (Nat.le_refl _) _
def Mine (B:Nat) (w:World) (a:Option Addr) (zs:List Int):Prop:=At .u8 w a zs∧Open w a zs.length∧∀ ad,a=some ad→B≤ad.block∧ad.block<w.heap.size
theorem upTo_or (P Q:Nat→Bool) (a:Nat) (ha:P a=false) (hQ:∀ v,Q v=(P v || decide (v=a))) (k:Nat):(upTo Q k).length=(upTo P k).length+(if a<k then 1 else 0):=by
 induction k with
 |zero=>rfl
 |succ k ih=>
  rw[upTo_succ,upTo_succ];by_cases hk:a=k
  ·subst hk;rw[hQ,ha,if_pos (by simp),if_neg (by simp),List.length_append,ih,if_neg (Nat.lt_irrefl _),if_pos (Nat.lt_succ_self _)];simp
  ·have e:Q k=P k:=by rw[hQ,decide_eq_false (fun h=>hk h.symm)];simp
   rw[e];have e2:(if a<k+1 then 1 else 0)=(if a<k then 1 else 0):=by
    by_cases h:a<k
    ·rw[if_pos h,if_pos (by omega)]
    ·rw[if_neg h,if_neg (by omega)]
   rw[e2];split
   ·rw[List.length_append,List.length_append,ih];simp;omega
   ·exact ih
open Classical in
theorem withS_len {U:List Int} {a:Nat} (hU:SerP U) (ha:a<256) (hn:¬ (a:Int)∈U):(withS U a).length=U.length+1:=by
 have e:=SerP.eq_upTo hU (fun v=>decide ((v:Int)∈U)) (fun v _=>by simp);have:=upTo_or (fun v=>decide ((v:Int)∈U)) (fun v=>decide ((v:Int)∈U∨v=a)) a (decide_eq_false hn) (fun v=>by by_cases h1:(v:Int)∈U<;>by_cases h2:v=a<;>simp[h1,h2]) 256;rw[if_pos ha] at this;unfold withS;rw[this]
 conv=>rhs;rw[←e]
theorem mem_withS {U:List Int} {a:Nat} (hU:SerP U) {z:Int} (h:z∈U):z∈withS U a:=by
 obtain⟨h0,h1⟩:=hU.range h;obtain⟨v,rfl⟩:=Int.eq_ofNat_of_zero_le h0;exact(withS_mem (by omega)).1 (.inl h)
theorem apR_st {D U:List Int} {k:Int} {T:List Int} {n:Nat} {kind:Int} {a b:Nat} (h:StP D U k T n) (hT:T.length=n*2) (hb:b<4294967296) (ho:(apR D U k T n kind a b).ok=true) :
  StP (apR D U k T n kind a b).D (apR D U k T n kind a b).U (apR D U k T n kind a b).k (apR D U k T n kind a b).T (apR D U k T n kind a b).n∧(apR D U k T n kind a b).T.length=(apR D U k T n kind a b).n*2:=by
 obtain⟨sD,sU⟩:=apR_ser (k:=k) (T:=T) (n:=n) (kind:=kind) (a:=a) (b:=b) h.1 h.2.2.1;obtain⟨h1,h2,h3,h4,h5,h6⟩:=h;unfold apR at ho sD sU ⊢;by_cases k1:kind=1
 ·rw[if_pos k1] at ho sD sU ⊢;by_cases hc:a<256∧¬ (a:Int)∈U∧¬ (a:Int)∈D
  ·rw[if_pos hc] at sD sU ⊢;have hl:=withS_len h3 hc.1 hc.2.1;refine⟨⟨sD,h2,sU,h4,by show k+((n+1:Nat):Int)=((withS U a).length:Int);rw[hl];omega,fun i hi=>?_⟩,by show(T++_).length=(n+1)*2;rw[List.length_append,hT];simp;omega⟩;show tapI (withS U a) (T++[(a:Int),(b:Int)]) i
   have hgl:∀ j,j<n*2→(T++[(a:Int),(b:Int)]).getD j 0=T.getD j 0:=fun j hj=>by
    rw[List.getD,List.getD,List.getElem?_append_left (by omega)]
   by_cases hin:i<n
   ·obtain⟨t1,t2,t3⟩:=h6 i hin;refine⟨by rw[hgl _ (by omega)];exact mem_withS h3 t1,by rw[hgl _ (by omega)];exact t2,fun j hj=>?_⟩;rw[hgl _ (by omega),hgl _ (by omega)];exact t3 j hj
   ·obtain rfl:i=n:=by have:i<n+1:=hi;omega
    have e0:(T++[(a:Int),(b:Int)]).getD (i*2) 0=(a:Int):=by rw[List.getD,List.getElem?_append_right (by omega),hT,Nat.sub_self];rfl
    have e1:(T++[(a:Int),(b:Int)]).getD (i*2+1) 0=(b:Int):=by rw[List.getD,List.getElem?_append_right (by omega),hT,Nat.add_sub_cancel_left];rfl
    refine⟨by rw[e0];exact(withS_mem hc.1).1 (.inr rfl),by rw[e1];omega,fun j hj=>?_⟩;rw[hgl _ (by omega),e0];intro e;exact hc.2.1 (e ▸ (h6 j hj).1)
  ·rw[if_neg hc] at ho;cases ho
 ·rw[if_neg k1] at ho sD sU ⊢;by_cases k2:kind=2
  ·rw[if_pos k2] at ho sD sU ⊢;by_cases hc:b=1∧a<256∧¬ (a:Int)∈D∧¬ D.length=16
   ·rw[if_pos hc] at sD sU ⊢;have hl:=withS_len h1 hc.2.1 hc.2.2.1;exact⟨⟨sD,by show(withS D a).length≤16;rw[hl];omega,sU,h4,h5,h6⟩,hT⟩
   ·rw[if_neg hc] at ho sD sU ⊢;by_cases hc2:b=0∧a<256∧(a:Int)∈D
    ·rw[if_pos hc2] at sD sU ⊢;exact⟨⟨sD,Nat.le_trans (List.length_filter_le _ _) h2,sU,h4,h5,h6⟩,hT⟩
    ·rw[if_neg hc2] at ho;cases ho
  ·rw[if_neg k2] at ho sD sU ⊢;by_cases k3:kind=3
   ·rw[if_pos k3] at ho sD sU ⊢;by_cases hc:b=0∧(a:Int)≤k+n
    ·rw[if_pos hc] at sD sU ⊢;have hm:ackM k a≤n:=by unfold ackM;omega
     have hmk:(ackM k a:Int)=max (a:Int) k-k:=by unfold ackM;omega
     refine⟨⟨sD,h2,sU,by show 0≤max (a:Int) k;omega,by show max (a:Int) k+((n-ackM k a:Nat):Int)=(U.length:Int);rw[←h5,Int.ofNat_sub hm,hmk];generalize max (a:Int) k=mx;omega,fun i hi=>?_⟩,by show(T.drop _).length=(n-ackM k a)*2;rw[List.length_drop,hT];omega⟩;have hi':i<n-ackM k a:=hi;have e:∀ j,(T.drop (ackM k a*2)).getD j 0=T.getD (ackM k a*2+j) 0:=fun j=>by simp[List.getD]
     obtain⟨t1,t2,t3⟩:=h6 (ackM k a+i) (by omega);show tapI U (T.drop (ackM k a*2)) i
     unfold tapI;rw[e,e,show ackM k a*2+i*2=(ackM k a+i)*2 by omega,show ackM k a*2+(i*2+1)=(ackM k a+i)*2+1 by omega];refine⟨t1,t2,fun j hj=>?_⟩;rw[e,show ackM k a*2+j*2=(ackM k a+j)*2 by omega];exact t3 _ (by omega)
    ·rw[if_neg hc] at ho;cases ho
   ·rw[if_neg k3] at ho;cases ho
open Classical in
noncomputable def apK (r:ApR) (F:List Int):Nat→ApR
 |0=>r
 |i+1=>if(apK r F i).ok=true then apR (apK r F i).D (apK r F i).U (apK r F i).k (apK r F i).T (apK r F i).n (F.getD (i*4+1) 0) (F.getD (i*4+2) 0).toNat (F.getD (i*4+3) 0).toNat else apNo
theorem apK_go {r:ApR} {F:List Int} {i:Nat} (h:(apK r F i).ok=true):apK r F (i+1)=apR (apK r F i).D (apK r F i).U (apK r F i).k (apK r F i).T (apK r F i).n (F.getD (i*4+1) 0) (F.getD (i*4+2) 0).toNat (F.getD (i*4+3) 0).toNat:=by
 show(if _ then _ else _)=_
 rw[if_pos h]
theorem apK_stop {r:ApR} {F:List Int} {i:Nat} (h:(apK r F i).ok=false):apK r F (i+1)=apNo:=by
 show(if _ then _ else _)=_
 rw[if_neg (by rw[h];simp)]
theorem apK_end {r:ApR} {F:List Int} {i:Nat} (h:(apK r F i).ok=false):∀ j,apK r F (i+1+j)=apNo
 |0=>apK_stop h
 |j+1=>by rw[←Nat.add_assoc];exact apK_stop (by rw[apK_end h j];rfl)
def FrB (F:List Int):Prop:=∀ i,i*4+3<F.length→(0≤F.getD (i*4+2) 0∧F.getD (i*4+2) 0<4294967296)∧(0≤F.getD (i*4+3) 0∧F.getD (i*4+3) 0<4294967296)
theorem apK_st {r:ApR} {F:List Int} (hF:FrB F) (hr:StP r.D r.U r.k r.T r.n) (hT:r.T.length=r.n*2):∀ i,i*4≤F.length→(apK r F i).ok=true→StP (apK r F i).D (apK r F i).U (apK r F i).k (apK r F i).T (apK r F i).n∧(apK r F i).T.length=(apK r F i).n*2
 |0,_,_=>⟨hr,hT⟩
 |i+1,hi,ho=>by
  cases h:(apK r F i).ok with
  |false=>rw[apK_stop h] at ho;cases ho
  |true=>
   obtain⟨h1,h2⟩:=apK_st hF hr hT i (by omega) h;rw[apK_go h] at ho ⊢;exact apR_st h1 h2 (by have:=hF i (by omega);omega) ho
set_option maxRecDepth 100000 in
set_option maxHeartbeats 2000000 in
theorem apply_any (seq kind:Int) (a b:Nat) (ha:a<4294967296) (hbb:b<4294967296) {w:World} {g H B n:Nat} {d u D U:List Int} {k:Int} {v:Value} {T:List Int} (hb:Bk w g d u k v) (hd:SetB d (fun x=>(x:Int)∈D)) (hu:SetB u (fun x=>(x:Int)∈U)) (hv:TapV B w v T n)
  (hSD:SerP D) (h0:0≤k) (h1:k≤1048576) (hn:n≤1048576) (hH:H≤g) (hHB:H≤B) (hgB:NeG g v) (hBw:B≤w.heap.size) :
  Calls Tryz.prog 77 #[.pointer (some ⟨g,0,none⟩),.agg #[.int .u32 seq,.int .i64 kind,.int .u32 a,.int .u32 b]] w (apPost H B g w (apR D U k T n kind a b)):=by
 have hgl:=hb.lt;have bw:Below w.heap.size w (w.alloc (.cells #[.int .u32 seq,.int .i64 kind,.int .u32 a,.int .u32 b] 92)):=(Below.refl _ _).alloc (Nat.le_refl _) _;have HB:Hid (Bk (w.alloc (.cells #[.int .u32 seq,.int .i64 kind,.int .u32 a,.int .u32 b] 92)) g d u k v):=hb.below bw hgl;have HV:Hid (TapV B (w.alloc (.cells #[.int .u32 seq,.int .i64 kind,.int .u32 a,.int .u32 b] 92)) v T n):=hv.alloc _;have HW:Hid (Below H w (w.alloc (.cells #[.int .u32 seq,.int .i64 kind,.int .u32 a,.int .u32 b] 92))):=bw.mono (by omega);have HZ:Hid (B≤(w.alloc (.cells #[.int .u32 seq,.int .i64 kind,.int .u32 a,.int .u32 b] 92)).heap.size):=by
  show _≤_
  simp;omega
 have HSD:Hid (SetB d (fun x=>(x:Int)∈D)):=hd;have HSU:Hid (SetB u (fun x=>(x:Int)∈U)):=hu;have HPL:Hid (popS d 32=D.length):=pop_len hd hSD;have HSER:Hid (SerP D):=hSD;clear hb hd hu hv hSD bw hBw;by_cases k1:kind=1
 ·subst k1;by_cases hc:a<256∧¬ (a:Int)∈U∧¬ (a:Int)∈D
  ·have HR:Hid (apR D U k T n 1 a b=⟨true,D,withS U a,k,T++[(a:Int),(b:Int)],n+1⟩):=by show _=_;unfold apR;rw[if_pos rfl,if_pos hc]
   go_enter Tryz.func77,Tryz.ntmps77;go_wp2_with fail;refine(tapYes_any (H:=H) (B:=B) (T:=T) (n:=n) a b hc.1 hc.2.1 hc.2.2 HB.out HSD.out HSU.out HV.out hn hH hHB hgB HZ.out).mono ?_;intro e w2 h;have HF:Hid (apPost H B g w (apR D U k T n 1 a b) e w2):=by
    show apPost _ _ _ _ _ _ _
    rw[HR.out];exact ApP.to h HW.out (fun v _=>Iff.rfl) (fun v hv=>withS_mem hv)
   obtain⟨rfl,h⟩:=h;clear h HB HV HW HZ HSD HSU HPL HSER HR;go_wp2
   go_ret
   exact HF.out
  ·have HR:Hid (apR D U k T n 1 a b=apNo):=by show _=_;unfold apR;rw[if_pos rfl,if_neg hc]
   go_enter Tryz.func77,Tryz.ntmps77;go_wp2_with fail;refine(tapNo_any a b hc HB.out HSD.out HSU.out).mono ?_;intro e w2 h;have HF:Hid (apPost H B g w (apR D U k T n 1 a b) e w2):=by
    show apPost _ _ _ _ _ _ _
    rw[HR.out];exact⟨h.1,(show w2=_ from h.2) ▸ HW.out,fun h'=>by cases h'⟩
   obtain⟨rfl,h⟩:=h;clear h HB HV HW HZ HSD HSU HPL HSER HR;go_wp2
   go_ret
   exact HF.out
 by_cases k2:kind=2
 ·subst k2;clear k1;by_cases hc:b=1∧a<256∧¬ (a:Int)∈D∧¬ D.length=16
  ·have HR:Hid (apR D U k T n 2 a b=⟨true,withS D a,U,k,T,n⟩):=by show _=_;unfold apR;rw[if_neg (by decide),if_pos rfl,if_pos hc]
   have HC:Hid (a<256∧¬ (a:Int)∈D∧¬ popS d 32=16):=⟨hc.2.1,hc.2.2.1,by rw[HPL.out];exact hc.2.2.2⟩
   obtain⟨rfl,_⟩:=hc;go_enter Tryz.func77,Tryz.ntmps77;go_wp2_with fail;refine(denyAdd_any (H:=H) (B:=B) (T:=T) (n:=n) a HC.out.1 HC.out.2.1 HC.out.2.2 HB.out HSD.out HSU.out HV.out hH hgB).mono ?_;intro e w2 h;have HF:Hid (apPost H B g w (apR D U k T n 2 a 1) e w2):=by
    show apPost _ _ _ _ _ _ _
    rw[HR.out];exact ApP.to h HW.out (fun v hv=>withS_mem hv) (fun v _=>Iff.rfl)
   obtain⟨rfl,h⟩:=h;clear h HB HV HW HZ HSD HSU HPL HSER HR;go_wp2
   go_ret
   exact HF.out
  by_cases hc0:b=0∧a<256∧(a:Int)∈D
  ·have HR:Hid (apR D U k T n 2 a b=⟨true,lessS D a,U,k,T,n⟩):=by show _=_;unfold apR;rw[if_neg (by decide),if_pos rfl,if_neg hc,if_pos hc0]
   have HC:Hid (a<256∧(a:Int)∈D):=hc0.2;clear hc;obtain⟨rfl,_⟩:=hc0;go_enter Tryz.func77,Tryz.ntmps77;go_wp2_with fail;refine(denyRem_any (H:=H) (B:=B) (T:=T) (n:=n) a HC.out.1 HC.out.2 HB.out HSD.out HSU.out HV.out hH hgB).mono ?_;intro e w2 h;have HF:Hid (apPost H B g w (apR D U k T n 2 a 0) e w2):=by
    show apPost _ _ _ _ _ _ _
    rw[HR.out];exact ApP.to h HW.out (fun v hv=>lessS_mem) (fun v _=>Iff.rfl)
   obtain⟨rfl,h⟩:=h;clear h HB HV HW HZ HSD HSU HPL HSER HR;go_wp2
   go_ret
   exact HF.out
  ·have HR:Hid (apR D U k T n 2 a b=apNo):=by show _=_;unfold apR;rw[if_neg (by decide),if_pos rfl,if_neg hc,if_neg hc0]
   rw[←HPL.out] at hc;have HC:Hid (¬ (b=1∧a<256∧¬ (a:Int)∈D∧¬ popS d 32=16)):=hc;have HC0:Hid (¬ (b=0∧a<256∧(a:Int)∈D)):=hc0;clear hc hc0;go_enter Tryz.func77,Tryz.ntmps77;go_wp2_with fail;refine(denyNo_any a b HC.out HC0.out hbb HB.out HSD.out).mono ?_;intro e w2 h;have HF:Hid (apPost H B g w (apR D U k T n 2 a b) e w2):=by
    show apPost _ _ _ _ _ _ _
    rw[HR.out];exact⟨h.1,(show w2=_ from h.2) ▸ HW.out,fun h'=>by cases h'⟩
   obtain⟨rfl,h⟩:=h;clear h HB HV HW HZ HSD HSU HPL HSER HR;go_wp2
   go_ret
   exact HF.out
 by_cases k3:kind=3
 ·subst k3;clear k1 k2;by_cases hb0:b=0
  ·subst hb0;by_cases hc:(a:Int)≤k+n
   ·have HR:Hid (apR D U k T n 3 a 0=⟨true,D,U,max a k,T.drop (ackM k a*2),n-ackM k a⟩):=by show _=_;unfold apR;rw[if_neg (by decide),if_neg (by decide),if_pos rfl,if_pos ⟨rfl,hc⟩]
    have HD:Hid (decide ((a:Int)≤k+n)=true):=decide_eq_true hc;clear hc;go_enter Tryz.func77,Tryz.ntmps77;go_wp2_with fail;refine(applyAck_any (H:=H) (B:=B) (T:=T) (n:=n) a (by omega) (by omega) HB.out HSD.out HSU.out HV.out h0 h1 hn hH hgB).mono ?_;intro e w2 h;have HF:Hid (apPost H B g w (apR D U k T n 3 a 0) e w2):=by
     show apPost _ _ _ _ _ _ _
     rw[HR.out];exact ApP.to (by rw[HD.out] at h;exact h) HW.out (fun v _=>Iff.rfl) (fun v _=>Iff.rfl)
    rw[HD.out] at h;obtain⟨rfl,h⟩:=h;clear h HB HV HW HZ HSD HSU HPL HSER HR;go_wp2
    go_ret
    exact HF.out
   ·have HR:Hid (apR D U k T n 3 a 0=apNo):=by show _=_;unfold apR;rw[if_neg (by decide),if_neg (by decide),if_pos rfl,if_neg (fun h=>hc h.2)]
    have HD:Hid (decide ((a:Int)≤k+n)=false):=decide_eq_false hc;clear hc;go_enter Tryz.func77,Tryz.ntmps77;go_wp2_with fail;refine(applyAck_any (H:=H) (B:=B) (T:=T) (n:=n) a (by omega) (by omega) HB.out HSD.out HSU.out HV.out h0 h1 hn hH hgB).mono ?_;intro e w2 h;have HF:Hid (apPost H B g w (apR D U k T n 3 a 0) e w2):=by
     show apPost _ _ _ _ _ _ _
     rw[HR.out];exact(by rw[HD.out] at h;exact⟨h.1,HW.out.trans h.2.1,fun h'=>by cases h'⟩)
    rw[HD.out] at h;obtain⟨rfl,h⟩:=h;clear h HB HV HW HZ HSD HSU HPL HSER HR;go_wp2
    go_ret
    exact HF.out
  ·have hb0':¬ ((b:Int)=0):=by omega
   have HF:Hid (apPost H B g w (apR D U k T n 3 a b) (.returned (.bool false)) (w.alloc (.cells #[.int .u32 seq,.int .i64 3,.int .u32 a,.int .u32 b] 92))):=by
    show apPost _ _ _ _ _ _ _
    have:apR D U k T n 3 a b=apNo:=by unfold apR;rw[if_neg (by decide),if_neg (by decide),if_pos rfl,if_neg (fun h=>hb0 h.1)]
    rw[this];exact⟨rfl,HW.out,fun h'=>by cases h'⟩
   clear HB HV HW HZ HSD HSU HPL HSER;go_enter Tryz.func77,Tryz.ntmps77;go_wp2
   go_ret
   exact HF.out
 ·have HF:Hid (apPost H B g w (apR D U k T n kind a b) (.returned (.bool false)) (w.alloc (.cells #[.int .u32 seq,.int .i64 kind,.int .u32 a,.int .u32 b] 92))):=by
   show apPost _ _ _ _ _ _ _
   have:apR D U k T n kind a b=apNo:=by unfold apR;rw[if_neg k1,if_neg k2,if_neg k3]
   rw[this];exact⟨rfl,HW.out,fun h'=>by cases h'⟩
  clear HB HV HW HZ HSD HSU HPL HSER;go_enter Tryz.func77,Tryz.ntmps77;go_wp2
  go_ret
  exact HF.out
set_option maxHeartbeats 1000000 in
theorem snE_byte {gn tl:Int} {D U:List Int} (ug:U32 gn) (ut:U32 tl):Byte (snE gn tl D U):=by
 unfold snE;by_cases hs:SnP gn tl D U
 ·rw[snB_yes hs];have hb:=BODY_byte (gn:=gn) (tl:=tl) (D:=D) (U:=U) (nD:=D.length) ug ut (fun z hz=>hs.2.2.2.1.range hz) hs.2.2.2.2.1;exact Byte.app hb (Byte.app (four_byte _ (crc_bd _)) (Byte.app (four_byte gn ug) Byte.nil))
 ·rw[snB_no hs];exact Byte.nil
section
variable {w W w' w'':World} {S:Nat} {gn tl:Int} {l:Value} {xs:List Int} {z:Int} {f1 f15 f16 f18:Bool} {v15 v16 v:Value}
end
end Go.Proofs.YtilpkdnoaldfmaaGreatDoor
