import Derived.Test.YtganeokokjodoaaGreatMSvY
import Derived.Test.YtganeokokjodoaaGreatMRegU
namespace Go.Proofs.YtganeokokjodoaaGreat
open Go.ChangeShapes Go.WideShapes Go.ChangeAt Go.RowKit
set_option linter.unusedVariables false
variable {w w':World} {g:Nat} {d u:List Int} {k:Int} {v:Value} {D U:Nat→Prop} {T:List Int} {n H B:Nat}
set_option maxRecDepth 100000 in
set_option maxHeartbeats 1000000 in
theorem tapYes_any (s:Nat) (nw:Int) (hs:s<256) (hnu:¬ U s) (hnd:¬ D s) (hb:Bk w g d u k v) (hd:SetB d D) (hu:SetB u U) (hv:TapV B w v T n) (hn:n≤1048576) (hH:H≤g) (hHB:H≤B) (hgB:NeG g v) (hBw:B≤w.heap.size) :
  Calls Tryz.prog 117 #[.pointer (some ⟨g,0,none⟩),.int .i64 s,.int .i64 nw] w (ApP H B g w true D (fun x=>U x∨x=s) k (T++[(s:Int),nw]) (n+1)):=by
 have HSO:Hid (serOk (s:Int)=true):=ser_yes hs
 have HB:Hid (Bk w g d u k v):=hb
 have HSD:Hid (SetB d D):=hd
 have HSU:Hid (SetB u U):=hu
 have HNU:Hid (¬ (s<256∧U s)):=fun h=>hnu h.2
 have HND:Hid (¬ (s<256∧D s)):=fun h=>hnd h.2
 have CA:=admit_any s nw hs hb hd hu hv hn hH hHB hgB hBw
 clear hb hd hu hv hnu hnd hBw
 go_enter Tryz.func117,Tryz.ntmps117
 go_wp2_with fail
 refine(isSerial_any _ _).mono ?_
 rintro e w1 ⟨rfl,rfl⟩
 rw[HSO.out]
 go_wp2_with fail
 refine(hasNo_any s HB.out.batu HSU.out HNU.out).mono ?_
 rintro e w2 ⟨rfl,rfl⟩
 go_wp2_with fail
 refine(hasNo_any s HB.out.batd HSD.out HND.out).mono ?_
 rintro e w3 ⟨rfl,rfl⟩
 go_wp2_with fail
 refine CA.mono ?_
 rintro e w4 ⟨rfl,hb4,u',v',r1,r2,r3,r4⟩
 have HF:Hid (ApP H B g w3 true D (fun x=>U x∨x=s) k (T++[(s:Int),nw]) (n+1) (.returned (.bool true)) w4):=⟨rfl,hb4,fun _=>⟨_,_,_,r1,HSD.out,r2,r3,r4⟩⟩
 clear hb4 r1 r2 r3 CA HB HSD HSU HNU HND HSO
 go_wp2
 go_ret
 exact HF.out
set_option maxRecDepth 100000 in
set_option maxHeartbeats 1000000 in
theorem tapNo_any (s:Nat) (nw:Int) (hno:¬ (s<256∧¬ U s∧¬ D s)) (hb:Bk w g d u k v) (hd:SetB d D) (hu:SetB u U) :
  Calls Tryz.prog 117 #[.pointer (some ⟨g,0,none⟩),.int .i64 s,.int .i64 nw] w fun e w'=>e=.returned (.bool false)∧w'=w:=by
 have HB:Hid (Bk w g d u k v):=hb
 have HSD:Hid (SetB d D):=hd
 have HSU:Hid (SetB u U):=hu
 clear hb hd hu
 by_cases hs:s<256
 ·have HSO:Hid (serOk (s:Int)=true):=ser_yes hs;by_cases hin:U s
  ·have HQ:Hid (s<256∧U s):=⟨hs,hin⟩
   clear hno hin;go_enter Tryz.func117,Tryz.ntmps117;go_wp2_with fail;refine(isSerial_any _ _).mono ?_;rintro e w1 ⟨rfl,rfl⟩;rw[HSO.out];go_wp2_with fail;refine(hasYes_any s HB.out.batu HSU.out HQ.out).mono ?_;rintro e w2 ⟨rfl,rfl⟩;clear HB HSD HSU HQ HSO;go_wp2
   go_ret
   exact⟨rfl,rfl⟩
  ·have HQ:Hid (¬ (s<256∧U s)):=fun h=>hin h.2
   have HY:Hid (s<256∧D s):=⟨hs,Classical.byContradiction fun h=>hno ⟨hs,hin,h⟩⟩
   clear hno hin;go_enter Tryz.func117,Tryz.ntmps117;go_wp2_with fail;refine(isSerial_any _ _).mono ?_;rintro e w1 ⟨rfl,rfl⟩;rw[HSO.out];go_wp2_with fail;refine(hasNo_any s HB.out.batu HSU.out HQ.out).mono ?_;rintro e w2 ⟨rfl,rfl⟩;go_wp2_with fail;refine(hasYes_any s HB.out.batd HSD.out HY.out).mono ?_;rintro e w3 ⟨rfl,rfl⟩;clear HB HSD HSU HQ HSO HY;go_wp2
   go_ret
   exact⟨rfl,rfl⟩
 ·have HSO:Hid (serOk (s:Int)=false):=ser_no hs;clear hno hs;go_enter Tryz.func117,Tryz.ntmps117;go_wp2_with fail;refine(isSerial_any _ _).mono ?_;rintro e w1 ⟨rfl,rfl⟩;rw[HSO.out];clear HB HSD HSU HSO;go_wp2
  go_ret
  exact⟨rfl,rfl⟩
end Go.Proofs.YtganeokokjodoaaGreat
namespace Go.Proofs.YtganeokokjodoaaGreat
open Go.ChangeShapes Go.WideShapes Go.ChangeAt Go.RowKit
set_option linter.unusedVariables false
structure ApR where
 ok:Bool
 D:List Int
 U:List Int
 k:Int
 T:List Int
 n:Nat
def apNo:ApR:=⟨false,[],[],0,[],0⟩
open Classical in
noncomputable def withS (xs:List Int) (a:Nat):List Int:=upTo (fun v=>decide ((v:Int)∈xs∨v=a)) 256
def lessS (xs:List Int) (a:Nat):List Int:=xs.filter (fun z=>z != (a:Int))
open Classical in
noncomputable def apR (D U:List Int) (k:Int) (T:List Int) (n:Nat) (kind:Int) (a b:Nat):ApR:=
 if kind=1 then(if a<256∧¬ (a:Int)∈U∧¬ (a:Int)∈D then ⟨true,D,withS U a,k,T++[(a:Int),(b:Int)],n+1⟩ else apNo)
 else if kind=2 then(if b=1∧a<256∧¬ (a:Int)∈D∧¬ D.length=16 then ⟨true,withS D a,U,k,T,n⟩ else if b=0∧a<256∧(a:Int)∈D then ⟨true,lessS D a,U,k,T,n⟩ else apNo)
 else if kind=3 then(if b=0∧(a:Int)≤k+n then ⟨true,D,U,max a k,T.drop (ackM k a*2),n-ackM k a⟩ else apNo)
 else apNo
theorem withS_mem {xs:List Int} {a v:Nat} (h:v<256):((v:Int)∈xs∨v=a)↔(v:Int)∈withS xs a:=by
 unfold withS
 rw[upTo_mem]
 constructor
 ·intro hv;exact⟨v,h,decide_eq_true hv,rfl⟩
 ·rintro⟨v',h1,h2,h3⟩;have:v=v':=by omega
  subst this;exact of_decide_eq_true h2
theorem lessS_mem {xs:List Int} {a v:Nat}:((v:Int)∈xs∧v≠a)↔(v:Int)∈lessS xs a:=by
 unfold lessS
 rw[List.mem_filter]
 constructor
 ·rintro⟨h1,h2⟩;exact⟨h1,by rw[bne_iff_ne];omega⟩
 ·rintro⟨h1,h2⟩;exact⟨h1,by rw[bne_iff_ne] at h2;omega⟩
def apPost (H B g:Nat) (w:World) (r:ApR):Ending→World→Prop:=ApP H B g w r.ok (fun v=>(v:Int)∈r.D) (fun v=>(v:Int)∈r.U) r.k r.T r.n
theorem ApP.to {H B g:Nat} {w w1:World} {D D' U U':Nat→Prop} {k:Int} {T:List Int} {n:Nat} {ok:Bool} {e:Ending} {w':World} (h:ApP H B g w ok D U k T n e w') (hb:Below H w1 w) (hD:∀ v,v<256→(D v↔D' v)) (hU:∀ v,v<256→(U v↔U' v)):ApP H B g w1 ok D' U' k T n e w':=by
 obtain⟨h1,h2,h3⟩:=h
 refine⟨h1,hb.trans h2,fun ho=>?_⟩
 obtain⟨d,u,v,r1,r2,r3,r4,r5⟩:=h3 ho
 exact⟨d,u,v,r1,r2.congr hD,r3.congr hU,r4,r5⟩
set_option maxRecDepth 100000 in
set_option maxHeartbeats 2000000 in
theorem apply_any (seq kind:Int) (a b:Nat) (ha:a<4294967296) (hbb:b<4294967296) {w:World} {g H B n:Nat} {d u D U:List Int} {k:Int} {v:Value} {T:List Int} (hb:Bk w g d u k v) (hd:SetB d (fun x=>(x:Int)∈D)) (hu:SetB u (fun x=>(x:Int)∈U)) (hv:TapV B w v T n)
  (hSD:SerP D) (h0:0≤k) (h1:k≤1048576) (hn:n≤1048576) (hH:H≤g) (hHB:H≤B) (hgB:NeG g v) (hBw:B≤w.heap.size) :
  Calls Tryz.prog 74 #[.pointer (some ⟨g,0,none⟩),.agg #[.int .u32 seq,.int .i64 kind,.int .u32 a,.int .u32 b]] w (apPost H B g w (apR D U k T n kind a b)):=by
 have hgl:=hb.lt
 have bw:Below w.heap.size w (w.alloc (.cells #[.int .u32 seq,.int .i64 kind,.int .u32 a,.int .u32 b] 110)):=(Below.refl _ _).alloc (Nat.le_refl _) _
 have HB:Hid (Bk (w.alloc (.cells #[.int .u32 seq,.int .i64 kind,.int .u32 a,.int .u32 b] 110)) g d u k v):=hb.below bw hgl
 have HV:Hid (TapV B (w.alloc (.cells #[.int .u32 seq,.int .i64 kind,.int .u32 a,.int .u32 b] 110)) v T n):=hv.alloc _
 have HW:Hid (Below H w (w.alloc (.cells #[.int .u32 seq,.int .i64 kind,.int .u32 a,.int .u32 b] 110))):=bw.mono (by omega)
 have HZ:Hid (B≤(w.alloc (.cells #[.int .u32 seq,.int .i64 kind,.int .u32 a,.int .u32 b] 110)).heap.size):=by
  show _≤_
  simp;omega
 have HSD:Hid (SetB d (fun x=>(x:Int)∈D)):=hd
 have HSU:Hid (SetB u (fun x=>(x:Int)∈U)):=hu
 have HPL:Hid (popS d 32=D.length):=pop_len hd hSD
 have HSER:Hid (SerP D):=hSD
 clear hb hd hu hv hSD bw hBw
 by_cases k1:kind=1
 ·subst k1;by_cases hc:a<256∧¬ (a:Int)∈U∧¬ (a:Int)∈D
  ·have HR:Hid (apR D U k T n 1 a b=⟨true,D,withS U a,k,T++[(a:Int),(b:Int)],n+1⟩):=by show _=_;unfold apR;rw[if_pos rfl,if_pos hc]
   go_enter Tryz.func74,Tryz.ntmps74;go_wp2_with fail;refine(tapYes_any (H:=H) (B:=B) (T:=T) (n:=n) a b hc.1 hc.2.1 hc.2.2 HB.out HSD.out HSU.out HV.out hn hH hHB hgB HZ.out).mono ?_;intro e w2 h;have HF:Hid (apPost H B g w (apR D U k T n 1 a b) e w2):=by
    show apPost _ _ _ _ _ _ _
    rw[HR.out];exact ApP.to h HW.out (fun v _=>Iff.rfl) (fun v hv=>withS_mem hv)
   obtain⟨rfl,h⟩:=h;clear h HB HV HW HZ HSD HSU HPL HSER HR;go_wp2
   go_ret
   exact HF.out
  ·have HR:Hid (apR D U k T n 1 a b=apNo):=by show _=_;unfold apR;rw[if_pos rfl,if_neg hc]
   go_enter Tryz.func74,Tryz.ntmps74;go_wp2_with fail;refine(tapNo_any a b hc HB.out HSD.out HSU.out).mono ?_;intro e w2 h;have HF:Hid (apPost H B g w (apR D U k T n 1 a b) e w2):=by
    show apPost _ _ _ _ _ _ _
    rw[HR.out];exact⟨h.1,(show w2=_ from h.2) ▸ HW.out,fun h'=>by cases h'⟩
   obtain⟨rfl,h⟩:=h;clear h HB HV HW HZ HSD HSU HPL HSER HR;go_wp2
   go_ret
   exact HF.out
 by_cases k2:kind=2
 ·subst k2;clear k1;by_cases hc:b=1∧a<256∧¬ (a:Int)∈D∧¬ D.length=16
  ·have HR:Hid (apR D U k T n 2 a b=⟨true,withS D a,U,k,T,n⟩):=by show _=_;unfold apR;rw[if_neg (by decide),if_pos rfl,if_pos hc]
   have HC:Hid (a<256∧¬ (a:Int)∈D∧¬ popS d 32=16):=⟨hc.2.1,hc.2.2.1,by rw[HPL.out];exact hc.2.2.2⟩
   obtain⟨rfl,_⟩:=hc;go_enter Tryz.func74,Tryz.ntmps74;go_wp2_with fail;refine(denyAdd_any (H:=H) (B:=B) (T:=T) (n:=n) a HC.out.1 HC.out.2.1 HC.out.2.2 HB.out HSD.out HSU.out HV.out hH hgB).mono ?_;intro e w2 h;have HF:Hid (apPost H B g w (apR D U k T n 2 a 1) e w2):=by
    show apPost _ _ _ _ _ _ _
    rw[HR.out];exact ApP.to h HW.out (fun v hv=>withS_mem hv) (fun v _=>Iff.rfl)
   obtain⟨rfl,h⟩:=h;clear h HB HV HW HZ HSD HSU HPL HSER HR;go_wp2
   go_ret
   exact HF.out
  by_cases hc0:b=0∧a<256∧(a:Int)∈D
  ·have HR:Hid (apR D U k T n 2 a b=⟨true,lessS D a,U,k,T,n⟩):=by show _=_;unfold apR;rw[if_neg (by decide),if_pos rfl,if_neg hc,if_pos hc0]
   have HC:Hid (a<256∧(a:Int)∈D):=hc0.2;clear hc;obtain⟨rfl,_⟩:=hc0;go_enter Tryz.func74,Tryz.ntmps74;go_wp2_with fail;refine(denyRem_any (H:=H) (B:=B) (T:=T) (n:=n) a HC.out.1 HC.out.2 HB.out HSD.out HSU.out HV.out hH hgB).mono ?_;intro e w2 h;have HF:Hid (apPost H B g w (apR D U k T n 2 a 0) e w2):=by
    show apPost _ _ _ _ _ _ _
    rw[HR.out];exact ApP.to h HW.out (fun v hv=>lessS_mem) (fun v _=>Iff.rfl)
   obtain⟨rfl,h⟩:=h;clear h HB HV HW HZ HSD HSU HPL HSER HR;go_wp2
   go_ret
   exact HF.out
  ·have HR:Hid (apR D U k T n 2 a b=apNo):=by show _=_;unfold apR;rw[if_neg (by decide),if_pos rfl,if_neg hc,if_neg hc0]
   rw[←HPL.out] at hc;have HC:Hid (¬ (b=1∧a<256∧¬ (a:Int)∈D∧¬ popS d 32=16)):=hc;have HC0:Hid (¬ (b=0∧a<256∧(a:Int)∈D)):=hc0;clear hc hc0;go_enter Tryz.func74,Tryz.ntmps74;go_wp2_with fail;refine(denyNo_any a b HC.out HC0.out hbb HB.out HSD.out).mono ?_;intro e w2 h;have HF:Hid (apPost H B g w (apR D U k T n 2 a b) e w2):=by
    show apPost _ _ _ _ _ _ _
    rw[HR.out];exact⟨h.1,(show w2=_ from h.2) ▸ HW.out,fun h'=>by cases h'⟩
   obtain⟨rfl,h⟩:=h;clear h HB HV HW HZ HSD HSU HPL HSER HR;go_wp2
   go_ret
   exact HF.out
 by_cases k3:kind=3
 ·subst k3;clear k1 k2;by_cases hb0:b=0
  ·subst hb0;by_cases hc:(a:Int)≤k+n
   ·have HR:Hid (apR D U k T n 3 a 0=⟨true,D,U,max a k,T.drop (ackM k a*2),n-ackM k a⟩):=by show _=_;unfold apR;rw[if_neg (by decide),if_neg (by decide),if_pos rfl,if_pos ⟨rfl,hc⟩]
    have HD:Hid (decide ((a:Int)≤k+n)=true):=decide_eq_true hc;clear hc;go_enter Tryz.func74,Tryz.ntmps74;go_wp2_with fail;refine(applyAck_any (H:=H) (B:=B) (T:=T) (n:=n) a (by omega) (by omega) HB.out HSD.out HSU.out HV.out h0 h1 hn hH hgB).mono ?_;intro e w2 h;have HF:Hid (apPost H B g w (apR D U k T n 3 a 0) e w2):=by
     show apPost _ _ _ _ _ _ _
     rw[HR.out];exact ApP.to (by rw[HD.out] at h;exact h) HW.out (fun v _=>Iff.rfl) (fun v _=>Iff.rfl)
    rw[HD.out] at h;obtain⟨rfl,h⟩:=h;clear h HB HV HW HZ HSD HSU HPL HSER HR;go_wp2
    go_ret
    exact HF.out
   ·have HR:Hid (apR D U k T n 3 a 0=apNo):=by show _=_;unfold apR;rw[if_neg (by decide),if_neg (by decide),if_pos rfl,if_neg (fun h=>hc h.2)]
    have HD:Hid (decide ((a:Int)≤k+n)=false):=decide_eq_false hc;clear hc;go_enter Tryz.func74,Tryz.ntmps74;go_wp2_with fail;refine(applyAck_any (H:=H) (B:=B) (T:=T) (n:=n) a (by omega) (by omega) HB.out HSD.out HSU.out HV.out h0 h1 hn hH hgB).mono ?_;intro e w2 h;have HF:Hid (apPost H B g w (apR D U k T n 3 a 0) e w2):=by
     show apPost _ _ _ _ _ _ _
     rw[HR.out];exact(by rw[HD.out] at h;exact⟨h.1,HW.out.trans h.2.1,fun h'=>by cases h'⟩)
    rw[HD.out] at h;obtain⟨rfl,h⟩:=h;clear h HB HV HW HZ HSD HSU HPL HSER HR;go_wp2
    go_ret
    exact HF.out
  ·have hb0':¬ ((b:Int)=0):=by omega
   have HF:Hid (apPost H B g w (apR D U k T n 3 a b) (.returned (.bool false)) (w.alloc (.cells #[.int .u32 seq,.int .i64 3,.int .u32 a,.int .u32 b] 110))):=by
    show apPost _ _ _ _ _ _ _
    have:apR D U k T n 3 a b=apNo:=by unfold apR;rw[if_neg (by decide),if_neg (by decide),if_pos rfl,if_neg (fun h=>hb0 h.1)]
    rw[this];exact⟨rfl,HW.out,fun h'=>by cases h'⟩
   clear HB HV HW HZ HSD HSU HPL HSER;go_enter Tryz.func74,Tryz.ntmps74;go_wp2
   go_ret
   exact HF.out
 ·have HF:Hid (apPost H B g w (apR D U k T n kind a b) (.returned (.bool false)) (w.alloc (.cells #[.int .u32 seq,.int .i64 kind,.int .u32 a,.int .u32 b] 110))):=by
   show apPost _ _ _ _ _ _ _
   have:apR D U k T n kind a b=apNo:=by unfold apR;rw[if_neg k1,if_neg k2,if_neg k3]
   rw[this];exact⟨rfl,HW.out,fun h'=>by cases h'⟩
  clear HB HV HW HZ HSD HSU HPL HSER;go_enter Tryz.func74,Tryz.ntmps74;go_wp2
  go_ret
  exact HF.out
end Go.Proofs.YtganeokokjodoaaGreat
namespace Go.Proofs.YtganeokokjodoaaGreat
open Go.ChangeShapes Go.WideShapes Go.ChangeAt Go.RowKit
set_option linter.unusedVariables false
theorem Iow.mono {B B':Nat} {w:World} {v:Value} {xs:List Int} (h:Iow B' w v xs) (hB:B≤B'):Iow B w v xs:=by
 refine⟨h.1,?_⟩
 rcases h.2 with h'|⟨g,c,cur,h1,h2,h3⟩
 ·exact .inl h'
 ·exact .inr ⟨g,c,cur,h1,by omega,h3⟩
theorem Iow.fresh {w w':World} {v:Value} {xs:List Int} (h:Iow w.heap.size w' v xs):Fresh w w' v:=fun k hk=>by
 rcases h.2 with⟨h',_⟩|⟨g,c,cur,h',hb,hh,_⟩
 ·rw[h'] at hk;simp[Value.ownBlock] at hk
 ·rw[h'] at hk;simp[Value.ownBlock] at hk;have:=(Array.getElem?_eq_some_iff.1 hh).1;omega
theorem Iow.form {B:Nat} {w:World} {v:Value} {xs:List Int} (h:Iow B w v xs):∃ a n c,v=.slice a n c:=by
 rcases h.2 with⟨h',_⟩|⟨g,c,cur,h',_⟩
 ·exact⟨_,_,_,h'⟩
 ·exact⟨_,_,_,h'⟩
theorem Iow.keep {B:Nat} {w w':World} {v:Value} {xs:List Int} (h:Iow B w v xs) (hb:∀ k,B≤k→k<w.heap.size→w'.heap[k]?=w.heap[k]?):Iow B w' v xs:=by
 refine⟨h.1,?_⟩
 rcases h.2 with h'|⟨g,c,cur,h1,h2,h3,h4⟩
 ·exact .inl h'
 ·exact .inr ⟨g,c,cur,h1,h2,by rw[hb g h2 (Array.getElem?_eq_some_iff.1 h3).1];exact h3,h4⟩
theorem Iow.below {B:Nat} {w w':World} {v:Value} {xs:List Int} (h:Iow B w v xs) (b:Below w.heap.size w w'):Iow B w' v xs:=h.keep (fun k _ hk=>b.block k hk)
theorem Iow.wr {B R:Nat} {w w':World} {v:Value} {xs:List Int} (h:Iow B w v xs) (hw:Wr R w w') (hR:R<B):Iow B w' v xs:=h.keep (fun k hk _=>hw.block k (by omega))
def StFin (lo:Nat) (k:Int) (aT:Option Addr) (nT cT:Nat) (X Y:List Int) (w:World) (cs:Array Value):Prop:=
 ∃ aD nD cD aU nU cU,cs=#[.slice aD nD cD,.slice aU nU cU,.int .i64 k,.slice aT nT cT]∧Iow lo w (.slice aD nD cD) X∧Iow lo w (.slice aU nU cU) Y∧ApV (.slice aD nD cD) (.slice aU nU cU)
theorem StFin.below {lo:Nat} {k:Int} {aT:Option Addr} {nT cT:Nat} {X Y:List Int} {w w':World} {cs:Array Value} (h:StFin lo k aT nT cT X Y w cs) (b:Below w.heap.size w w'):StFin lo k aT nT cT X Y w' cs:=by
 obtain⟨aD,nD,cD,aU,nU,cU,e,h1,h2,h3⟩:=h;exact⟨aD,nD,cD,aU,nU,cU,e,h1.below b,h2.below b,h3⟩
def StBd (lo:Nat) (k:Int) (aT:Option Addr) (nT cT:Nat) (X Y:List Int) (w:World) (v:Value):Prop:=∃ cs,v=.agg cs∧StFin lo k aT nT cT X Y w cs
theorem StBd.below {lo:Nat} {k:Int} {aT:Option Addr} {nT cT:Nat} {X Y:List Int} {w w':World} {v:Value} (h:StBd lo k aT nT cT X Y w v) (b:Below w.heap.size w w'):StBd lo k aT nT cT X Y w' v:=by
 obtain⟨cs,e,h⟩:=h;exact⟨cs,e,h.below b⟩
theorem StBd.wr {lo R:Nat} {k:Int} {aT:Option Addr} {nT cT:Nat} {X Y:List Int} {w w':World} {v:Value} (h:StBd lo k aT nT cT X Y w v) (hw:Wr R w w') (hR:R<lo):StBd lo k aT nT cT X Y w' v:=by
 obtain⟨cs,e,aD,nD,cD,aU,nU,cU,e2,h1,h2,h3⟩:=h;exact⟨cs,e,aD,nD,cD,aU,nU,cU,e2,h1.wr hw hR,h2.wr hw hR,h3⟩
set_option maxRecDepth 100000 in
set_option maxHeartbeats 4000000 in
theorem state_any {w:World} {g:Nat} {d u:List Int} {k:Int} (aT:Option Addr) (nT cT:Nat) (P Q:Nat→Bool) (hb:Bk w g d u k (.slice aT nT cT)) (hd:SetB d (fun v=>P v=true)) (hu:SetB u (fun v=>Q v=true)) :
  Calls Tryz.prog 35 #[.pointer (some ⟨g,0,none⟩)] w fun e w'=>∃ aD nD cD aU nU cU,e=.returned (.agg #[.slice aD nD cD,.slice aU nU cU,.int .i64 k,.slice aT nT cT])∧Iow w.heap.size w' (.slice aD nD cD) (upTo P 256)∧Iow w.heap.size w' (.slice aU nU cU) (upTo Q 256)∧ApV (.slice aD nD cD) (.slice aU nU cU)∧Below w.heap.size w w':=by
 have HBK:Hid (Bk w g d u k (.slice aT nT cT)):=hb
 have HGL:Hid (g<w.heap.size):=hb.lt
 have HSD:Hid (SetB d (fun v=>P v=true)):=hd
 have HSU:Hid (SetB u (fun v=>Q v=true)):=hu
 have HSZ:Hid ((Tryz.prog.info? 34).map (·.size)=some 4):=by show _=_;kernel_rfl
 have HW0:Hid (Below w.heap.size w (w.alloc (.cells #[.slice none 0 0,.slice none 0 0,.int .i64 0,.slice none 0 0] 34)).drew):=by
  have h1:Below w.heap.size w (w.alloc (.cells #[.slice none 0 0,.slice none 0 0,.int .i64 0,.slice none 0 0] 34)):=(Below.refl _ _).alloc (Nat.le_refl _) _;exact⟨h1.os,h1.tape,h1.output,h1.size,h1.block⟩
 have HR0:Hid ((w.alloc (.cells #[.slice none 0 0,.slice none 0 0,.int .i64 0,.slice none 0 0] 34)).drew.heap[w.heap.size]?=some (.cells #[.slice none 0 0,.slice none 0 0,.int .i64 0,.slice none 0 0] 34 (0,0))):=heap_alloc_new w _
 clear hb hd hu
 go_enter Tryz.func35,Tryz.ntmps35
 go_wp2_with fail
 refine wp_region_any (by kernel_rfl) ?_
 refine wpAny_slotsU (fun i a b=>if i=17 then Wr (w.heap.size) a b else Below a.heap.size a b) (frame:=(fun (a b c:Value)=>fun (t:Nat→Value)=>({ tmps:=List.toArray [a,b,c,t 0,t 1,t 2,t 3,t 4,t 5,t 6,t 7,t 8,t 9,t 10,t 11,t 12,t 13,t 14,t 15,t 16],defers:=[] }:Act)) _ _ _)
  (Ext:=fun L u w'=>ApS w (w.heap.size) 17 34 #[.slice none 0 0,.slice none 0 0,.int .i64 0,.slice none 0 0] (StFin (w.heap.size+1) k aT nT cT (upTo P 256) (upTo Q 256)) [3,7] L u w') (Good:=fun i L w' v=>if i=0 then v=.pointer (some ⟨g,0,none⟩) else if i=1 then v=.pointer (some ⟨g,0,none⟩) else if i=2 then v=.pointer (some ⟨g,0,none⟩) else if i=3 then Iow (w.heap.size+1) w' v (upTo P 256) else if i=4 then v=.pointer (some ⟨g,0,none⟩) else if i=5 then v=.pointer (some ⟨g,0,none⟩) else if i=6 then v=.pointer (some ⟨g,32,none⟩) else if i=7 then Iow (w.heap.size+1) w' v (upTo Q 256) else if i=8 then v=.pointer (some ⟨g,0,none⟩) else if i=9 then v=.pointer (some ⟨g,0,none⟩) else if i=10 then v=.pointer (some ⟨g,64,none⟩) else if i=11 then v=.int .i64 k else if i=12 then v=.pointer (some ⟨g,0,none⟩) else if i=13 then v=.pointer (some ⟨g,0,none⟩) else if i=14 then v=.pointer (some ⟨g,65,none⟩) else if i=15 then v=.slice aT nT cT else if i=16 then StBd (w.heap.size+1) k aT nT cT (upTo P 256) (upTo Q 256) w' v else if i=17 then L 17=true else True) ?hstab (by kernel_rfl) ?hop ?hdone _ _ ((fun (x0 x1 x2 x3 x4 x5 x6 x7 x8 x9 x10 x11 x12 x13 x14 x15 x16:Value)=>fun (i:Nat)=>if i=0 then x0 else if i=1 then x1 else if i=2 then x2 else if i=3 then x3 else if i=4 then x4 else if i=5 then x5 else if i=6 then x6 else if i=7 then x7 else if i=8 then x8 else if i=9 then x9 else if i=10 then x10 else if i=11 then x11 else if i=12 then x12 else if i=13 then x13 else if i=14 then x14 else if i=15 then x15 else if i=16 then x16 else undef) _ _ _ _ _ _ _ _ _ _ _ _ _ _ _ _ _) _ (by simp) ?ext ?start (by simp)
 case start=>intro i hi h;exact absurd h (by rw[Array.getD_eq_getD_getElem?,Array.getElem?_replicate];split<;>simp)
 case ext=>exact ApS.start ⟨HW0.out,fun p _ hp=>absurd hp (by rw[Array.getD_eq_getD_getElem?,Array.getElem?_replicate];split<;>simp),fun p _ q _ _ hp=>absurd hp (by rw[Array.getD_eq_getD_getElem?,Array.getElem?_replicate];split<;>simp)⟩ (fun i=>by rw[Array.getD_eq_getD_getElem?,Array.getElem?_replicate];split<;>rfl) HR0.out
 case hstab=>
  intro j L w9 w' i v hM hij hLi h;by_cases h3:j=3
  ·subst h3;by_cases hl:i=17
   ·subst hl;simp at h hM ⊢;exact h.wr hM (by omega)
   ·rw[if_neg hl] at hM;simp at h ⊢;exact h.below hM
  by_cases h7:j=7
  ·subst h7;by_cases hl:i=17
   ·subst hl;simp at h hM ⊢;exact h.wr hM (by omega)
   ·rw[if_neg hl] at hM;simp at h ⊢;exact h.below hM
  by_cases h16:j=16
  ·subst h16;by_cases hl:i=17
   ·subst hl;simp at h hM ⊢;exact h.wr hM (by omega)
   ·rw[if_neg hl] at hM;simp at h ⊢;exact h.below hM
  by_cases hl:j=17
  ·subst hl;simp at h ⊢;unfold updK;simp[h]
  simp only[if_neg h3,if_neg h7,if_neg h16,if_neg hl] at h ⊢;exact h
 case hop=>
  intro i o L t w' ho hLi hx hdep K hK;have hi:i<18:=(Array.getElem?_eq_some_iff.1 ho).1;obtain rfl|rfl|rfl|rfl|rfl|rfl|rfl|rfl|rfl|rfl|rfl|rfl|rfl|rfl|rfl|rfl|rfl|rfl:i=0∨i=1∨i=2∨i=3∨i=4∨i=5∨i=6∨i=7∨i=8∨i=9∨i=10∨i=11∨i=12∨i=13∨i=14∨i=15∨i=16∨i=17:=by omega
  all_goals(simp at ho;subst ho)
  ·clear hdep;have hK':=hK w' (.pointer (some ⟨g,0,none⟩)) (by simp) (hx.step (fun _ _ _ b h=>h.below b) 0 (by decide) _ (Below.refl _ _) (fun h=>absurd h (by decide))) (by rw[if_neg (by decide)];exact(Below.refl _ _));clear hK;rw[if_pos (by rfl)];go_simp;simpa[upd] using hK'
  ·have d0:t 0=.pointer (some ⟨g,0,none⟩):=by simpa using(hdep ⟨0,.data⟩ (by simp) rfl).2
   clear hdep;have hK':=hK w' (.pointer (some ⟨g,0,none⟩)) (by simp) (hx.step (fun _ _ _ b h=>h.below b) 1 (by decide) _ (Below.refl _ _) (fun h=>absurd h (by decide))) (by rw[if_neg (by decide)];exact(Below.refl _ _));clear hK;rw[if_pos (by rfl)];go_simp;simpa[upd,d0] using hK'
  ·have d1:t 1=.pointer (some ⟨g,0,none⟩):=by simpa using(hdep ⟨1,.data⟩ (by simp) rfl).2
   clear hdep;have hK':=hK w' (.pointer (some ⟨g,0,none⟩)) (by simp) (hx.step (fun _ _ _ b h=>h.below b) 2 (by decide) _ (Below.refl _ _) (fun h=>absurd h (by decide))) (by rw[if_neg (by decide)];exact(Below.refl _ _));clear hK;rw[if_pos (by rfl)];go_simp;simpa[upd,d1] using hK'
  ·have d2:t 2=.pointer (some ⟨g,0,none⟩):=by simpa using(hdep ⟨2,.data⟩ (by simp) rfl).2
   clear hdep;have hsz:w.heap.size+1≤w'.heap.size:=hx.lt;have bw:Below w.heap.size w w':=hx.ax.below;have A:=list_any g 0 d P w' (fun ww hb=>(HBK.out.below (bw.trans (hb.mono bw.size)) HGL.out).batd) HSD.out;have hK':∀ ww v,Iow (w.heap.size+1) ww v (upTo P 256)→Fresh w' ww v→Below w'.heap.size w' ww→K _ ww:=fun ww v hv hf hb=>hK ww v (by simpa using hv) (hx.step (fun _ _ _ b h=>h.below b) 3 (by decide) v hb (fun _=>hf)) (by rw[if_neg (by decide)];exact hb)
   clear hK;rw[if_pos (by rfl)];go_simp;try simp only[d2]
   refine A.mono ?_;rintro e w9 ⟨v9,rfl,hv9,hb9⟩;have hK2:=hK' w9 v9 (hv9.mono hsz) hv9.fresh hb9;clear hK' A hv9 bw hb9;go_simp;simpa[upd,d2] using hK2
  ·clear hdep;have hK':=hK w' (.pointer (some ⟨g,0,none⟩)) (by simp) (hx.step (fun _ _ _ b h=>h.below b) 4 (by decide) _ (Below.refl _ _) (fun h=>absurd h (by decide))) (by rw[if_neg (by decide)];exact(Below.refl _ _));clear hK;rw[if_pos (by rfl)];go_simp;simpa[upd] using hK'
  ·have d4:t 4=.pointer (some ⟨g,0,none⟩):=by simpa using(hdep ⟨4,.data⟩ (by simp) rfl).2
   clear hdep;have hK':=hK w' (.pointer (some ⟨g,0,none⟩)) (by simp) (hx.step (fun _ _ _ b h=>h.below b) 5 (by decide) _ (Below.refl _ _) (fun h=>absurd h (by decide))) (by rw[if_neg (by decide)];exact(Below.refl _ _));clear hK;rw[if_pos (by rfl)];go_simp;simpa[upd,d4] using hK'
  ·have d5:t 5=.pointer (some ⟨g,0,none⟩):=by simpa using(hdep ⟨5,.data⟩ (by simp) rfl).2
   clear hdep;have hK':=hK w' (.pointer (some ⟨g,32,none⟩)) (by simp) (hx.step (fun _ _ _ b h=>h.below b) 6 (by decide) _ (Below.refl _ _) (fun h=>absurd h (by decide))) (by rw[if_neg (by decide)];exact(Below.refl _ _));clear hK;rw[if_pos (by rfl)];go_simp;simpa[upd,d5] using hK'
  ·have d6:t 6=.pointer (some ⟨g,32,none⟩):=by simpa using(hdep ⟨6,.data⟩ (by simp) rfl).2
   clear hdep;have hsz:w.heap.size+1≤w'.heap.size:=hx.lt;have bw:Below w.heap.size w w':=hx.ax.below;have A:=list_any g 32 u Q w' (fun ww hb=>(HBK.out.below (bw.trans (hb.mono bw.size)) HGL.out).batu) HSU.out;have hK':∀ ww v,Iow (w.heap.size+1) ww v (upTo Q 256)→Fresh w' ww v→Below w'.heap.size w' ww→K _ ww:=fun ww v hv hf hb=>hK ww v (by simpa using hv) (hx.step (fun _ _ _ b h=>h.below b) 7 (by decide) v hb (fun _=>hf)) (by rw[if_neg (by decide)];exact hb)
   clear hK;rw[if_pos (by rfl)];go_simp;try simp only[d6]
   refine A.mono ?_;rintro e w9 ⟨v9,rfl,hv9,hb9⟩;have hK2:=hK' w9 v9 (hv9.mono hsz) hv9.fresh hb9;clear hK' A hv9 bw hb9;go_simp;simpa[upd,d6] using hK2
  ·clear hdep;have hK':=hK w' (.pointer (some ⟨g,0,none⟩)) (by simp) (hx.step (fun _ _ _ b h=>h.below b) 8 (by decide) _ (Below.refl _ _) (fun h=>absurd h (by decide))) (by rw[if_neg (by decide)];exact(Below.refl _ _));clear hK;rw[if_pos (by rfl)];go_simp;simpa[upd] using hK'
  ·have d8:t 8=.pointer (some ⟨g,0,none⟩):=by simpa using(hdep ⟨8,.data⟩ (by simp) rfl).2
   clear hdep;have hK':=hK w' (.pointer (some ⟨g,0,none⟩)) (by simp) (hx.step (fun _ _ _ b h=>h.below b) 9 (by decide) _ (Below.refl _ _) (fun h=>absurd h (by decide))) (by rw[if_neg (by decide)];exact(Below.refl _ _));clear hK;rw[if_pos (by rfl)];go_simp;simpa[upd,d8] using hK'
  ·have d9:t 9=.pointer (some ⟨g,0,none⟩):=by simpa using(hdep ⟨9,.data⟩ (by simp) rfl).2
   clear hdep;have hK':=hK w' (.pointer (some ⟨g,64,none⟩)) (by simp) (hx.step (fun _ _ _ b h=>h.below b) 10 (by decide) _ (Below.refl _ _) (fun h=>absurd h (by decide))) (by rw[if_neg (by decide)];exact(Below.refl _ _));clear hK;rw[if_pos (by rfl)];go_simp;simpa[upd,d9] using hK'
  ·have d10:t 10=.pointer (some ⟨g,64,none⟩):=by simpa using(hdep ⟨10,.data⟩ (by simp) rfl).2
   clear hdep;have cc:w'.cell? ⟨g,64,none⟩=some (.int .i64 k):=(HBK.out.below hx.ax.below HGL.out).ck;have hK':=hK w' (.int .i64 k) (by simp) (hx.step (fun _ _ _ b h=>h.below b) 11 (by decide) _ (Below.refl _ _) (fun h=>absurd h (by decide))) (by rw[if_neg (by decide)];exact(Below.refl _ _));clear hK;rw[if_pos (by rfl)];go_simp;simpa[upd,d10] using hK'
  ·clear hdep;have hK':=hK w' (.pointer (some ⟨g,0,none⟩)) (by simp) (hx.step (fun _ _ _ b h=>h.below b) 12 (by decide) _ (Below.refl _ _) (fun h=>absurd h (by decide))) (by rw[if_neg (by decide)];exact(Below.refl _ _));clear hK;rw[if_pos (by rfl)];go_simp;simpa[upd] using hK'
  ·have d12:t 12=.pointer (some ⟨g,0,none⟩):=by simpa using(hdep ⟨12,.data⟩ (by simp) rfl).2
   clear hdep;have hK':=hK w' (.pointer (some ⟨g,0,none⟩)) (by simp) (hx.step (fun _ _ _ b h=>h.below b) 13 (by decide) _ (Below.refl _ _) (fun h=>absurd h (by decide))) (by rw[if_neg (by decide)];exact(Below.refl _ _));clear hK;rw[if_pos (by rfl)];go_simp;simpa[upd,d12] using hK'
  ·have d13:t 13=.pointer (some ⟨g,0,none⟩):=by simpa using(hdep ⟨13,.data⟩ (by simp) rfl).2
   clear hdep;have hK':=hK w' (.pointer (some ⟨g,65,none⟩)) (by simp) (hx.step (fun _ _ _ b h=>h.below b) 14 (by decide) _ (Below.refl _ _) (fun h=>absurd h (by decide))) (by rw[if_neg (by decide)];exact(Below.refl _ _));clear hK;rw[if_pos (by rfl)];go_simp;simpa[upd,d13] using hK'
  ·have d14:t 14=.pointer (some ⟨g,65,none⟩):=by simpa using(hdep ⟨14,.data⟩ (by simp) rfl).2
   clear hdep;have cc:w'.cell? ⟨g,65,none⟩=some (.slice aT nT cT):=(HBK.out.below hx.ax.below HGL.out).cv;have hK':=hK w' (.slice aT nT cT) (by simp) (hx.step (fun _ _ _ b h=>h.below b) 15 (by decide) _ (Below.refl _ _) (fun h=>absurd h (by decide))) (by rw[if_neg (by decide)];exact(Below.refl _ _));clear hK;rw[if_pos (by rfl)];go_simp;simpa[upd,d14] using hK'
  ·have l3:L 3=true:=(hdep ⟨3,.data⟩ (by simp) rfl).1;have f3:Iow (w.heap.size+1) w' (t 3) (upTo P 256):=by simpa using(hdep ⟨3,.data⟩ (by simp) rfl).2
   have l7:L 7=true:=(hdep ⟨7,.data⟩ (by simp) rfl).1;have f7:Iow (w.heap.size+1) w' (t 7) (upTo Q 256):=by simpa using(hdep ⟨7,.data⟩ (by simp) rfl).2
   have d11:t 11=.int .i64 k:=by simpa using(hdep ⟨11,.data⟩ (by simp) rfl).2
   have d15:t 15=.slice aT nT cT:=by simpa using(hdep ⟨15,.data⟩ (by simp) rfl).2
   clear hdep;obtain⟨aD,nD,cD,d3⟩:=f3.form;obtain⟨aU,nU,cU,d7⟩:=f7.form;have hap:=hx.ax.ap 3 (by decide) 7 (by decide) (by decide) l3 l7;rw[d3] at f3 hap;rw[d7] at f7 hap;have hK':=hK w' (.agg #[.slice aD nD cD,.slice aU nU cU,.int .i64 k,.slice aT nT cT]) (by simpa using⟨_,rfl,aD,nD,cD,aU,nU,cU,rfl,f3,f7,hap⟩) (hx.step (fun _ _ _ b h=>h.below b) 16 (by decide) _ (Below.refl _ _) (fun h=>absurd h (by decide))) (by rw[if_neg (by decide)];exact(Below.refl _ _));clear hK f3 f7 hap;rw[if_pos (by rfl)];go_simp;simpa[upd,d3,d7,d11,d15] using hK'
  ·have f16:StBd (w.heap.size+1) k aT nT cT (upTo P 256) (upTo Q 256) w' (t 16):=by simpa using(hdep ⟨16,.data⟩ (by simp) rfl).2
   clear hdep;obtain⟨cs,e9,aD,nD,cD,aU,nU,cU,rfl,f3,f7,hap⟩:=f16;have hrs:=hx.pre hLi;have hK':∀ ww,Wr w.heap.size w' ww→ww.heap[w.heap.size]?=some (.cells #[.slice aD nD cD,.slice aU nU cU,.int .i64 k,.slice aT nT cT] 34 (0,0))→K _ ww:=fun ww hw hr=>hK ww undef (by simp[updK]) (hx.put (Nat.le_refl _) (by decide) _ hw hr ⟨aD,nD,cD,aU,nU,cU,rfl,f3.wr hw (by omega),f7.wr hw (by omega),hap⟩) (by rw[if_pos rfl];exact hw)
   clear hK f3 f7 hap;rw[if_pos (by rfl)];refine wp_store_row 34 (.tmp 2) (.tmp 19) rfl w.heap.size _ rfl e9 34 _ hrs HSZ.out rfl (by simp[Value.oneCell']) ?_;have hK2:=hK' _ (Wr.setRow _ _ _) (setRow_heap _ _ _ _ _ _ hrs);clear hK';simpa[upd,Act.put] using hK2
 case hdone=>
  intro L t w' hx hg;have l17:L 17=true:=by simpa using hg 17 (by decide)
  clear hg;obtain⟨cs,hr,aD,nD,cD,aU,nU,cU,rfl,h1,h2,h3⟩:=hx.fin l17;have HR9:Hid (w'.heap[w.heap.size]?=some (.cells #[.slice aD nD cD,.slice aU nU cU,.int .i64 k,.slice aT nT cT] 34 (0,0))):=hr;have HF:Hid (Iow w.heap.size w' (.slice aD nD cD) (upTo P 256)∧Iow w.heap.size w' (.slice aU nU cU) (upTo Q 256)∧ApV (.slice aD nD cD) (.slice aU nU cU)∧Below w.heap.size w w'):=⟨h1.mono (by omega),h2.mono (by omega),h3,hx.ax.below⟩
  clear hx hr h1 h2 h3;go_wp2_with fail;exact bodyPost_ret (v:=.agg #[.slice aD nD cD,.slice aU nU cU,.int .i64 k,.slice aT nT cT]) (results_cell_row rfl _ _ w.heap.size 34 _ (0,0) _ rfl HR9.out Tryz.underlying34 rfl HSZ.out) rfl ⟨aD,nD,cD,aU,nU,cU,rfl,HF.out.1,HF.out.2.1,HF.out.2.2.1,HF.out.2.2.2⟩
end Go.Proofs.YtganeokokjodoaaGreat
