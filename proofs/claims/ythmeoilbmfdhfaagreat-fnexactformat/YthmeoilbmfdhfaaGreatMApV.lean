import Derived.Test.YthmeoilbmfdhfaaGreatMSwH
import Derived.Test.YthmeoilbmfdhfaaGreatMFrE
import Derived.Test.YthmeoilbmfdhfaaGreatMSwB
import Derived.Test.YthmeoilbmfdhfaaGreatMDkB
import Derived.Test.YthmeoilbmfdhfaaGreatMSnA
namespace Go.Proofs.YthmeoilbmfdhfaaGreat
open Go.ChangeShapes Go.WideShapes Go.ChangeAt Go.RowKit
set_option linter.unusedVariables false
theorem upTo_or (P Q:Nat→Bool) (a:Nat) (ha:P a=false) (hQ:∀ v,Q v=(P v || decide (v=a))) (k:Nat):(upTo Q k).length=(upTo P k).length+(if a<k then 1 else 0):=by
 induction k with
 |zero=>rfl
 |succ k ih=>
  rw[upTo_succ,upTo_succ];by_cases hk:a=k
  ·subst hk;rw[hQ,ha,if_pos (by simp),if_neg (by simp),List.length_append,ih,if_neg (Nat.lt_irrefl _),if_pos (Nat.lt_succ_self _)];simp
  ·have e:Q k=P k:=by rw[hQ,decide_eq_false (fun h=>hk h.symm)];simp
   rw[e];have e2:(if a<k+1 then 1 else 0)=(if a<k then 1 else 0):=by
    by_cases h:a<k
    ·rw[if_pos h,if_pos (by omega)]
    ·rw[if_neg h,if_neg (by omega)]
   rw[e2];split
   ·rw[List.length_append,List.length_append,ih];simp;omega
   ·exact ih
open Classical in
theorem withS_len {U:List Int} {a:Nat} (hU:SerP U) (ha:a<256) (hn:¬ (a:Int)∈U):(withS U a).length=U.length+1:=by
 have e:=SerP.eq_upTo hU (fun v=>decide ((v:Int)∈U)) (fun v _=>by simp)
 have:=upTo_or (fun v=>decide ((v:Int)∈U)) (fun v=>decide ((v:Int)∈U∨v=a)) a (decide_eq_false hn) (fun v=>by by_cases h1:(v:Int)∈U<;>by_cases h2:v=a<;>simp[h1,h2]) 256
 rw[if_pos ha] at this
 unfold withS
 rw[this]
 conv=>rhs;rw[←e]
theorem mem_withS {U:List Int} {a:Nat} (hU:SerP U) {z:Int} (h:z∈U):z∈withS U a:=by
 obtain⟨h0,h1⟩:=hU.range h
 obtain⟨v,rfl⟩:=Int.eq_ofNat_of_zero_le h0
 exact(withS_mem (by omega)).1 (.inl h)
theorem apR_st {D U:List Int} {k:Int} {T:List Int} {n:Nat} {kind:Int} {a b:Nat} (h:StP D U k T n) (hT:T.length=n*2) (hb:b<4294967296) (ho:(apR D U k T n kind a b).ok=true) :
  StP (apR D U k T n kind a b).D (apR D U k T n kind a b).U (apR D U k T n kind a b).k (apR D U k T n kind a b).T (apR D U k T n kind a b).n∧(apR D U k T n kind a b).T.length=(apR D U k T n kind a b).n*2:=by
 obtain⟨sD,sU⟩:=apR_ser (k:=k) (T:=T) (n:=n) (kind:=kind) (a:=a) (b:=b) h.1 h.2.2.1
 obtain⟨h1,h2,h3,h4,h5,h6⟩:=h
 unfold apR at ho sD sU ⊢
 by_cases k1:kind=1
 ·rw[if_pos k1] at ho sD sU ⊢;by_cases hc:a<256∧¬ (a:Int)∈U∧¬ (a:Int)∈D
  ·rw[if_pos hc] at sD sU ⊢;have hl:=withS_len h3 hc.1 hc.2.1;refine⟨⟨sD,h2,sU,h4,by show k+((n+1:Nat):Int)=((withS U a).length:Int);rw[hl];omega,fun i hi=>?_⟩,by show(T++_).length=(n+1)*2;rw[List.length_append,hT];simp;omega⟩;show tapI (withS U a) (T++[(a:Int),(b:Int)]) i
   have hgl:∀ j,j<n*2→(T++[(a:Int),(b:Int)]).getD j 0=T.getD j 0:=fun j hj=>by
    rw[List.getD,List.getD,List.getElem?_append_left (by omega)]
   by_cases hin:i<n
   ·obtain⟨t1,t2,t3⟩:=h6 i hin;refine⟨by rw[hgl _ (by omega)];exact mem_withS h3 t1,by rw[hgl _ (by omega)];exact t2,fun j hj=>?_⟩;rw[hgl _ (by omega),hgl _ (by omega)];exact t3 j hj
   ·obtain rfl:i=n:=by have:i<n+1:=hi;omega
    have e0:(T++[(a:Int),(b:Int)]).getD (i*2) 0=(a:Int):=by rw[List.getD,List.getElem?_append_right (by omega),hT,Nat.sub_self];rfl
    have e1:(T++[(a:Int),(b:Int)]).getD (i*2+1) 0=(b:Int):=by rw[List.getD,List.getElem?_append_right (by omega),hT,Nat.add_sub_cancel_left];rfl
    refine⟨by rw[e0];exact(withS_mem hc.1).1 (.inr rfl),by rw[e1];omega,fun j hj=>?_⟩;rw[hgl _ (by omega),e0];intro e;exact hc.2.1 (e ▸ (h6 j hj).1)
  ·rw[if_neg hc] at ho;cases ho
 ·rw[if_neg k1] at ho sD sU ⊢;by_cases k2:kind=2
  ·rw[if_pos k2] at ho sD sU ⊢;by_cases hc:b=1∧a<256∧¬ (a:Int)∈D∧¬ D.length=16
   ·rw[if_pos hc] at sD sU ⊢;have hl:=withS_len h1 hc.2.1 hc.2.2.1;exact⟨⟨sD,by show(withS D a).length≤16;rw[hl];omega,sU,h4,h5,h6⟩,hT⟩
   ·rw[if_neg hc] at ho sD sU ⊢;by_cases hc2:b=0∧a<256∧(a:Int)∈D
    ·rw[if_pos hc2] at sD sU ⊢;exact⟨⟨sD,Nat.le_trans (List.length_filter_le _ _) h2,sU,h4,h5,h6⟩,hT⟩
    ·rw[if_neg hc2] at ho;cases ho
  ·rw[if_neg k2] at ho sD sU ⊢;by_cases k3:kind=3
   ·rw[if_pos k3] at ho sD sU ⊢;by_cases hc:b=0∧(a:Int)≤k+n
    ·rw[if_pos hc] at sD sU ⊢;have hm:ackM k a≤n:=by unfold ackM;omega
     have hmk:(ackM k a:Int)=max (a:Int) k-k:=by unfold ackM;omega
     refine⟨⟨sD,h2,sU,by show 0≤max (a:Int) k;omega,by show max (a:Int) k+((n-ackM k a:Nat):Int)=(U.length:Int);rw[←h5,Int.ofNat_sub hm,hmk];generalize max (a:Int) k=mx;omega,fun i hi=>?_⟩,by show(T.drop _).length=(n-ackM k a)*2;rw[List.length_drop,hT];omega⟩;have hi':i<n-ackM k a:=hi;have e:∀ j,(T.drop (ackM k a*2)).getD j 0=T.getD (ackM k a*2+j) 0:=fun j=>by simp[List.getD]
     obtain⟨t1,t2,t3⟩:=h6 (ackM k a+i) (by omega);show tapI U (T.drop (ackM k a*2)) i
     unfold tapI;rw[e,e,show ackM k a*2+i*2=(ackM k a+i)*2 by omega,show ackM k a*2+(i*2+1)=(ackM k a+i)*2+1 by omega];refine⟨t1,t2,fun j hj=>?_⟩;rw[e,show ackM k a*2+j*2=(ackM k a+j)*2 by omega];exact t3 _ (by omega)
    ·rw[if_neg hc] at ho;cases ho
   ·rw[if_neg k3] at ho;cases ho
open Classical in
noncomputable def apK (r:ApR) (F:List Int):Nat→ApR
 |0=>r
 |i+1=>if(apK r F i).ok=true then apR (apK r F i).D (apK r F i).U (apK r F i).k (apK r F i).T (apK r F i).n (F.getD (i*4+1) 0) (F.getD (i*4+2) 0).toNat (F.getD (i*4+3) 0).toNat else apNo
theorem apK_go {r:ApR} {F:List Int} {i:Nat} (h:(apK r F i).ok=true):apK r F (i+1)=apR (apK r F i).D (apK r F i).U (apK r F i).k (apK r F i).T (apK r F i).n (F.getD (i*4+1) 0) (F.getD (i*4+2) 0).toNat (F.getD (i*4+3) 0).toNat:=by
 show(if _ then _ else _)=_
 rw[if_pos h]
theorem apK_stop {r:ApR} {F:List Int} {i:Nat} (h:(apK r F i).ok=false):apK r F (i+1)=apNo:=by
 show(if _ then _ else _)=_
 rw[if_neg (by rw[h];simp)]
theorem apK_end {r:ApR} {F:List Int} {i:Nat} (h:(apK r F i).ok=false):∀ j,apK r F (i+1+j)=apNo
 |0=>apK_stop h
 |j+1=>by rw[←Nat.add_assoc];exact apK_stop (by rw[apK_end h j];rfl)
def FrB (F:List Int):Prop:=∀ i,i*4+3<F.length→(0≤F.getD (i*4+2) 0∧F.getD (i*4+2) 0<4294967296)∧(0≤F.getD (i*4+3) 0∧F.getD (i*4+3) 0<4294967296)
theorem apK_st {r:ApR} {F:List Int} (hF:FrB F) (hr:StP r.D r.U r.k r.T r.n) (hT:r.T.length=r.n*2):∀ i,i*4≤F.length→(apK r F i).ok=true→StP (apK r F i).D (apK r F i).U (apK r F i).k (apK r F i).T (apK r F i).n∧(apK r F i).T.length=(apK r F i).n*2
 |0,_,_=>⟨hr,hT⟩
 |i+1,hi,ho=>by
  cases h:(apK r F i).ok with
  |false=>rw[apK_stop h] at ho;cases ho
  |true=>
   obtain⟨h1,h2⟩:=apK_st hF hr hT i (by omega) h;rw[apK_go h] at ho ⊢;exact apR_st h1 h2 (by have:=hF i (by omega);omega) ho
open Classical in
theorem SerP.le {U:List Int} (h:SerP U):U.length≤256:=by
 have e:=SerP.eq_upTo h (fun v=>decide ((v:Int)∈U)) (fun v _=>by simp)
 rw[←e];exact upTo_len _ _
theorem StP.bd {D U:List Int} {k:Int} {T:List Int} {n:Nat} (h:StP D U k T n):0≤k∧k≤256∧n≤256:=by
 have:=h.2.2.1.le
 have h4:=h.2.2.2.1
 have h5:=h.2.2.2.2.1
 omega
structure AX (w:World) (H B g:Nat) (r:ApR) (wr:World):Prop where
 bel:Below H w wr
 bk:∃ d u v,Bk wr g d u r.k v∧SetB d (fun x=>(x:Int)∈r.D)∧SetB u (fun x=>(x:Int)∈r.U)∧TapV B wr v r.T r.n∧NeG g v
set_option maxRecDepth 100000 in
set_option maxHeartbeats 4000000 in
theorem applyAll_any (ad:Option Addr) (n c:Nat) (F:List Int) (w:World) (g H B:Nat) (r0:ApR) (ho:r0.ok=true) (hF:FAt w ad F) (hl:F.length=n*4) (hn:n≤1000) (hFB:FrB F) (hlo:∀ x,ad=some x→x.block<H)
  (hX:AX w H B g r0 w) (hst:StP r0.D r0.U r0.k r0.T r0.n) (hT:r0.T.length=r0.n*2) (hH:H≤g) (hHB:H≤B) (hBw:B≤w.heap.size) (hHw:H≤w.heap.size) :
  Calls Tryz.prog 39 #[.pointer (some ⟨g,0,none⟩),.slice ad n c] w (fun e w'=>e=.returned (.bool (apK r0 F n).ok)∧Below H w w'∧((apK r0 F n).ok=true→AX w H B g (apK r0 F n) w')):=by
 have HX0:=hid_ofL hX
 have HSF:Hid ((Tryz.prog.info? 112).map (·.size)=some 4):=by show _=_;kernel_rfl
 have HST:=hid_ofL (fun i hi=>apK_st hFB hst hT i hi)
 have HFB:=hid_ofL hFB
 have HFA:=hid_ofL hF
 have HLO:=hid_ofL hlo
 have HL:=hid_ofL hl
 clear hX hFB hst hT hF hlo hl
 go_enter Tryz.func39,Tryz.ntmps39
 go_wp2
 go_loopw [9] (fun i wr=>∃ q:Nat,q≤n∧i=.int .i64 q∧(apK r0 F q).ok=true∧AX w H B g (apK r0 F q) wr) (fun i _=>n-(intOf i).toNat)
 case atStart=>exact⟨0,Nat.zero_le _,rfl,ho,HX0.out⟩
 case round=>
  clear HX0;obtain⟨q,hq,rfl,hok,hx⟩:=hrel;have HX:=hid_ofL hx;have HOK:=hid_ofL hok;clear hx hok;by_cases hlt:q<n
  ·have hlt':(q:Int)<(n:Int):=by omega
   obtain⟨b,off,rfl,hb,hc⟩:=HFA.out.get (by rw[HL.out];omega);obtain⟨f0,f1,f2,f3⟩:=FAt.four hc q (by rw[HL.out];omega);obtain⟨⟨p0,p1⟩,y0,y1⟩:=HFB.out q (by rw[HL.out];omega);have hblt:=HLO.out _ rfl;have hbl:b<H:=hblt;have hcl:∀ j,wr.cell? ⟨b,j,none⟩=w.cell? ⟨b,j,none⟩:=fun j=>HX.out.bel.cell (p:=⟨b,j,none⟩) hbl
   have s0:wr.cell? ⟨b,off+q*4,none⟩=_:=(hcl _).trans f0;have s1:wr.cell? ⟨b,off+q*4+1,none⟩=_:=(hcl _).trans f1;have s2:wr.cell? ⟨b,off+q*4+2,none⟩=_:=(hcl _).trans f2;have s3:wr.cell? ⟨b,off+q*4+3,none⟩=_:=(hcl _).trans f3;obtain⟨hstq,hTq⟩:=HST.out q (by rw[HL.out];omega) HOK.out;have HGO:=hid_ofL (apK_go HOK.out);clear f0 f1 f2 f3 hc hcl hblt;generalize F.getD (q*4) 0=s at *;generalize F.getD (q*4+1) 0=kd at *;generalize F.getD (q*4+2) 0=p at *;generalize F.getD (q*4+3) 0=y at *;have HSTQ:=hid_ofL hstq;clear hstq hTq;have hsz:=HX.out.bel.size;have hb1:Below wr.heap.size wr (wr.alloc (.cells #[.int .u32 s,.int .i64 kd,.int .u32 p,.int .u32 y] 112)):=(Below.refl _ _).alloc (Nat.le_refl _) _;have HR1:Hid ((wr.alloc (.cells #[.int .u32 s,.int .i64 kd,.int .u32 p,.int .u32 y] 112)).heap[wr.heap.size]?=some (.cells #[.int .u32 s,.int .i64 kd,.int .u32 p,.int .u32 y] 112 (0,0))):=heap_alloc_new wr _;have A:Hid (Calls Tryz.prog 86 #[.pointer (some ⟨g,0,none⟩),.agg #[.int .u32 s,.int .i64 kd,.int .u32 p,.int .u32 y]] (wr.alloc (.cells #[.int .u32 s,.int .i64 kd,.int .u32 p,.int .u32 y] 112)) (apPost H B g (wr.alloc (.cells #[.int .u32 s,.int .i64 kd,.int .u32 p,.int .u32 y] 112)) (apK r0 F (q+1)))):=by
    obtain⟨d,u,v,k1,k2,k3,k4,k5⟩:=HX.out.bk;obtain⟨z0,z1,z2⟩:=HSTQ.out.bd;rw[HGO.out];have:=apply_any s kd p.toNat y.toNat (by omega) (by omega) (k1.below hb1 k1.lt) k2 k3 (k4.alloc (.cells #[.int .u32 s,.int .i64 kd,.int .u32 p,.int .u32 y] 112)) HSTQ.out.1 z0 (by omega) (by omega) hH hHB k5 (by rw[World.size_alloc];omega);rw[Int.toNat_of_nonneg p0,Int.toNat_of_nonneg y0] at this;exact this
   have HB1:Hid (Below H w (wr.alloc (.cells #[.int .u32 s,.int .i64 kd,.int .u32 p,.int .u32 y] 112))):=HX.out.bel.trans (hb1.mono (by omega));clear hb1 HX HGO HSTQ
   go_upto_region 4 with (first
    |(refine wpList_store_row rfl 112 (.tmp 6) (.tmp 12) rfl wr.heap.size #[.int .u32 s,.int .i64 kd,.int .u32 p,.int .u32 y] rfl rfl 112 _ (heap_alloc_new wr _) HSF.out rfl (all4 _ _ _ _) ?_)
    |fail)
   rw[World.setRow_alloc_new];generalize wr.alloc (.cells #[.int .u32 s,.int .i64 kd,.int .u32 p,.int .u32 y] 112)=w1 at *;generalize wr.heap.size=Q at *;clear s0 s1 s2 s3;go_wp2_with (first
    |(refine wpList_load_row rfl 112 (.tmp 6) rfl Q rfl 112 _ (0,0) _ HR1.out Tryz.underlying112 rfl HSF.out ?_)
    |fail)
   refine A.out.mono ?_;rintro e w2 ⟨rfl,b2,hok2⟩;clear A HR1;cases hk:(apK r0 F (q+1)).ok with
   |false=>
    have HE:Hid ((apK r0 F n).ok=false):=by
     show _=_
     by_cases e:q+1=n
     ·rw[←e];exact hk
     ·have:=apK_end hk (n-(q+2));rw[show q+1+1+(n-(q+2))=n by omega] at this;rw[this];rfl
    have HF:=hid_ofL (HB1.out.trans b2);clear b2 hok2 HB1;go_wp2
    go_ret
    exact⟨by rw[HE.out];rfl,HF.out,fun h=>by rw[HE.out] at h;cases h⟩
   |true=>
    have HF:Hid (AX w H B g (apK r0 F (q+1)) w2):=⟨HB1.out.trans b2,hok2 hk⟩
    have HK:=hid_ofL hk;clear b2 hok2 HB1 hk;go_wp2;go_roundw
    case rel=>exact⟨q+1,by omega,by go_num,HK.out,HF.out⟩
    case measure=>simp[intOf];omega
  ·obtain rfl:q=n:=by omega
   go_wp2
   go_ret
   exact⟨by rw[HOK.out];rfl,HX.out.bel,fun _=>HX.out⟩
structure ImR where
 ok:Bool
 g:Int
 t:Int
 sD:List Int
 sU:List Int
 F:List Int
 D:List Int
 U:List Int
 k:Int
 T:List Int
 n:Nat
 nx:Int
def imNo:ImR:=⟨false,0,0,[],[],[],[],[],0,[],0,0⟩
noncomputable def imA (s:DkR) (F:List Int):ApR:=apK ⟨true,s.D,s.U,(s.U.length:Int),[],0⟩ F (F.length/4)
open Classical in
noncomputable def imR (s:DkR) (F:List Int):ImR:=
 if(imA s F).ok=true then ⟨true,s.g,s.t,s.D,s.U,F,(imA s F).D,(imA s F).U,(imA s F).k,(imA s F).T,(imA s F).n,s.t+((F.length/4:Nat):Int)⟩ else imNo
open Classical in
noncomputable def imF (zs:List Int) (ps:List PD) (J:Nat):ImR:=if(nwK zs ps 2).ok=true then imR (nwK zs ps 2) (jrF zs ps J (nwK zs ps 2).t.toNat J) else imNo
open Classical in
noncomputable def imG (zs:List Int) (ps:List PD) (f:Int):ImR:=if validB zs.length ps f=true then imF zs ps (zs.length/64-4) else imNo
theorem dkF_snp {zs:List Int} (h:(dkF zs).ok=true):SnP (dkF zs).g (dkF zs).t (dkF zs).D (dkF zs).U:=by
 by_cases hc:zs.length=128∧zs.getD 6 0≤16∧dkE zs=zs
 ·rw[dkF_yes hc.1 hc.2.1 hc.2.2];by_cases hp:SnP (num4 zs 0) (num4 zs 8) (dkD zs (dkN zs)) (dkU zs)
  ·exact hp
  ·have e:dkE zs=[]:=by unfold dkE snE;rw[snB_no hp];rfl
   rw[hc.2.2] at e;rw[e] at hc;simp at hc
 ·exfalso
  have e:dkF zs=dkNo:=by unfold dkF;rw[if_neg hc]
  rw[e] at h;cases h
theorem slF_snp {zs:List Int} {ps:List PD} {i:Nat} (h:(slF zs ps i).ok=true):SnP (slF zs ps i).g (slF zs ps i).t (slF zs ps i).D (slF zs ps i).U:=by
 unfold slF at h ⊢
 split at h
 ·next hc=>rw[if_pos hc];exact dkF_snp hc.1
 ·cases h
theorem nwK_snp {zs:List Int} {ps:List PD}:∀ q,(nwK zs ps q).ok=true→SnP (nwK zs ps q).g (nwK zs ps q).t (nwK zs ps q).D (nwK zs ps q).U
 |0,h=>by cases h
 |q+1,h=>by
  unfold nwK at h ⊢;split at h
  ·next hc=>rw[if_pos hc];exact slF_snp hc.1
  ·next hc=>rw[if_neg hc];exact nwK_snp q h
theorem SnP.st {gn tl:Int} {D U:List Int} (h:SnP gn tl D U):StP D U (U.length:Int) [] 0:=
 ⟨h.2.2.2.1,h.2.2.2.2.1,h.2.2.2.2.2,by omega,by simp,fun i hi=>absurd hi (by omega)⟩
theorem jrF_frb (zs:List Int) (ps:List PD) (J:Nat) (hb:∀ q,Byte (jrT zs ps J q)):∀ n q,FrB (jrF zs ps J q n)
 |0,q=>fun i hi=>by simp[jrF] at hi
 |n+1,q=>by
  unfold jrF;split
  ·intro i hi;have ih:=jrF_frb zs ps J hb n (q+1);cases i with
   |zero=>
    have u2:=num4_u32 _ (hb q) 8;have u3:=num4_u32 _ (hb q) 12;exact⟨u2,u3⟩
   |succ i=>
    have hi':i*4+3<(jrF zs ps J (q+1) n).length:=by rw[List.length_append,fr4_len] at hi;omega
    have e:∀ j,(fr4 (jrT zs ps J q)++jrF zs ps J (q+1) n).getD (j+4) 0=(jrF zs ps J (q+1) n).getD j 0:=fun j=>by
     rw[List.getD,List.getD,List.getElem?_append_right (by rw[fr4_len];omega),fr4_len,Nat.add_sub_cancel]
    rw[show(i+1)*4+2=i*4+2+4 by omega,show(i+1)*4+3=i*4+3+4 by omega,e,e];exact ih i hi'
  ·intro i hi;simp at hi
def ImV (lo:Nat) (w:World) (v:Value) (r:ImR):Prop:=∃ aSD nSD cSD aSU nSU cSU vF m aD nD cD aU nU cU aT cT b1 b2,
 v=.agg #[.bool r.ok,.int .u32 r.g,.int .u32 r.t,.slice aSD nSD cSD,.slice aSU nSU cSU,vF,.slice aD nD cD,.slice aU nU cU,.int .i64 r.k,.slice aT r.n cT,.int .u32 r.nx]∧
 S3 lo w aSD aSU none nSD nSU 0 r.sD r.sU []∧(∀ ad,aSD=some ad→ad.block<b1)∧(∀ ad,aSU=some ad→ad.block<b1)∧FO b1 w vF r.F m∧(∀ k,vF.ownBlock=some k→k<b2)∧S3 b2 w aD aU aT nD nU r.n r.D r.U r.T∧lo≤b1∧b1≤b2
theorem S3.nil (lo:Nat) (w:World):S3 lo w none none none 0 0 0 [] [] []:=⟨.inl rfl,.inl rfl,.inl rfl,rfl,rfl,rfl,fun _ h=>(by cases h),fun _ h=>(by cases h),fun _ h=>(by cases h),fun _ _ h=>(by cases h),fun _ _ h=>(by cases h),fun _ _ h=>(by cases h)⟩
theorem FO.nil (B:Nat) (w:World):FO B w (.slice none 0 0) [] 0:=⟨rfl,.inl ⟨rfl,rfl⟩⟩
theorem ImV.no (lo:Nat) (w:World):ImV lo w (.agg #[.bool false,.int .u32 0,.int .u32 0,.slice none 0 0,.slice none 0 0,.slice none 0 0,.slice none 0 0,.slice none 0 0,.int .i64 0,.slice none 0 0,.int .u32 0]) imNo:=
 ⟨none,0,0,none,0,0,.slice none 0 0,0,none,0,0,none,0,0,none,0,lo,lo,rfl,S3.nil _ _,fun _ h=>(by cases h),fun _ h=>(by cases h),FO.nil _ _,fun _ h=>(by cases h),S3.nil _ _,Nat.le_refl _,Nat.le_refl _⟩
set_option maxRecDepth 100000 in
set_option maxHeartbeats 2000000 in
theorem snst1_any (h:Nat) (aD aU:Option Addr) (nD cD nU cU:Nat) (w:World) (hh:h<w.heap.size) (c2:w.cell? ⟨h,3,none⟩=some (.slice aD nD cD)) (c3:w.cell? ⟨h,4,none⟩=some (.slice aU nU cU)) :
  Calls Tryz.prog 38 #[.pointer (some ⟨h,1,none⟩)] w fun e w'=>e=.returned (.agg #[.slice aD nD cD,.slice aU nU cU,.int .i64 nU,.slice none 0 0])∧Below w.heap.size w w':=by
 have HH:Hid (h<w.heap.size∧w.cell? ⟨h,3,none⟩=some (.slice aD nD cD)∧w.cell? ⟨h,4,none⟩=some (.slice aU nU cU)):=⟨hh,c2,c3⟩
 have HSZ:Hid ((Tryz.prog.info? 34).map (·.size)=some 4):=by show _=_;kernel_rfl
 have HW0:Hid (Below w.heap.size w (w.alloc (.cells #[.slice none 0 0,.slice none 0 0,.int .i64 0,.slice none 0 0] 34)).drew):=by
  have h1:Below w.heap.size w (w.alloc (.cells #[.slice none 0 0,.slice none 0 0,.int .i64 0,.slice none 0 0] 34)):=(Below.refl _ _).alloc (Nat.le_refl _) _;exact⟨h1.os,h1.tape,h1.output,h1.size,h1.block⟩
 have HR0:Hid ((w.alloc (.cells #[.slice none 0 0,.slice none 0 0,.int .i64 0,.slice none 0 0] 34)).drew.heap[w.heap.size]?=some (.cells #[.slice none 0 0,.slice none 0 0,.int .i64 0,.slice none 0 0] 34 (0,0))):=heap_alloc_new w _
 clear hh c2 c3
 go_enter Tryz.func38,Tryz.ntmps38
 go_wp2_with fail
 refine wp_region_any (by kernel_rfl) ?_
 refine wpAny_slotsU (fun i a b=>if i=14 then Wr (w.heap.size) a b else Below a.heap.size a b) (frame:=(fun (a b c:Value)=>fun (t:Nat→Value)=>({ tmps:=List.toArray [a,b,c,t 0,t 1,t 2,t 3,t 4,t 5,t 6,t 7,t 8,t 9,t 10,t 11,t 12,t 13],defers:=[] }:Act)) _ _ _)
  (Ext:=fun L u w'=>ApS w (w.heap.size) 14 34 #[.slice none 0 0,.slice none 0 0,.int .i64 0,.slice none 0 0] (fun _ cs=>cs=#[.slice aD nD cD,.slice aU nU cU,.int .i64 nU,.slice none 0 0]) [] L u w') (Good:=fun i L w' v=>if i=0 then v=.pointer (some ⟨h,1,none⟩) else if i=1 then v=.pointer (some ⟨h,1,none⟩) else if i=2 then v=.pointer (some ⟨h,3,none⟩) else if i=3 then v=.slice aD nD cD else if i=4 then v=.pointer (some ⟨h,1,none⟩) else if i=5 then v=.pointer (some ⟨h,1,none⟩) else if i=6 then v=.pointer (some ⟨h,4,none⟩) else if i=7 then v=.slice aU nU cU else if i=8 then v=.pointer (some ⟨h,1,none⟩) else if i=9 then v=.pointer (some ⟨h,1,none⟩) else if i=10 then v=.pointer (some ⟨h,4,none⟩) else if i=11 then v=.slice aU nU cU else if i=12 then v=.int .i64 nU else if i=13 then v=.agg #[.slice aD nD cD,.slice aU nU cU,.int .i64 nU,.slice none 0 0] else if i=14 then L 14=true else True) ?hstab (by kernel_rfl) ?hop ?hdone _ _ ((fun (x0 x1 x2 x3 x4 x5 x6 x7 x8 x9 x10 x11 x12 x13:Value)=>fun (i:Nat)=>if i=0 then x0 else if i=1 then x1 else if i=2 then x2 else if i=3 then x3 else if i=4 then x4 else if i=5 then x5 else if i=6 then x6 else if i=7 then x7 else if i=8 then x8 else if i=9 then x9 else if i=10 then x10 else if i=11 then x11 else if i=12 then x12 else if i=13 then x13 else undef) _ _ _ _ _ _ _ _ _ _ _ _ _ _) _ (by simp) ?ext ?start (by simp)
 case start=>intro i hi h;exact absurd h (by rw[Array.getD_eq_getD_getElem?,Array.getElem?_replicate];split<;>simp)
 case ext=>exact ApS.start ⟨HW0.out,fun p _ hp=>absurd hp (by rw[Array.getD_eq_getD_getElem?,Array.getElem?_replicate];split<;>simp),fun p _ q _ _ hp=>absurd hp (by rw[Array.getD_eq_getD_getElem?,Array.getElem?_replicate];split<;>simp)⟩ (fun i=>by rw[Array.getD_eq_getD_getElem?,Array.getElem?_replicate];split<;>rfl) HR0.out
 case hstab=>
  intro j L w9 w' i v hM hij hLi h;by_cases hl:j=14
  ·subst hl;simp at h ⊢;unfold updK;simp[h]
  simp only[if_neg hl] at h ⊢;exact h
 case hop=>
  intro i o L t w' ho hLi hx hdep K hK;have hi:i<15:=(Array.getElem?_eq_some_iff.1 ho).1;obtain rfl|rfl|rfl|rfl|rfl|rfl|rfl|rfl|rfl|rfl|rfl|rfl|rfl|rfl|rfl:i=0∨i=1∨i=2∨i=3∨i=4∨i=5∨i=6∨i=7∨i=8∨i=9∨i=10∨i=11∨i=12∨i=13∨i=14:=by omega
  all_goals(simp at ho;subst ho)
  ·clear hdep;have hK':=hK w' (.pointer (some ⟨h,1,none⟩)) (by simp) (hx.step (fun _ _ _ _ h=>h) 0 (by decide) _ (Below.refl _ _) (fun h=>absurd h (by decide))) (by rw[if_neg (by decide)];exact(Below.refl _ _));clear hK;rw[if_pos (by rfl)];go_simp;simpa[upd] using hK'
  ·have d0:t 0=.pointer (some ⟨h,1,none⟩):=by simpa using(hdep ⟨0,.data⟩ (by simp) rfl).2
   clear hdep;have hK':=hK w' (.pointer (some ⟨h,1,none⟩)) (by simp) (hx.step (fun _ _ _ _ h=>h) 1 (by decide) _ (Below.refl _ _) (fun h=>absurd h (by decide))) (by rw[if_neg (by decide)];exact(Below.refl _ _));clear hK;rw[if_pos (by rfl)];go_simp;simpa[upd,d0] using hK'
  ·have d1:t 1=.pointer (some ⟨h,1,none⟩):=by simpa using(hdep ⟨1,.data⟩ (by simp) rfl).2
   clear hdep;have hK':=hK w' (.pointer (some ⟨h,3,none⟩)) (by simp) (hx.step (fun _ _ _ _ h=>h) 2 (by decide) _ (Below.refl _ _) (fun h=>absurd h (by decide))) (by rw[if_neg (by decide)];exact(Below.refl _ _));clear hK;rw[if_pos (by rfl)];go_simp;simpa[upd,d1] using hK'
  ·have d2:t 2=.pointer (some ⟨h,3,none⟩):=by simpa using(hdep ⟨2,.data⟩ (by simp) rfl).2
   clear hdep;have cc:w'.cell? ⟨h,3,none⟩=some (.slice aD nD cD):=by rw[World.cell?_of_block (a:=⟨h,3,none⟩) (w:=w) (hx.ax.below.block _ HH.out.1)];exact HH.out.2.1
   have hK':=hK w' (.slice aD nD cD) (by simp) (hx.step (fun _ _ _ _ h=>h) 3 (by decide) _ (Below.refl _ _) (fun h=>absurd h (by decide))) (by rw[if_neg (by decide)];exact(Below.refl _ _));clear hK;rw[if_pos (by rfl)];go_simp;simpa[upd,d2] using hK'
  ·clear hdep;have hK':=hK w' (.pointer (some ⟨h,1,none⟩)) (by simp) (hx.step (fun _ _ _ _ h=>h) 4 (by decide) _ (Below.refl _ _) (fun h=>absurd h (by decide))) (by rw[if_neg (by decide)];exact(Below.refl _ _));clear hK;rw[if_pos (by rfl)];go_simp;simpa[upd] using hK'
  ·have d4:t 4=.pointer (some ⟨h,1,none⟩):=by simpa using(hdep ⟨4,.data⟩ (by simp) rfl).2
   clear hdep;have hK':=hK w' (.pointer (some ⟨h,1,none⟩)) (by simp) (hx.step (fun _ _ _ _ h=>h) 5 (by decide) _ (Below.refl _ _) (fun h=>absurd h (by decide))) (by rw[if_neg (by decide)];exact(Below.refl _ _));clear hK;rw[if_pos (by rfl)];go_simp;simpa[upd,d4] using hK'
  ·have d5:t 5=.pointer (some ⟨h,1,none⟩):=by simpa using(hdep ⟨5,.data⟩ (by simp) rfl).2
   clear hdep;have hK':=hK w' (.pointer (some ⟨h,4,none⟩)) (by simp) (hx.step (fun _ _ _ _ h=>h) 6 (by decide) _ (Below.refl _ _) (fun h=>absurd h (by decide))) (by rw[if_neg (by decide)];exact(Below.refl _ _));clear hK;rw[if_pos (by rfl)];go_simp;simpa[upd,d5] using hK'
  ·have d6:t 6=.pointer (some ⟨h,4,none⟩):=by simpa using(hdep ⟨6,.data⟩ (by simp) rfl).2
   clear hdep;have cc:w'.cell? ⟨h,4,none⟩=some (.slice aU nU cU):=by rw[World.cell?_of_block (a:=⟨h,4,none⟩) (w:=w) (hx.ax.below.block _ HH.out.1)];exact HH.out.2.2
   have hK':=hK w' (.slice aU nU cU) (by simp) (hx.step (fun _ _ _ _ h=>h) 7 (by decide) _ (Below.refl _ _) (fun h=>absurd h (by decide))) (by rw[if_neg (by decide)];exact(Below.refl _ _));clear hK;rw[if_pos (by rfl)];go_simp;simpa[upd,d6] using hK'
  ·clear hdep;have hK':=hK w' (.pointer (some ⟨h,1,none⟩)) (by simp) (hx.step (fun _ _ _ _ h=>h) 8 (by decide) _ (Below.refl _ _) (fun h=>absurd h (by decide))) (by rw[if_neg (by decide)];exact(Below.refl _ _));clear hK;rw[if_pos (by rfl)];go_simp;simpa[upd] using hK'
  ·have d8:t 8=.pointer (some ⟨h,1,none⟩):=by simpa using(hdep ⟨8,.data⟩ (by simp) rfl).2
   clear hdep;have hK':=hK w' (.pointer (some ⟨h,1,none⟩)) (by simp) (hx.step (fun _ _ _ _ h=>h) 9 (by decide) _ (Below.refl _ _) (fun h=>absurd h (by decide))) (by rw[if_neg (by decide)];exact(Below.refl _ _));clear hK;rw[if_pos (by rfl)];go_simp;simpa[upd,d8] using hK'
  ·have d9:t 9=.pointer (some ⟨h,1,none⟩):=by simpa using(hdep ⟨9,.data⟩ (by simp) rfl).2
   clear hdep;have hK':=hK w' (.pointer (some ⟨h,4,none⟩)) (by simp) (hx.step (fun _ _ _ _ h=>h) 10 (by decide) _ (Below.refl _ _) (fun h=>absurd h (by decide))) (by rw[if_neg (by decide)];exact(Below.refl _ _));clear hK;rw[if_pos (by rfl)];go_simp;simpa[upd,d9] using hK'
  ·have d10:t 10=.pointer (some ⟨h,4,none⟩):=by simpa using(hdep ⟨10,.data⟩ (by simp) rfl).2
   clear hdep;have cc:w'.cell? ⟨h,4,none⟩=some (.slice aU nU cU):=by rw[World.cell?_of_block (a:=⟨h,4,none⟩) (w:=w) (hx.ax.below.block _ HH.out.1)];exact HH.out.2.2
   have hK':=hK w' (.slice aU nU cU) (by simp) (hx.step (fun _ _ _ _ h=>h) 11 (by decide) _ (Below.refl _ _) (fun h=>absurd h (by decide))) (by rw[if_neg (by decide)];exact(Below.refl _ _));clear hK;rw[if_pos (by rfl)];go_simp;simpa[upd,d10] using hK'
  ·have d11:t 11=.slice aU nU cU:=by simpa using(hdep ⟨11,.data⟩ (by simp) rfl).2
   clear hdep;have hK':=hK w' (.int .i64 nU) (by simp) (hx.step (fun _ _ _ _ h=>h) 12 (by decide) _ (Below.refl _ _) (fun h=>absurd h (by decide))) (by rw[if_neg (by decide)];exact(Below.refl _ _));clear hK;rw[if_pos (by rfl)];go_simp;simpa[upd,d11] using hK'
  ·have d3:t 3=.slice aD nD cD:=by simpa using(hdep ⟨3,.data⟩ (by simp) rfl).2
   have d7:t 7=.slice aU nU cU:=by simpa using(hdep ⟨7,.data⟩ (by simp) rfl).2
   have d12:t 12=.int .i64 nU:=by simpa using(hdep ⟨12,.data⟩ (by simp) rfl).2
   clear hdep;have hK':=hK w' (.agg #[.slice aD nD cD,.slice aU nU cU,.int .i64 nU,.slice none 0 0]) (by simp) (hx.step (fun _ _ _ _ h=>h) 13 (by decide) _ (Below.refl _ _) (fun h=>absurd h (by decide))) (by rw[if_neg (by decide)];exact(Below.refl _ _));clear hK;rw[if_pos (by rfl)];go_simp;simpa[upd,d3,d7,d12] using hK'
  ·have d13:t 13=.agg #[.slice aD nD cD,.slice aU nU cU,.int .i64 nU,.slice none 0 0]:=by simpa using(hdep ⟨13,.data⟩ (by simp) rfl).2
   clear hdep;have hrs:=hx.pre hLi;have hK':∀ ww,Wr w.heap.size w' ww→ww.heap[w.heap.size]?=some (.cells #[.slice aD nD cD,.slice aU nU cU,.int .i64 nU,.slice none 0 0] 34 (0,0))→K _ ww:=fun ww hw hr=>hK ww undef (by simp[updK]) (hx.put (Nat.le_refl _) (by decide) _ hw hr rfl) (by rw[if_pos rfl];exact hw)
   clear hK;rw[if_pos (by rfl)];refine wp_store_row 34 (.tmp 2) (.tmp 16) rfl w.heap.size _ rfl d13 34 _ hrs HSZ.out rfl (by simp[Value.oneCell']) ?_;have hK2:=hK' _ (Wr.setRow _ _ _) (setRow_heap _ _ _ _ _ _ hrs);clear hK';simpa[upd,Act.put] using hK2
 case hdone=>
  intro L t w' hx hg;have l14:L 14=true:=by simpa using hg 14 (by decide)
  clear hg;obtain⟨cs,hr,rfl⟩:=hx.fin l14;have HR9:Hid (w'.heap[w.heap.size]?=some (.cells #[.slice aD nD cD,.slice aU nU cU,.int .i64 nU,.slice none 0 0] 34 (0,0))):=hr;have HF:Hid (Below w.heap.size w w'):=hx.ax.below;clear hx hr;go_wp2_with fail;exact bodyPost_ret (v:=.agg #[.slice aD nD cD,.slice aU nU cU,.int .i64 nU,.slice none 0 0]) (results_cell_row rfl _ _ w.heap.size 34 _ (0,0) _ rfl HR9.out Tryz.underlying34 rfl HSZ.out) rfl ⟨rfl,HF.out⟩
end Go.Proofs.YthmeoilbmfdhfaaGreat
