import Derived.Test.YthmeoilbmfdhfaaGreatMSvC
open Go.Value renaming slice->UD,int->UE
open Go.IntKind renaming i64->UO
open Go.Obj renaming cells->UP
open Option renaming some->UI,none->UJ
namespace Go.Proofs.YthmeoilbmfdhfaaGreat
set_option maxHeartbeats 8000000
set_option maxRecDepth 100000
open Go.ChangeShapes Go.WideShapes Go.ChangeAt Go.RowKit
set_option linter.unusedVariables false
open Classical in
noncomputable def E9 (v:Int) (xs:List Int):Bool:=decide (v∈xs)
theorem FM {v:Int} {xs:List Int} (h:¬ v∈xs):E9 v xs=false:=by unfold E9;simp[h]
theorem FZ {v:Int} {xs:List Int} (h:v∈xs):E9 v xs=true:=by unfold E9;simp[h]
theorem Iu {xs:List Int} {k:Nat} (h:k<xs.length):xs.getD k 0∈xs:=by
 rw[Ao,BK h];exact Ba h
theorem Dm (a:Option Addr) (n cap:Nat) (xs:List Int) (v:Int) (w:World) (hn:xs.length=n) (hm:n<=1048576) (ha:At UO w a xs) :
  Calls Tryz.prog 124 #[UD a n cap,UE UO v] w λe w'=>e=.returned (.bool (E9 v xs))/\w'=w:=by
 have HNX:AP (xs.length=n):=hn;have HA:AP (At UO w a xs):=ha;clear hn ha;go_enter Tryz.func124,Tryz.ntmps124;go_wp2
 go_loop [5] (λi=>∃ k:Nat,k<=n/\i=UE UO k/\AP (∀ j,j<k->xs.getD j 0≠v)) (λi=>n-(intOf i).toNat)
 case atStart=>exact⟨0,Aj _,rfl,λj hj=>AK⟩
 case round=>
  obtain⟨k,hk,rfl,hno⟩:=hrel;by_cases hlt:k<n
  ·have hlt':(k:Int)<n:=AK
   obtain⟨b,off,ea,hb,hc⟩:=HA.o.get (AG HNX.o);subst ea;have hck:=hc k (AG HNX.o);by_cases he:xs.getD k 0=v
   ·have HM:AP (E9 v xs=true):=FZ (by rw[<-he];exact Iu (AG HNX.o));rw[he] at hck;clear hc he hb;go_wp2
    go_ret
    exact⟨by rw[HM.o];rfl,rfl⟩
   ·have HN:AP (∀ j,j<k+1->xs.getD j 0≠v):=λj hj=>by
     by_cases hjk:j<k
     ·exact hno.o j hjk
     ·have:j=k:=AK
      rw[this];exact he
    have he':(xs.getD k 0 == v)=false:=by simpa using he
    clear hc hb hno he;generalize xs.getD k 0=x at *;go_wp2
    go_round
    case rel=>exact⟨k+1,AK,by go_num,HN⟩
    case measure=>simp[intOf];omega
  ·have hlt':¬ ((k:Int)<n):=AK
   have HM:AP (E9 v xs=false):=FM (λh=>by
    obtain⟨i,hi,rfl⟩:=CP h;have:=hno.o i (AG HNX.o);rw[Ao,BK hi] at this;exact this rfl)
   go_wp2
   go_ret
   exact⟨by rw[HM.o];rfl,rfl⟩
theorem Ef (a:Option Addr) (n cap:Nat) (xs:List Int) (w:World) (hn:xs.length=n) (hm:n<=1048576) (ha:At UO w a xs) :
  Calls Tryz.prog 144 #[UD a n cap] w λe w'=>e=.returned (.bool (Fl xs))/\∃ q,w'=w.drewN q:=by
 have HNX:AP (xs.length=n):=hn;have HA:AP (At UO w a xs):=ha;clear hn ha;go_enter Tryz.func144,Tryz.ntmps144;go_wp2
 go_loopw [3] (λi wr=>∃ k:Nat,k<=n/\i=UE UO k/\AP (∀ j,j<k->QL xs j)/\AP (∃ q,wr=w.drewN q)) (λi _=>n-(intOf i).toNat)
 case atStart=>exact⟨0,Aj _,rfl,λj hj=>AK,⟨0,rfl⟩⟩
 case round=>
  obtain⟨k,hk,rfl,hno,hwq⟩:=hrel;obtain⟨q,rfl⟩:=hwq.o;clear hwq;by_cases hlt:k<n
  ·have hlt':(k:Int)<n:=AK
   obtain⟨b,off,ea,hb,hc⟩:=HA.o.get (AG HNX.o);subst ea;have hck:=hc k (AG HNX.o);by_cases h0:xs.getD k 0<0
   ·have HS:AP (Fl xs=false):=F5 (λh=>by have:=(h k (by have:=HNX.o;omega)).1;omega);clear hc hb hno;generalize xs.getD k 0=x at *;go_wp2_with fail
    go_quiet (fail)
    go_wp2
    go_ret
    exact⟨by rw[HS.o];rfl,q+nq,dN _ _ _⟩
   ·have h0':decide (xs.getD k 0<0)=false:=Ar h0;by_cases h1:256<=xs.getD k 0
    ·have HS:AP (Fl xs=false):=F5 (λh=>by have:=(h k (by have:=HNX.o;omega)).2.1;omega);clear hc hb hno h0;generalize xs.getD k 0=x at *;go_wp2_with fail
     go_quiet (fail)
     go_wp2
     go_ret
     exact⟨by rw[HS.o];rfl,q+nq,dN _ _ _⟩
    ·have h1':decide (256<=xs.getD k 0)=false:=Ar h1;by_cases hk0:0<k
     ·obtain⟨m,rfl⟩:∃ m,k=m+1:=⟨k-1,AK⟩
      have hck1:=hc m (AG HNX.o);have hk0':(0:Int)<((m+1:Nat):Int):=AK
      by_cases h2:xs.getD (m+1) 0<=xs.getD m 0
      ·have HS:AP (Fl xs=false):=F5 (λh=>by have:=(h (m+1) (by have:=HNX.o;omega)).2.2 AK;rw[B7] at this;omega);clear hc hb hno h0 h1 hk0;generalize xs.getD (m+1) 0=x at *;generalize xs.getD m 0=y at *;go_wp2_with fail
       go_quiet (fail)
       go_wp2
       go_ret
       exact⟨by rw[HS.o];rfl,q+nq,dN _ _ _⟩
      ·have h2':decide (xs.getD (m+1) 0<=xs.getD m 0)=false:=Ar h2;have HN:AP (∀ j,j<m+1+1->QL xs j):=λj hj=>by
        by_cases hjk:j<m+1
        ·exact hno.o j hjk
        ·have:j=m+1:=AK
         rw[this];exact⟨AK,AK,λ_=>by rw[B7];omega⟩
       clear hc hb hno h0 h1 hk0 h2;generalize xs.getD (m+1) 0=x at *;generalize xs.getD m 0=y at *;go_wp2_with fail
       go_quiet (fail)
       go_wp2;go_roundw
       case rel=>exact⟨m+1+1,AK,by go_num,HN,⟨q+nq,rfl⟩⟩
       case measure=>simp[intOf];omega
     ·have hkd:decide (0<k)=false:=Ar AK;have HN:AP (∀ j,j<k+1->QL xs j):=λj hj=>by
       have:j=k:=AK
       rw[this];exact⟨AK,AK,λh=>AK⟩
      clear hc hb hno h0 h1 hk0;generalize xs.getD k 0=x at *;go_wp2_with fail
      go_quiet (fail)
      go_wp2;go_roundw
      case rel=>exact⟨k+1,AK,by go_num,HN,⟨q+nq,rfl⟩⟩
      case measure=>simp[intOf];omega
  ·have hlt':¬ ((k:Int)<n):=AK
   have HS:AP (Fl xs=true):=E6 (λi hi=>hno.o i (AG HNX.o));go_wp2
   go_ret
   exact⟨by rw[HS.o];rfl,q,rfl⟩
structure Lq (w:World) (sc:Array Value) (wr:World):Prop where
 below:Below w.heap.size w wr
 box:wr.heap[w.heap.size]?=UI (UP sc 34 (0,0))
theorem Lq.lt {w wr:World} {sc:Array Value} (h:Lq w sc wr):w.heap.size<wr.heap.size:=(AQ.1 h.box).1
theorem Lq.call {w wr w':World} {sc:Array Value} (h:Lq w sc wr) (b:Below wr.heap.size wr w'):Lq w sc w':=⟨h.below.trans (b.mono h.below.size),by rw[b.block _ h.lt];exact h.box⟩
theorem Lq.drew {w wr:World} {sc:Array Value} (h:Lq w sc wr) (q:Nat):Lq w sc (wr.drewN q):=⟨ET h.below q,h.box⟩
theorem Qf (aD aU aT:Option Addr) (nD cD nU cU nT cT:Nat) (D U:List Int) (k:Int) (T:List Int) (w:World) (hD:D.length=nD) (hU:U.length=nU) (hT:T.length=nT*2) (mD:nD<=1048576) (mU:nU<=1048576) (mT:nT<=1048576)
  (haD:At UO w aD D) (haU:At UO w aU U) (haT:At UO w aT T) (hk0:-9223372036854775808<=k) (hk1:k<9223372036854775808) :
  Calls Tryz.prog 122 #[.agg #[UD aD nD cD,UD aU nU cU,UE UO k,UD aT nT cT]] w λe w'=>e=.returned (.bool (GI D U k T nT))/\Below w.heap.size w w':=by
 have HE0:AP (Lq w #[UD aD nD cD,UD aU nU cU,UE UO k,UD aT nT cT] (w.alloc (UP #[UD aD nD cD,UD aU nU cU,UE UO k,UD aT nT cT] 34))):=⟨Cs.alloc Cw _,AV w _⟩
 have HAD:AP (At UO w aD D):=haD;have HAU:AP (At UO w aU U):=haU;have HAT:AP (At UO w aT T):=haT;have HLT:AP (T.length=nT*2):=hT;have HLN:AP (D.length=nD/\U.length=nU):=⟨hD,hU⟩
 have HKB:AP (-9223372036854775808<=k/\k<9223372036854775808):=⟨hk0,hk1⟩
 clear haD haU haT hT hD hU hk0 hk1;go_enter Tryz.func122,Tryz.ntmps122;go_wp2_with fail;generalize (w.alloc (UP #[UD aD nD cD,UD aU nU cU,UE UO k,UD aT nT cT] 34))=w0 at *;refine(Ef aD nD cD D _ HLN.o.1 mD (HAD.o.below HE0.o.below)).mono ?_;rintro e w1' ⟨rfl,q1,rfl⟩;have HE1:AP (Lq w #[UD aD nD cD,UD aU nU cU,UE UO k,UD aT nT cT] (w0.drewN q1)):=HE0.o.drew q1;clear HE0;generalize w0.drewN q1=w1 at *;have HB:AP (Below w.heap.size w w1):=HE1.o.below;have c0:w1.cell? ⟨w.heap.size,0,UJ⟩=UI (UD aD nD cD):=by rw[AA HE1.o.box 0];rfl
 have c1:w1.cell? ⟨w.heap.size,1,UJ⟩=UI (UD aU nU cU):=by rw[AA HE1.o.box 1];rfl
 cases hsD:Fl D with
 |false=>
  have HPD:AP (¬ Dj D):=λh=>by rw[E6 h] at hsD;cases hsD
  have HFB:AP (GI D U k T nT=false):=ES (λh=>HPD.o h.1);go_wp2
  go_ret
  exact⟨by rw[HFB.o];rfl,HB.o⟩
 |true=>
 have HPD:AP (Dj D):=(Hi D).1 hsD;by_cases h16:nD<=16
 ·have h16':decide ((16:Int)<(nD:Int))=false:=Ar AK;go_wp2_with fail;refine(Ef aU nU cU U _ HLN.o.2 mU (HAU.o.below HE1.o.below)).mono ?_;rintro e w2' ⟨rfl,q2,rfl⟩;have HE2:AP (Lq w #[UD aD nD cD,UD aU nU cU,UE UO k,UD aT nT cT] (w1.drewN q2)):=HE1.o.drew q2;clear HE1 HB c0 c1;generalize w1.drewN q2=w2 at *;have HB:AP (Below w.heap.size w w2):=HE2.o.below;have c1:w2.cell? ⟨w.heap.size,1,UJ⟩=UI (UD aU nU cU):=by rw[AA HE2.o.box 1];rfl
  have c2:w2.cell? ⟨w.heap.size,2,UJ⟩=UI (UE UO k):=by rw[AA HE2.o.box 2];rfl
  have c3:w2.cell? ⟨w.heap.size,3,UJ⟩=UI (UD aT nT cT):=by rw[AA HE2.o.box 3];rfl
  cases hsU:Fl U with
  |false=>
   have HPU:AP (¬ Dj U):=λh=>by rw[E6 h] at hsU;cases hsU
   have HFB:AP (GI D U k T nT=false):=ES (λh=>HPU.o h.2.2.1);go_wp2
   go_ret
   exact⟨by rw[HFB.o];rfl,HB.o⟩
  |true=>
  have HPU:AP (Dj U):=(Hi U).1 hsU;by_cases hk:k<0
  ·have HK9:AP (k<0):=hk;have hkb:decide (k<0)=true:=BJ hk;clear hk c1 c3;have HFB:AP (GI D U k T nT=false):=ES (λh=>AI h.2.2.2.1 HK9.o);go_wp2
   go_ret
   exact⟨by rw[HFB.o];rfl,HB.o⟩
  ·have HK9:AP (0<=k):=by show _<=_;omega
   have hkb:decide (k<0)=false:=Ar hk;by_cases hka:k+(nT:Int)=nU
   ·have HKA:AP (k+nT=U.length):=by show _=_;rw[HLN.o.2];exact hka
    have hwr:IntKind.i64.wrap (k+(nT:Int))=(nU:Int):=by rw[As];omega
    have hwr2:wrap64 (k+(nT:Int))=(nU:Int):=by unfold wrap64;omega
    clear hka hk;go_wp2_with fail;clear HB c1 c2 c3 hwr hwr2 hkb h16' hsD hsU
    go_loopw [3] (λi wr=>∃ m:Nat,m<=nT/\i=UE UO m/\Lq w #[UD aD nD cD,UD aU nU cU,UE UO k,UD aT nT cT] wr/\AP (∀ j,j<m->Jq U T j)) (λi _=>nT-(intOf i).toNat)
    case atStart=>exact⟨0,Aj _,rfl,HE2.o,λj hj=>AK⟩
    case round=>
     clear HE2;obtain⟨m,hm,rfl,hE,hno⟩:=hrel;have c1:wr.cell? ⟨w.heap.size,1,UJ⟩=UI (UD aU nU cU):=by rw[AA hE.box 1];rfl
     have c3:wr.cell? ⟨w.heap.size,3,UJ⟩=UI (UD aT nT cT):=by rw[AA hE.box 3];rfl
     have HE:AP (Lq w #[UD aD nD cD,UD aU nU cU,UE UO k,UD aT nT cT] wr):=hE;clear hE;by_cases hlt:m<nT
     ·have hlt':(m:Int)<nT:=AK
      obtain⟨b,off,ea,hb,hc⟩:=(HAT.o.below HE.o.below).get (AG HLT.o);have t0:=hc (m*2) (AG HLT.o);have t1:=hc (m*2+1) (AG HLT.o);rw[<-Ap] at t1;subst ea;have HCT:AP (∀ j,j<nT->wr.cell? ⟨b,off+j*2,UJ⟩=UI (UE UO (T.getD (j*2) 0))):=λj hj=>hc (j*2) (AG HLT.o)
      have HBL:AP (b<wr.heap.size):=hb;have HTI:AP (Jq U T m↔(T.getD (m*2) 0∈U/\(0<=T.getD (m*2+1) 0/\T.getD (m*2+1) 0<=4294967295)/\∀ j,j<m->T.getD (j*2) 0≠T.getD (m*2) 0)):=Iff.rfl;generalize T.getD (m*2) 0=s at *;generalize T.getD (m*2+1) 0=nw at *;have b1:Below wr.heap.size wr (wr.alloc (UP #[UE UO s,UE UO nw] 133)):=Cs.alloc Cw _;have HEW:AP (Lq w #[UD aD nD cD,UD aU nU cU,UE UO k,UD (UI ⟨b,off,UJ⟩) nT cT] (wr.alloc (UP #[UE UO s,UE UO nw] 133))):=HE.o.call b1;have HBW:AP (Below w.heap.size w (wr.alloc (UP #[UE UO s,UE UO nw] 133))):=HEW.o.below;have HRT:AP ((wr.alloc (UP #[UE UO s,UE UO nw] 133)).heap[wr.heap.size]?=UI (UP #[UE UO s,UE UO nw] 133 (0,0))):=AV wr _;have HCW:AP (∀ j,j<nT->(wr.alloc (UP #[UE UO s,UE UO nw] 133)).cell? ⟨b,off+j*2,UJ⟩=UI (UE UO (T.getD (j*2) 0))):=λj hj=>by rw[b1.cell (p:=⟨b,off+j*2,UJ⟩) HBL.o];exact HCT.o j hj
      have d1:(wr.alloc (UP #[UE UO s,UE UO nw] 133)).cell? ⟨w.heap.size,1,UJ⟩=UI (UD aU nU cU):=by rw[AA HEW.o.box 1];rfl
      have d3:(wr.alloc (UP #[UE UO s,UE UO nw] 133)).cell? ⟨w.heap.size,3,UJ⟩=UI (UD (UI ⟨b,off,UJ⟩) nT cT):=by rw[AA HEW.o.box 3];rfl
      clear hc hb b1 HCT;by_cases hn0:nw<0
      ·have hn0':decide (nw<0)=true:=BJ hn0;have HX:AP (nw<0):=hn0;clear hn0;have HFB:AP (GI D U k T nT=false):=ES (λh=>AI (HTI.o.1 (h.2.2.2.2.2 m hlt)).2.1.1 HX.o);go_wp2
       go_ret
       exact⟨by rw[HFB.o];rfl,HBW.o⟩
      ·have hn0':decide (nw<0)=false:=Ar hn0;by_cases hn1:4294967295<nw
       ·have hn1':decide (4294967295<nw)=true:=BJ hn1;have HX:AP (4294967295<nw):=hn1;clear hn1 hn0;have HFB:AP (GI D U k T nT=false):=ES (λh=>AI (HTI.o.1 (h.2.2.2.2.2 m hlt)).2.1.2 HX.o);go_wp2
        go_ret
        exact⟨by rw[HFB.o];rfl,HBW.o⟩
       ·have hn1':decide (4294967295<nw)=false:=Ar hn1;have HNW:AP (0<=nw/\nw<=4294967295):=⟨AK,AK⟩
        clear hn0 hn1;go_wp2_with fail;refine(Dm aU nU cU U s _ HLN.o.2 mU (HAU.o.below HBW.o)).mono ?_;rintro e w5 ⟨rfl,rfl⟩;by_cases hin:s∈U
        ·rw[FZ hin];have HIN:AP (s∈U):=hin;clear hin;have d0:(wr.alloc (UP #[UE UO s,UE UO nw] 133)).cell? ⟨wr.heap.size,0,UJ⟩=UI (UE UO s):=by rw[AA HRT.o 0];rfl
         have t0':=HCW.o m hlt;clear t0 t1 t0' c1 c3;go_wp2_with fail;generalize wr.alloc (UP #[UE UO s,UE UO nw] 133)=W at *
         go_loopw [5] (λi wq=>∃ j:Nat,j<=m/\i=UE UO j/\AP (∃ p,wq=W.drewN p)/\AP (∀ l,l<j->T.getD (l*2) 0≠s)) (λi _=>m-(intOf i).toNat)
         case atStart=>exact⟨0,Aj _,rfl,⟨0,rfl⟩,λl hl=>AK⟩
         case round=>
          obtain⟨j,hj,rfl,hwp,hne⟩:=hrel;obtain⟨p,rfl⟩:=hwp.o;clear hwp;by_cases hjm:j<m
          ·have hjm':(j:Int)<m:=AK
           have hjn:(j:Int)<nT:=AK
           have tj:=HCW.o j AK;by_cases hes:T.getD (j*2) 0=s
           ·have HX:AP (T.getD (j*2) 0=s):=hes;have HBQ:AP (∀ n,Below w.heap.size w ((W.drewN p).drewN n)):=λn=>ET (ET HBW.o p) n
            rw[hes] at tj;clear hes;have HFB:AP (GI D U k T nT=false):=ES (λh=>(HTI.o.1 (h.2.2.2.2.2 m hlt)).2.2 j hjm HX.o);go_wp2_with fail
            go_quiet (fail)
            go_wp2
            go_ret
            exact⟨by rw[HFB.o];rfl,by first|exact HBQ.o _|exact ET HBW.o _⟩
           ·have HN:AP (∀ l,l<j+1->T.getD (l*2) 0≠s):=λl hl=>by
             by_cases hlj:l<j
             ·exact hne.o l hlj
             ·have:l=j:=AK
              rw[this];exact hes
            have hes':(T.getD (j*2) 0 == s)=false:=by simpa using hes
            clear hes hne;generalize T.getD (j*2) 0=y at *;go_wp2_with fail
            go_quiet (fail)
            go_wp2;go_roundw
            case rel=>exact⟨j+1,AK,by go_num,by first|exact⟨_,rfl⟩|exact⟨_,dN _ _ _⟩,HN⟩
            case measure=>simp[intOf];omega
          ·have hjm':¬ ((j:Int)<m):=AK
           have HN:AP (∀ l,l<m+1->Jq U T l):=λl hl=>by
            by_cases hlm:l<m
            ·exact hno.o l hlm
            ·have e:l=m:=AK
             subst e;exact HTI.o.2 ⟨HIN.o,HNW.o,λl' hl'=>hne.o l' AK⟩
           have HEQ:AP (Lq w #[UD aD nD cD,UD aU nU cU,UE UO k,UD (UI ⟨b,off,UJ⟩) nT cT] (W.drewN p)):=HEW.o.drew p;go_wp2;go_roundw
           case rel=>exact⟨m+1,AK,by go_num,HEQ.o,HN⟩
           case measure=>simp[intOf];omega
        ·rw[FM hin];have HIN:AP (¬ s∈U):=hin;clear hin;have HFB:AP (GI D U k T nT=false):=ES (λh=>HIN.o (HTI.o.1 (h.2.2.2.2.2 m hlt)).1);go_wp2
         go_ret
         exact⟨by rw[HFB.o];rfl,HBW.o⟩
     ·have hlt':¬ ((m:Int)<nT):=AK
      have HYE:AP (GI D U k T nT=true):=Ho ⟨HPD.o,by rw[HLN.o.1];exact h16,HPU.o,HK9.o,HKA.o,λi hi=>hno.o i AK⟩;have HBW:AP (Below w.heap.size w wr):=HE.o.below;go_wp2
      go_ret
      exact⟨by rw[HYE.o];rfl,HBW.o⟩
   ·have HKN:AP (¬ k+(nT:Int)=nU):=hka;have hwr:(IntKind.i64.wrap (k+(nT:Int)) == (nU:Int))=false:=by
     have:=HKB.o;simp only[beq_eq_false_iff_ne,ne_eq];rw[As];omega
    have hwr2:(wrap64 (k+(nT:Int)) == (nU:Int))=false:=by
     have:=HKB.o;simp only[beq_eq_false_iff_ne,ne_eq];unfold wrap64;omega
    clear hka hk;have HFB:AP (GI D U k T nT=false):=ES (λh=>by have:=h.2.2.2.2.1;rw[HLN.o.2] at this;exact HKN.o this);go_wp2
    go_ret
    exact⟨by rw[HFB.o];rfl,HB.o⟩
 ·have h16':decide ((16:Int)<(nD:Int))=true:=BJ AK;have HFB:AP (GI D U k T nT=false):=ES (λh=>by have:=h.2.1;rw[HLN.o.1] at this;omega);go_wp2
  go_ret
  exact⟨by rw[HFB.o];rfl,HB.o⟩
end Go.Proofs.YthmeoilbmfdhfaaGreat
