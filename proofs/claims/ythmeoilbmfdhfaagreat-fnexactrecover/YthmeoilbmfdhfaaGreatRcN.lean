import Derived.Test.YthmeoilbmfdhfaaGreatRcJ
import Derived.Test.YthmeoilbmfdhfaaGreatRcI
open Go.Value renaming slice->UD,int->UE,bool->UF,agg->UN
namespace Go.Proofs.YthmeoilbmfdhfaaGreat
set_option maxHeartbeats 8000000
set_option maxRecDepth 100000
open Go.ChangeShapes Go.WideShapes Go.ChangeAt Go.RowKit
set_option linter.unusedVariables false
theorem Rp (a x:Option Addr) (c cx:Nat) (zs:List Int) (ps:List PD) (f:Int) (d:Bool) (ka:Option Addr) (kc:Nat) (ks:List Int) (w:World) (h:Ei w (UN #[UD a zs.length c,UD x ps.length cx,UE .i64 f,UF d]) zs ps f d) (hz:zs.length<=1048576) (hm:ps.length<=1048576) (hps:∀ i,(ps.getD i (0,[])).2.length<=1048576) (hc:¬ ((C5 zs.length ps f=true/\d=false/\ps=[])/\ks.length=32)) (R9:RO) (hR:(JD zs ps f d ks)=R9) :
  Calls Tryz.prog 23 #[UN #[UD a zs.length c,UD x ps.length cx,UE .i64 f,UF d],UD ka ks.length kc] w λe w'=>∃ X,e=.returned (UN X)/\RM w.heap.size w' X R9.c R9.z R9.p R9.k R9.f R9.d R9.r/\Below w.heap.size w w':=by
 have HO:AP (R9=IC 10):=by show _=_;rw[<-hR];unfold JD;rw[AS hc]
 have HX0:AP (RX w #[UD a zs.length c,UD x ps.length cx,UE .i64 f,UF d] ((w.alloc (.cells #[UD a zs.length c,UD x ps.length cx,UE .i64 f,UF d] 40)).alloc (.cells ER 50))):=RX.start _ _;have HVD:AP (∀ ww,Below w.heap.size w ww->Calls Tryz.prog 27 #[UN #[UD a zs.length c,UD x ps.length cx,UE .i64 f,UF d]] ww λe w'=>e=.returned (UF (C5 zs.length ps f))/\Below ww.heap.size ww w'):=λww b=>Fv _ zs ps f d ww (h.below b) hz hm hps
 have HNC:=Cq hc;clear h hz hm hps hc hR;go_enter Tryz.func23,Tryz.ntmps23
 go_upto_region 1 with fail
 change Code.wp _ _ _ _ ((w.alloc (.cells #[UD a zs.length c,UD x ps.length cx,UE .i64 f,UF d] 40)).alloc (.cells ER 50));generalize ((w.alloc (.cells #[UD a zs.length c,UD x ps.length cx,UE .i64 f,UF d] 40)).alloc (.cells ER 50))=w1 at *;go_wp2_with (first
  |(refine Ab rfl 40 (.tmp 2) rfl w.heap.size rfl 40 _ (0,0) _ HX0.o.b0 Tryz.underlying40 rfl Tryz.sizeDv ?_)
  |fail)
 refine(HVD.o w1 HX0.o.below).mono ?_;rintro e w2 ⟨rfl,b2⟩;have HX2:=Cq (HX0.o.call b2);clear b2 HX0 HVD;have k3:w2.cell? ⟨w.heap.size,3,none⟩=some (UF d):=by rw[AA HX2.o.b0 _];rfl
 have k1:w2.cell? ⟨w.heap.size,1,none⟩=some (UD x ps.length cx):=by rw[AA HX2.o.b0 _];rfl
 have hw9:=Wr.setRow (w.heap.size+1) w2 Cm;have HBEL:AP (Below w.heap.size w (w2.setRow (w.heap.size+1) Cm)):=HX2.o.below.trans (hw9.below AK);have HFIN:AP (RM w.heap.size (w2.setRow (w.heap.size+1) Cm) Cm R9.c R9.z R9.p R9.k R9.f R9.d R9.r):=by
  rw[HO.o];exact⟨Ci,rfl,GM.no _ _ HBEL.o.size⟩
 have HRES:=Cq (CY w2 (w.heap.size+1) _ Cm _ _ HX2.o.b1);have HB1:=Cq HX2.o.b1;clear hw9;obtain⟨V,hV⟩:∃ V,C5 zs.length ps f=V:=⟨_,rfl⟩
 rw[hV];clear HX2 HO;cases V with
 |false=>
  clear HNC hV;go_wp2_with (first
   |(refine AC 50 (.tmp 4) (.tmp 26) (w.heap.size+1) Cm 50 HB1.o Tryz.sizeR rfl (by simp[Value.oneCell']) ?_)
   |fail)
  (try simp only[Exit.inBlock,Exit.then])
  exact AZ (v:=UN Cm) (AW rfl _ _ (w.heap.size+1) 50 _ (0,0) _ rfl HRES.o Tryz.underlying50 rfl Tryz.sizeR) rfl ⟨_,rfl,HFIN.o,HBEL.o⟩
 |true=>
  cases d with
  |true=>
   clear HNC hV;go_wp2_with (first
    |(refine AC 50 (.tmp 4) (.tmp 26) (w.heap.size+1) Cm 50 HB1.o Tryz.sizeR rfl (by simp[Value.oneCell']) ?_)
    |fail)
   (try simp only[Exit.inBlock,Exit.then])
   exact AZ (v:=UN Cm) (AW rfl _ _ (w.heap.size+1) 50 _ (0,0) _ rfl HRES.o Tryz.underlying50 rfl Tryz.sizeR) rfl ⟨_,rfl,HFIN.o,HBEL.o⟩
  |false=>
   by_cases hp:ps=[]
   ·have hk:¬ ((ks.length:Int)=32):=λh=>HNC.o ⟨⟨hV,rfl,hp⟩,AK⟩
    have hk':((ks.length:Int) == 32)=false:=by simpa using hk
    rw[hp] at k1;clear hp HNC hV hk;go_wp2_with (first
     |(refine AC 50 (.tmp 4) (.tmp 26) (w.heap.size+1) Cm 50 HB1.o Tryz.sizeR rfl (by simp[Value.oneCell']) ?_)
     |fail)
    (try simp only[Exit.inBlock,Exit.then])
    exact AZ (v:=UN Cm) (AW rfl _ _ (w.heap.size+1) 50 _ (0,0) _ rfl HRES.o Tryz.underlying50 rfl Tryz.sizeR) rfl ⟨_,rfl,HFIN.o,HBEL.o⟩
   ·have hp0:0<ps.length:=List.length_pos_iff.2 hp;clear hp HNC hV;generalize ps.length=m at *;have hp1:(0:Int)<(m:Int):=AK
    go_wp2_with (first
     |(refine AC 50 (.tmp 4) (.tmp 26) (w.heap.size+1) Cm 50 HB1.o Tryz.sizeR rfl (by simp[Value.oneCell']) ?_)
     |fail)
    (try simp only[Exit.inBlock,Exit.then])
    exact AZ (v:=UN Cm) (AW rfl _ _ (w.heap.size+1) 50 _ (0,0) _ rfl HRES.o Tryz.underlying50 rfl Tryz.sizeR) rfl ⟨_,rfl,HFIN.o,HBEL.o⟩
end Go.Proofs.YthmeoilbmfdhfaaGreat
