import Derived.Test.YtapejbpgdjbjjaaGreatDoorSMu
namespace Go.Proofs.YtapejbpgdjbjjaaGreatDoor
open Go.ChangeShapes Go.WideShapes Go.ChangeAt Go.RowKit
set_option linter.unusedVariables false
set_option maxRecDepth 100000 in
set_option maxHeartbeats 8000000 in
theorem ltimes2_gen (M:Nat→Q4×Bool) (kp:Option Addr) (kc:Nat) (ks:List Int) (p0 p1 p2 p3 gd c0 c1 c2 c3 cd:Nat) (P:Q4) (w:World) (hk:ks.length=2) (hb:Byte ks) (ha:At .u8 w kp ks)
  (h0:FeA w (some ⟨p0,0,none⟩) P.1) (h1:FeA w (some ⟨p1,0,none⟩) P.2.1) (h2:FeA w (some ⟨p2,0,none⟩) P.2.2.1) (h3:FeA w (some ⟨p3,0,none⟩) P.2.2.2) (hd:FeA w (some ⟨gd,0,none⟩) mdD) (hM0:Hid (M 0=(idQ,false)))
  (hMs:Hid (∀ n Q b,M n=(Q,b)→M (n+1)=bif vbit (val 256 ks) (15-n) then(F4 (bif b then F4 Q Q else Q) P,true) else(bif b then F4 Q Q else Q,b))) :
  Calls Tryz.prog 31 #[.slice kp 2 kc,.agg #[.slice (some ⟨p0,0,none⟩) 16 c0,.slice (some ⟨p1,0,none⟩) 16 c1,.slice (some ⟨p2,0,none⟩) 16 c2,.slice (some ⟨p3,0,none⟩) 16 c3],.slice (some ⟨gd,0,none⟩) 16 cd] w (TimP w (M 16).1):=by
 have bb:Below w.heap.size w ((w.alloc (.cells #[.slice (some ⟨p0,0,none⟩) 16 c0,.slice (some ⟨p1,0,none⟩) 16 c1,.slice (some ⟨p2,0,none⟩) 16 c2,.slice (some ⟨p3,0,none⟩) 16 c3] 44)).alloc (.cells #[.slice none 0 0,.slice none 0 0,.slice none 0 0,.slice none 0 0] 44)):=((Below.refl _ _).alloc (Nat.le_refl _) _).alloc (by simp) _
 have HP0:Hid (PtW ((w.alloc (.cells #[.slice (some ⟨p0,0,none⟩) 16 c0,.slice (some ⟨p1,0,none⟩) 16 c1,.slice (some ⟨p2,0,none⟩) 16 c2,.slice (some ⟨p3,0,none⟩) 16 c3] 44)).alloc (.cells #[.slice none 0 0,.slice none 0 0,.slice none 0 0,.slice none 0 0] 44)) w.heap.size #[.slice (some ⟨p0,0,none⟩) 16 c0,.slice (some ⟨p1,0,none⟩) 16 c1,.slice (some ⟨p2,0,none⟩) 16 c2,.slice (some ⟨p3,0,none⟩) 16 c3]):=by
  show _=_
  rw[Below.heap_alloc _ _ w.heap.size (by simp)];exact heap_alloc_new w _
 have HZ0:Hid (PtW ((w.alloc (.cells #[.slice (some ⟨p0,0,none⟩) 16 c0,.slice (some ⟨p1,0,none⟩) 16 c1,.slice (some ⟨p2,0,none⟩) 16 c2,.slice (some ⟨p3,0,none⟩) 16 c3] 44)).alloc (.cells #[.slice none 0 0,.slice none 0 0,.slice none 0 0,.slice none 0 0] 44)) (w.heap.size+1) #[.slice none 0 0,.slice none 0 0,.slice none 0 0,.slice none 0 0]):=by
  show _=_
  have:=heap_alloc_new (w.alloc (.cells #[.slice (some ⟨p0,0,none⟩) 16 c0,.slice (some ⟨p1,0,none⟩) 16 c1,.slice (some ⟨p2,0,none⟩) 16 c2,.slice (some ⟨p3,0,none⟩) 16 c3] 44)) (.cells #[.slice none 0 0,.slice none 0 0,.slice none 0 0,.slice none 0 0] 44);simpa using this
 have HB0:Hid (Below w.heap.size w ((w.alloc (.cells #[.slice (some ⟨p0,0,none⟩) 16 c0,.slice (some ⟨p1,0,none⟩) 16 c1,.slice (some ⟨p2,0,none⟩) 16 c2,.slice (some ⟨p3,0,none⟩) 16 c3] 44)).alloc (.cells #[.slice none 0 0,.slice none 0 0,.slice none 0 0,.slice none 0 0] 44))):=bb
 have HF0:Hid (FeA w (some ⟨p0,0,none⟩) P.1):=h0
 have HF1:Hid (FeA w (some ⟨p1,0,none⟩) P.2.1):=h1
 have HF2:Hid (FeA w (some ⟨p2,0,none⟩) P.2.2.1):=h2
 have HF3:Hid (FeA w (some ⟨p3,0,none⟩) P.2.2.2):=h3
 have HFD:Hid (FeA w (some ⟨gd,0,none⟩) mdD):=hd
 obtain⟨kb,ko,rfl,hkb,hkc⟩:=ha.get (by omega)
 have HKB:Hid (kb<w.heap.size):=hkb
 have HKC:Hid (∀ q,q<2→w.cell? ⟨kb,ko+q,none⟩=some (.int .u8 (ks.getD q 0))):=fun q hq=>hkc q (by omega)
 have HBY:Hid (Byte ks):=hb
 have HKL:Hid (ks.length=2):=hk
 clear bb h0 h1 h2 h3 hd ha hb hk hkb hkc
 go_enter Tryz.func31,Tryz.ntmps31
 go_wp2_with fail
 generalize ((w.alloc (.cells #[.slice (some ⟨p0,0,none⟩) 16 c0,.slice (some ⟨p1,0,none⟩) 16 c1,.slice (some ⟨p2,0,none⟩) 16 c2,.slice (some ⟨p3,0,none⟩) 16 c3] 44)).alloc (.cells #[.slice none 0 0,.slice none 0 0,.slice none 0 0,.slice none 0 0] 44))=w0 at *
 refine(small_any 0 _ (by decide) (by decide)).mono ?_
 rintro e w1 ⟨g1,k1,rfl,hr1,_,hf,hb⟩
 have hg1:w.heap.size+1<g1:=by have:=HZ0.out.lt;omega
 have HX:Hid (FeA w1 (some ⟨g1,0,none⟩) (0%fp)):=hf
 have b1:Below w.heap.size w w1:=HB0.out.trans (hb.mono HB0.out.size)
 have HP1:Hid (PtW w1 w.heap.size #[.slice (some ⟨p0,0,none⟩) 16 c0,.slice (some ⟨p1,0,none⟩) 16 c1,.slice (some ⟨p2,0,none⟩) 16 c2,.slice (some ⟨p3,0,none⟩) 16 c3]):=HP0.out.below hb HP0.out.lt
 have HZ1:Hid (PtW w1 (w.heap.size+1) #[.slice none 0 0,.slice none 0 0,.slice none 0 0,.slice none 0 0]):=HZ0.out.below hb HZ0.out.lt
 have HB1:Hid (Below w.heap.size w w1):=b1
 clear hf hb HB0 HP0 HZ0 b1
 go_wp2_with fail
 refine(small_any 1 _ (by decide) (by decide)).mono ?_
 rintro e w2 ⟨g2,k2,rfl,hr2,_,hf,hb⟩
 have hg2:w.heap.size+1<g2:=by have:=HZ1.out.lt;omega
 have HX2:Hid (FeA w2 (some ⟨g1,0,none⟩) (0%fp)):=HX.out.below hb
 have HY2:Hid (FeA w2 (some ⟨g2,0,none⟩) (1%fp)):=hf
 have HP2:Hid (PtW w2 w.heap.size #[.slice (some ⟨p0,0,none⟩) 16 c0,.slice (some ⟨p1,0,none⟩) 16 c1,.slice (some ⟨p2,0,none⟩) 16 c2,.slice (some ⟨p3,0,none⟩) 16 c3]):=HP1.out.below hb HP1.out.lt
 have HZ2:Hid (PtW w2 (w.heap.size+1) #[.slice none 0 0,.slice none 0 0,.slice none 0 0,.slice none 0 0]):=HZ1.out.below hb HZ1.out.lt
 have HB2:Hid (Below w.heap.size w w2):=HB1.out.trans (hb.mono HB1.out.size)
 clear hf hb HB1 HP1 HZ1 HX
 go_wp2_with fail
 refine(affine_any (some ⟨g1,0,none⟩) (some ⟨g2,0,none⟩) k1 k2 _ _ _ HX2.out HY2.out).mono ?_
 rintro e w3 ⟨gz,cz,gt,ct,rfl,f3,f4,hb,hr3,hr4⟩
 have hgz:w.heap.size+1<gz:=by have:=HZ2.out.lt;omega
 have hgt:w.heap.size+1<gt:=by have:=HZ2.out.lt;omega
 have HX3:Hid (FeA w3 (some ⟨g1,0,none⟩) (0%fp)∧FeA w3 (some ⟨g2,0,none⟩) (1%fp)∧FeA w3 (some ⟨gz,0,none⟩) (1%fp)∧FeA w3 (some ⟨gt,0,none⟩) (0%fp*(1%fp)%fp)):=⟨HX2.out.below hb,HY2.out.below hb,f3,f4⟩
 have HP3:Hid (PtW w3 w.heap.size #[.slice (some ⟨p0,0,none⟩) 16 c0,.slice (some ⟨p1,0,none⟩) 16 c1,.slice (some ⟨p2,0,none⟩) 16 c2,.slice (some ⟨p3,0,none⟩) 16 c3]):=HP2.out.below hb HP2.out.lt
 have HZ3:Hid (PtW w3 (w.heap.size+1) #[.slice none 0 0,.slice none 0 0,.slice none 0 0,.slice none 0 0]):=HZ2.out.below hb HZ2.out.lt
 have HB3:Hid (Below w.heap.size w w3):=HB2.out.trans (hb.mono HB2.out.size)
 have HPN:Hid (PtW (w3.alloc (.cells #[.slice none 0 0,.slice none 0 0,.slice none 0 0,.slice none 0 0] 44)) w3.heap.size #[.slice none 0 0,.slice none 0 0,.slice none 0 0,.slice none 0 0]):=PtW.new w3
 clear f3 f4 hb HB2 HP2 HZ2 HX2 HY2
 go_wp2_with (first
  |(refine wpList_storePt rfl (.tmp 7) (.tmp 12) rfl w3.heap.size _ _ _ _ _ rfl rfl rfl rfl rfl rfl rfl HPN.out ?_)
  |fail)
 intro w4 hp4 hw4
 have b34:Below w3.heap.size w3 w4:=(below_new3 _ _).trans (hw4.below (Nat.le_refl _))
 have HE:Hid (TmE w #[.slice (some ⟨p0,0,none⟩) 16 c0,.slice (some ⟨p1,0,none⟩) 16 c1,.slice (some ⟨p2,0,none⟩) 16 c2,.slice (some ⟨p3,0,none⟩) 16 c3] w3.heap.size w4):=⟨HB3.out.trans (b34.mono HB3.out.size),HP3.out.below b34 HP3.out.lt,HZ3.out.below b34 HZ3.out.lt,HZ3.out.lt⟩
 have HO:Hid (OutS (w.heap.size+1) w4 w3.heap.size (M 0).1):=by
  show OutS _ _ _ _
  rw[hM0.out];obtain⟨q1,q2,q3,q4⟩:=HX3.out;refine⟨g1,k1,g2,k2,gz,cz,gt,ct,hp4,?_,?_,?_,?_,⟨?_,?_,?_,?_⟩,hg1,hg2,hgz,hgt⟩
  ·exact q1.below b34
  ·exact q2.below b34
  ·exact q3.below b34
  ·exact q4.below b34
  ·have:=q1.lt;omega
  ·have:=q2.lt;omega
  ·have:=q3.lt;omega
  ·have:=q4.lt;omega
 clear hp4 hw4 b34 HPN HX3 HP3 HZ3 HB3
 generalize w3.heap.size=G at *
 go_wp2_with fail
 go_loopw [8,9] (fun b i wr=>∃ j:Nat,j≤16∧i=.int .i64 ((j:Int)-1)∧b=.bool (M (16-j)).2∧TmE w #[.slice (some ⟨p0,0,none⟩) 16 c0,.slice (some ⟨p1,0,none⟩) 16 c1,.slice (some ⟨p2,0,none⟩) 16 c2,.slice (some ⟨p3,0,none⟩) 16 c3] G wr∧OutS (w.heap.size+1) wr G (M (16-j)).1) (fun _ i _=>(intOf i+1).toNat)
 case atStart=>exact⟨16,Nat.le_refl _,by go_num,by rw[Nat.sub_self,hM0.out],HE.out,by rw[Nat.sub_self];exact HO.out⟩
 case round=>
  clear HE HO;obtain⟨j,hj,rfl,rfl,hE,hO⟩:=hrel;by_cases hj0:0<j
  ·obtain⟨i,rfl⟩:∃ i,j=i+1:=⟨j-1,by omega⟩
   have ei:((i+1:Nat):Int)-1=(i:Int):=by omega
   rw[ei];clear ei;have en:16-i=16-(i+1)+1:=by omega
   have en2:15-(16-(i+1))=i:=by omega
   have hi8:i<16:=by omega
   generalize hM:M (16-(i+1))=mq at *;obtain⟨Q,bg⟩:=mq;simp only at hO ⊢;cases bg with
   |false=>
    have hge:¬ ((i:Int)<0):=by omega
    have cK:wr.cell? ⟨kb,ko+i/8,none⟩=some (.int .u8 (ks.getD (i/8) 0)):=by rw[hE.below.cell (p:=⟨kb,ko+i/8,none⟩) HKB.out];exact HKC.out (i/8) (by omega)
    have hx:=HBY.out.get (i/8);have HBIT:Hid (ks.getD (i/8) 0/2^(i%8)%2=(val 256 ks)/2^i%2):=byte_bit ks HBY.out i;have hlt:(i:Int)/8<2:=by omega
    have HE:Hid (TmE w #[.slice (some ⟨p0,0,none⟩) 16 c0,.slice (some ⟨p1,0,none⟩) 16 c1,.slice (some ⟨p2,0,none⟩) 16 c2,.slice (some ⟨p3,0,none⟩) 16 c3] G wr):=hE;have HO:Hid (OutS (w.heap.size+1) wr G (Q)):=hO;clear hE hO;generalize ks.getD (i/8) 0=x at *;obtain⟨hx0,hx1⟩:=hx;have hv:(val 256 ks)/2^i%2=0∨(val 256 ks)/2^i%2=1:=by omega
    have hpp:(0:Int)<2^(i%8):=Int.pow_pos (by decide);have hy0:0≤x/2^(i%8):=Int.ediv_nonneg hx0 (by omega);have hy1:x/2^(i%8)≤x:=Int.ediv_le_self _ hx0;rcases hv with hv|hv
    ·have hvb:vbit (val 256 ks) i=false:=by unfold vbit;rw[hv];rfl
     have hb0:x/2^(i%8)%2=0:=by rw[HBIT.out,hv]
     have HN:Hid ((M (16-i))=(Q,false)):=by
      show _=_
      rw[en,hMs.out _ _ _ hM,en2,hvb];rfl
     clear hv HBIT hvb;have ht:(x/2^(i%8)).tmod 2=0:=by rw[Int.tmod_eq_emod_of_nonneg hy0,hb0]
     clear hb0;go_wp2;go_roundw
     case rel=>exact⟨i,by omega,by go_num,by rw[HN.out],HE.out,by rw[HN.out];exact HO.out⟩
     case measure=>simp[intOf]
    ·have hvb:vbit (val 256 ks) i=true:=by unfold vbit;rw[hv];rfl
     have hb0:x/2^(i%8)%2=1:=by rw[HBIT.out,hv]
     have HN:Hid ((M (16-i))=(F4 (Q) P,true)):=by
      show _=_
      rw[en,hMs.out _ _ _ hM,en2,hvb];rfl
     clear hv HBIT hvb;have ht:(x/2^(i%8)).tmod 2=1:=by rw[Int.tmod_eq_emod_of_nonneg hy0,hb0]
     clear hb0;obtain⟨h0,k0,h1,k1,h2,k2,h3,k3,hp,hf0,hf1,hf2,hf3,hne⟩:=HO.out;have hE:=HE.out;have CS := sum_any (some ⟨h0,0,none⟩) (some ⟨h1,0,none⟩) (some ⟨h2,0,none⟩) (some ⟨h3,0,none⟩) (some ⟨p0,0,none⟩) (some ⟨p1,0,none⟩) (some ⟨p2,0,none⟩) (some ⟨p3,0,none⟩) (some ⟨gd,0,none⟩) k0 k1 k2 k3 c0 c1 c2 c3 cd _ _ _ _ _ _ _ _ mdD wr (fun e he=>by
                                                                                                      simp only[List.mem_cons,List.not_mem_nil,or_false] at he
                                                                                                      rcases he with rfl|rfl|rfl|rfl|rfl|rfl|rfl|rfl|rfl
                                                                                                      · exact hf0
                                                                                                      · exact hf1
                                                                                                      · exact hf2
                                                                                                      · exact hf3
                                                                                                      · exact(HF0.out.below hE.below)
                                                                                                      · exact(HF1.out.below hE.below)
                                                                                                      · exact(HF2.out.below hE.below)
                                                                                                      · exact(HF3.out.below hE.below)
                                                                                                      · exact(HFD.out.below hE.below))
     have HPO:Hid (PtW wr G #[.slice (some ⟨h0,0,none⟩) 16 k0,.slice (some ⟨h1,0,none⟩) 16 k1,.slice (some ⟨h2,0,none⟩) 16 k2,.slice (some ⟨h3,0,none⟩) 16 k3]):=hp;have HPB:Hid (PtW wr w.heap.size #[.slice (some ⟨p0,0,none⟩) 16 c0,.slice (some ⟨p1,0,none⟩) 16 c1,.slice (some ⟨p2,0,none⟩) 16 c2,.slice (some ⟨p3,0,none⟩) 16 c3]):=hE.pb;clear hp hf0 hf1 hf2 hf3 hne hE HO;go_wp2_with (first
      |(refine wpList_load_row rfl 44 (.tmp 7) rfl G rfl 44 _ (0,0) _ HPO.out Tryz.underlying44 rfl Tryz.sizePt ?_)
      |(refine wpList_load_row rfl 44 (.tmp 4) rfl w.heap.size rfl 44 _ (0,0) _ HPB.out Tryz.underlying44 rfl Tryz.sizePt ?_)
      |fail)
     refine CS.mono ?_;intro e w8 h8;have h8b:Below wr.heap.size wr w8:=by obtain⟨_,_,_,_,_,_,_,_,_,_,_,_,_,b,_⟩:=h8;exact b
     have h8e:∃ v,e=.returned v:=by obtain⟨_,_,_,_,_,_,_,_,r,_⟩:=h8;exact⟨_,r⟩
     obtain⟨v8,rfl⟩:=h8e;have hput:=fun w9=>OutS.put (B:=w.heap.size+1) (w6:=w9) (P:=Q) (Q:=P) HPO.out.lt HE.out.gt h8
     obtain⟨s0,s1,s2,s3,rfl,hone,_⟩:=hput w8;have HPT:Hid (∀ w9,PtW w9 G #[s0,s1,s2,s3]→Wr G w8 w9→OutS (w.heap.size+1) w9 G (F4 (Q) P)):=fun w9 hp hw=>by
      obtain⟨q0,q1,q2,q3,e,_,k⟩:=hput w9;cases e;exact k hp hw
     have HON:Hid (s0.oneCell'=true∧s1.oneCell'=true∧s2.oneCell'=true∧s3.oneCell'=true):=hone;have HP8:Hid (PtW w8 G #[.slice (some ⟨h0,0,none⟩) 16 k0,.slice (some ⟨h1,0,none⟩) 16 k1,.slice (some ⟨h2,0,none⟩) 16 k2,.slice (some ⟨h3,0,none⟩) 16 k3]):=HPO.out.below h8b HPO.out.lt;have HE8:Hid (TmE w #[.slice (some ⟨p0,0,none⟩) 16 c0,.slice (some ⟨p1,0,none⟩) 16 c1,.slice (some ⟨p2,0,none⟩) 16 c2,.slice (some ⟨p3,0,none⟩) 16 c3] G w8):=HE.out.call h8b;clear h8 h8b hput hone CS HE HPO HPB;go_wp2_with (first
      |(refine wpList_storePt rfl (.tmp 7) (.tmp 40) rfl G s0 s1 s2 s3 _ HON.out.1 HON.out.2.1 HON.out.2.2.1 HON.out.2.2.2 rfl rfl rfl HP8.out ?_)
      |fail)
     intro w9 hp9 hw9;have HO9:Hid (OutS (w.heap.size+1) w9 G (F4 (Q) P)):=HPT.out w9 hp9 hw9;have HE9:Hid (TmE w #[.slice (some ⟨p0,0,none⟩) 16 c0,.slice (some ⟨p1,0,none⟩) 16 c1,.slice (some ⟨p2,0,none⟩) 16 c2,.slice (some ⟨p3,0,none⟩) 16 c3] G w9):=HE8.out.wr hw9;clear hp9 hw9 HPT HON HP8 HE8;go_wp2;go_roundw
     case rel=>exact⟨i,by omega,by go_num,by rw[HN.out],HE9.out,by rw[HN.out];exact HO9.out⟩
     case measure=>simp[intOf]
   |true=>
    obtain⟨h0,k0,h1,k1,h2,k2,h3,k3,hp,hf0,hf1,hf2,hf3,hne⟩:=hO;have CS:=sum_any (some ⟨h0,0,none⟩) (some ⟨h1,0,none⟩) (some ⟨h2,0,none⟩) (some ⟨h3,0,none⟩) (some ⟨h0,0,none⟩) (some ⟨h1,0,none⟩) (some ⟨h2,0,none⟩) (some ⟨h3,0,none⟩) (some ⟨gd,0,none⟩) k0 k1 k2 k3 k0 k1 k2 k3 cd _ _ _ _ _ _ _ _ mdD wr (fun e he=>by
     simp only[List.mem_cons,List.not_mem_nil,or_false] at he;rcases he with rfl|rfl|rfl|rfl|rfl|rfl|rfl|rfl|rfl
     ·exact hf0
     ·exact hf1
     ·exact hf2
     ·exact hf3
     ·exact hf0
     ·exact hf1
     ·exact hf2
     ·exact hf3
     ·exact(HFD.out.below hE.below))
    have HPO:Hid (PtW wr G #[.slice (some ⟨h0,0,none⟩) 16 k0,.slice (some ⟨h1,0,none⟩) 16 k1,.slice (some ⟨h2,0,none⟩) 16 k2,.slice (some ⟨h3,0,none⟩) 16 k3]):=hp;have HE:Hid (TmE w #[.slice (some ⟨p0,0,none⟩) 16 c0,.slice (some ⟨p1,0,none⟩) 16 c1,.slice (some ⟨p2,0,none⟩) 16 c2,.slice (some ⟨p3,0,none⟩) 16 c3] G wr):=hE;clear hp hf0 hf1 hf2 hf3 hne hE;go_wp2_with (first
     |(refine wpList_load_row rfl 44 (.tmp 7) rfl G rfl 44 _ (0,0) _ HPO.out Tryz.underlying44 rfl Tryz.sizePt ?_)
     |fail)
    refine CS.mono ?_;intro e w5 h5;have h5b:Below wr.heap.size wr w5:=by obtain⟨_,_,_,_,_,_,_,_,_,_,_,_,_,b,_⟩:=h5;exact b
    have h5e:∃ v,e=.returned v:=by obtain⟨_,_,_,_,_,_,_,_,r,_⟩:=h5;exact⟨_,r⟩
    obtain⟨v5,rfl⟩:=h5e;have hput:=fun w9=>OutS.put (B:=w.heap.size+1) (w6:=w9) (P:=Q) (Q:=Q) HPO.out.lt HE.out.gt h5
    obtain⟨s0,s1,s2,s3,rfl,hone,_⟩:=hput w5;have HPT:Hid (∀ w9,PtW w9 G #[s0,s1,s2,s3]→Wr G w5 w9→OutS (w.heap.size+1) w9 G (F4 Q Q)):=fun w9 hp hw=>by
     obtain⟨q0,q1,q2,q3,e,_,k⟩:=hput w9;cases e;exact k hp hw
    have HON:Hid (s0.oneCell'=true∧s1.oneCell'=true∧s2.oneCell'=true∧s3.oneCell'=true):=hone;have HP5:Hid (PtW w5 G #[.slice (some ⟨h0,0,none⟩) 16 k0,.slice (some ⟨h1,0,none⟩) 16 k1,.slice (some ⟨h2,0,none⟩) 16 k2,.slice (some ⟨h3,0,none⟩) 16 k3]):=HPO.out.below h5b HPO.out.lt;have HE5:Hid (TmE w #[.slice (some ⟨p0,0,none⟩) 16 c0,.slice (some ⟨p1,0,none⟩) 16 c1,.slice (some ⟨p2,0,none⟩) 16 c2,.slice (some ⟨p3,0,none⟩) 16 c3] G w5):=HE.out.call h5b;clear h5 h5b hput hone CS HE HPO;go_wp2_with (first
     |(refine wpList_storePt rfl (.tmp 7) (.tmp 25) rfl G s0 s1 s2 s3 _ HON.out.1 HON.out.2.1 HON.out.2.2.1 HON.out.2.2.2 rfl rfl rfl HP5.out ?_)
     |fail)
    intro w6 hp6 hw6;have hO:OutS (w.heap.size+1) w6 G (F4 Q Q):=HPT.out w6 hp6 hw6;have hE:TmE w #[.slice (some ⟨p0,0,none⟩) 16 c0,.slice (some ⟨p1,0,none⟩) 16 c1,.slice (some ⟨p2,0,none⟩) 16 c2,.slice (some ⟨p3,0,none⟩) 16 c3] G w6:=HE5.out.wr hw6;clear hp6 hw6 HPT HON HP5 HE5;have cK:w6.cell? ⟨kb,ko+i/8,none⟩=some (.int .u8 (ks.getD (i/8) 0)):=by rw[hE.below.cell (p:=⟨kb,ko+i/8,none⟩) HKB.out];exact HKC.out (i/8) (by omega)
    have hx:=HBY.out.get (i/8);have HBIT:Hid (ks.getD (i/8) 0/2^(i%8)%2=(val 256 ks)/2^i%2):=byte_bit ks HBY.out i;have hlt:(i:Int)/8<2:=by omega
    have HE:Hid (TmE w #[.slice (some ⟨p0,0,none⟩) 16 c0,.slice (some ⟨p1,0,none⟩) 16 c1,.slice (some ⟨p2,0,none⟩) 16 c2,.slice (some ⟨p3,0,none⟩) 16 c3] G w6):=hE;have HO:Hid (OutS (w.heap.size+1) w6 G (F4 Q Q)):=hO;clear hE hO;generalize ks.getD (i/8) 0=x at *;obtain⟨hx0,hx1⟩:=hx;have hv:(val 256 ks)/2^i%2=0∨(val 256 ks)/2^i%2=1:=by omega
    have hpp:(0:Int)<2^(i%8):=Int.pow_pos (by decide);have hy0:0≤x/2^(i%8):=Int.ediv_nonneg hx0 (by omega);have hy1:x/2^(i%8)≤x:=Int.ediv_le_self _ hx0;rcases hv with hv|hv
    ·have hvb:vbit (val 256 ks) i=false:=by unfold vbit;rw[hv];rfl
     have hb0:x/2^(i%8)%2=0:=by rw[HBIT.out,hv]
     have HN:Hid ((M (16-i))=(F4 Q Q,true)):=by
      show _=_
      rw[en,hMs.out _ _ _ hM,en2,hvb];rfl
     clear hv HBIT hvb;have ht:(x/2^(i%8)).tmod 2=0:=by rw[Int.tmod_eq_emod_of_nonneg hy0,hb0]
     clear hb0;go_wp2;go_roundw
     case rel=>exact⟨i,by omega,by go_num,by rw[HN.out],HE.out,by rw[HN.out];exact HO.out⟩
     case measure=>simp[intOf]
    ·have hvb:vbit (val 256 ks) i=true:=by unfold vbit;rw[hv];rfl
     have hb0:x/2^(i%8)%2=1:=by rw[HBIT.out,hv]
     have HN:Hid ((M (16-i))=(F4 (F4 Q Q) P,true)):=by
      show _=_
      rw[en,hMs.out _ _ _ hM,en2,hvb];rfl
     clear hv HBIT hvb;have ht:(x/2^(i%8)).tmod 2=1:=by rw[Int.tmod_eq_emod_of_nonneg hy0,hb0]
     clear hb0;obtain⟨h0,k0,h1,k1,h2,k2,h3,k3,hp,hf0,hf1,hf2,hf3,hne⟩:=HO.out;have hE:=HE.out;have CS := sum_any (some ⟨h0,0,none⟩) (some ⟨h1,0,none⟩) (some ⟨h2,0,none⟩) (some ⟨h3,0,none⟩) (some ⟨p0,0,none⟩) (some ⟨p1,0,none⟩) (some ⟨p2,0,none⟩) (some ⟨p3,0,none⟩) (some ⟨gd,0,none⟩) k0 k1 k2 k3 c0 c1 c2 c3 cd _ _ _ _ _ _ _ _ mdD w6 (fun e he=>by
                                                                                                      simp only[List.mem_cons,List.not_mem_nil,or_false] at he
                                                                                                      rcases he with rfl|rfl|rfl|rfl|rfl|rfl|rfl|rfl|rfl
                                                                                                      · exact hf0
                                                                                                      · exact hf1
                                                                                                      · exact hf2
                                                                                                      · exact hf3
                                                                                                      · exact(HF0.out.below hE.below)
                                                                                                      · exact(HF1.out.below hE.below)
                                                                                                      · exact(HF2.out.below hE.below)
                                                                                                      · exact(HF3.out.below hE.below)
                                                                                                      · exact(HFD.out.below hE.below))
     have HPO:Hid (PtW w6 G #[.slice (some ⟨h0,0,none⟩) 16 k0,.slice (some ⟨h1,0,none⟩) 16 k1,.slice (some ⟨h2,0,none⟩) 16 k2,.slice (some ⟨h3,0,none⟩) 16 k3]):=hp;have HPB:Hid (PtW w6 w.heap.size #[.slice (some ⟨p0,0,none⟩) 16 c0,.slice (some ⟨p1,0,none⟩) 16 c1,.slice (some ⟨p2,0,none⟩) 16 c2,.slice (some ⟨p3,0,none⟩) 16 c3]):=hE.pb;clear hp hf0 hf1 hf2 hf3 hne hE HO;go_wp2_with (first
      |(refine wpList_load_row rfl 44 (.tmp 7) rfl G rfl 44 _ (0,0) _ HPO.out Tryz.underlying44 rfl Tryz.sizePt ?_)
      |(refine wpList_load_row rfl 44 (.tmp 4) rfl w.heap.size rfl 44 _ (0,0) _ HPB.out Tryz.underlying44 rfl Tryz.sizePt ?_)
      |fail)
     refine CS.mono ?_;intro e w8 h8;have h8b:Below w6.heap.size w6 w8:=by obtain⟨_,_,_,_,_,_,_,_,_,_,_,_,_,b,_⟩:=h8;exact b
     have h8e:∃ v,e=.returned v:=by obtain⟨_,_,_,_,_,_,_,_,r,_⟩:=h8;exact⟨_,r⟩
     obtain⟨v8,rfl⟩:=h8e;have hput:=fun w9=>OutS.put (B:=w.heap.size+1) (w6:=w9) (P:=F4 Q Q) (Q:=P) HPO.out.lt HE.out.gt h8
     obtain⟨s0,s1,s2,s3,rfl,hone,_⟩:=hput w8;have HPT:Hid (∀ w9,PtW w9 G #[s0,s1,s2,s3]→Wr G w8 w9→OutS (w.heap.size+1) w9 G (F4 (F4 Q Q) P)):=fun w9 hp hw=>by
      obtain⟨q0,q1,q2,q3,e,_,k⟩:=hput w9;cases e;exact k hp hw
     have HON:Hid (s0.oneCell'=true∧s1.oneCell'=true∧s2.oneCell'=true∧s3.oneCell'=true):=hone;have HP8:Hid (PtW w8 G #[.slice (some ⟨h0,0,none⟩) 16 k0,.slice (some ⟨h1,0,none⟩) 16 k1,.slice (some ⟨h2,0,none⟩) 16 k2,.slice (some ⟨h3,0,none⟩) 16 k3]):=HPO.out.below h8b HPO.out.lt;have HE8:Hid (TmE w #[.slice (some ⟨p0,0,none⟩) 16 c0,.slice (some ⟨p1,0,none⟩) 16 c1,.slice (some ⟨p2,0,none⟩) 16 c2,.slice (some ⟨p3,0,none⟩) 16 c3] G w8):=HE.out.call h8b;clear h8 h8b hput hone CS HE HPO HPB;go_wp2_with (first
      |(refine wpList_storePt rfl (.tmp 7) (.tmp 40) rfl G s0 s1 s2 s3 _ HON.out.1 HON.out.2.1 HON.out.2.2.1 HON.out.2.2.2 rfl rfl rfl HP8.out ?_)
      |fail)
     intro w9 hp9 hw9;have HO9:Hid (OutS (w.heap.size+1) w9 G (F4 (F4 Q Q) P)):=HPT.out w9 hp9 hw9;have HE9:Hid (TmE w #[.slice (some ⟨p0,0,none⟩) 16 c0,.slice (some ⟨p1,0,none⟩) 16 c1,.slice (some ⟨p2,0,none⟩) 16 c2,.slice (some ⟨p3,0,none⟩) 16 c3] G w9):=HE8.out.wr hw9;clear hp9 hw9 HPT HON HP8 HE8;go_wp2;go_roundw
     case rel=>exact⟨i,by omega,by go_num,by rw[HN.out],HE9.out,by rw[HN.out];exact HO9.out⟩
     case measure=>simp[intOf]
  ·have hj00:j=0:=by omega
   subst hj00;obtain⟨h0,k0,h1,k1,h2,k2,h3,k3,hp,hf0,hf1,hf2,hf3,hne⟩:=hO;have HNE:Hid (h0≠w.heap.size+1∧h1≠w.heap.size+1∧h2≠w.heap.size+1∧h3≠w.heap.size+1):=by obtain⟨_,q1,q2,q3,q4⟩:=hne;exact⟨by omega,by omega,by omega,by omega⟩
   clear hne;have HPO:Hid (PtW wr G #[.slice (some ⟨h0,0,none⟩) 16 k0,.slice (some ⟨h1,0,none⟩) 16 k1,.slice (some ⟨h2,0,none⟩) 16 k2,.slice (some ⟨h3,0,none⟩) 16 k3]):=hp;have HRS:Hid (PtW wr (w.heap.size+1) #[.slice none 0 0,.slice none 0 0,.slice none 0 0,.slice none 0 0]):=hE.rs;have HFF:Hid (FeA wr (some ⟨h0,0,none⟩) (M 16).1.1∧FeA wr (some ⟨h1,0,none⟩) (M 16).1.2.1∧FeA wr (some ⟨h2,0,none⟩) (M 16).1.2.2.1∧FeA wr (some ⟨h3,0,none⟩) (M 16).1.2.2.2∧Below w.heap.size w wr):=⟨hf0,hf1,hf2,hf3,hE.below⟩
   clear hp hf0 hf1 hf2 hf3;go_wp2_with (first
    |(refine wpList_load_row rfl 44 (.tmp 7) rfl G rfl 44 _ (0,0) _ HPO.out Tryz.underlying44 rfl Tryz.sizePt ?_)
    |(refine wpList_storePt rfl (.tmp 6) (.tmp 41) rfl (w.heap.size+1) _ _ _ _ _ rfl rfl rfl rfl rfl rfl rfl HRS.out ?_)
    |fail)
   intro w7 hp7 hw7;have HP7:Hid (PtW w7 (w.heap.size+1) #[.slice (some ⟨h0,0,none⟩) 16 k0,.slice (some ⟨h1,0,none⟩) 16 k1,.slice (some ⟨h2,0,none⟩) 16 k2,.slice (some ⟨h3,0,none⟩) 16 k3]):=hp7;have HF7:Hid (TimP w (M 16).1 (.returned (.agg #[.slice (some ⟨h0,0,none⟩) 16 k0,.slice (some ⟨h1,0,none⟩) 16 k1,.slice (some ⟨h2,0,none⟩) 16 k2,.slice (some ⟨h3,0,none⟩) 16 k3])) w7):=by
    obtain⟨q1,q2,q3,q4,q5⟩:=HFF.out;exact⟨h0,k0,h1,k1,h2,k2,h3,k3,rfl,q1.wr hw7 HNE.out.1,q2.wr hw7 HNE.out.2.1,q3.wr hw7 HNE.out.2.2.1,q4.wr hw7 HNE.out.2.2.2,q5.trans (hw7.below (by omega))⟩
   clear hp7 hw7 HPO HRS HFF HNE;go_wp2;exact bodyPost_ret (v:=.agg #[.slice (some ⟨h0,0,none⟩) 16 k0,.slice (some ⟨h1,0,none⟩) 16 k1,.slice (some ⟨h2,0,none⟩) 16 k2,.slice (some ⟨h3,0,none⟩) 16 k3]) (results_cell_row rfl _ _ (w.heap.size+1) 44 _ (0,0) _ rfl HP7.out Tryz.underlying44 rfl Tryz.sizePt) rfl HF7.out
def mS2 (V:Int) (P:Q4):Nat→Q4×Bool
 |0=>(idQ,false)
 |n+1=>bif vbit V (15-n) then(F4 (bif (mS2 V P n).2 then F4 (mS2 V P n).1 (mS2 V P n).1 else(mS2 V P n).1) P,true) else(bif (mS2 V P n).2 then F4 (mS2 V P n).1 (mS2 V P n).1 else(mS2 V P n).1,(mS2 V P n).2)
theorem ltimes2_any (kp:Option Addr) (kc:Nat) (ks:List Int) (p0 p1 p2 p3 gd c0 c1 c2 c3 cd:Nat) (P:Q4) (w:World) (hk:ks.length=2) (hb:Byte ks) (ha:At .u8 w kp ks)
  (h0:FeA w (some ⟨p0,0,none⟩) P.1) (h1:FeA w (some ⟨p1,0,none⟩) P.2.1) (h2:FeA w (some ⟨p2,0,none⟩) P.2.2.1) (h3:FeA w (some ⟨p3,0,none⟩) P.2.2.2) (hd:FeA w (some ⟨gd,0,none⟩) mdD) :
  Calls Tryz.prog 31 #[.slice kp 2 kc,.agg #[.slice (some ⟨p0,0,none⟩) 16 c0,.slice (some ⟨p1,0,none⟩) 16 c1,.slice (some ⟨p2,0,none⟩) 16 c2,.slice (some ⟨p3,0,none⟩) 16 c3],.slice (some ⟨gd,0,none⟩) 16 cd] w (TimP w (mS2 (val 256 ks) P 16).1):=
 ltimes2_gen (mS2 (val 256 ks) P) kp kc ks p0 p1 p2 p3 gd c0 c1 c2 c3 cd P w hk hb ha h0 h1 h2 h3 hd rfl (fun n Q b h=>by simp only[mS2,h])
end Go.Proofs.YtapejbpgdjbjjaaGreatDoor
