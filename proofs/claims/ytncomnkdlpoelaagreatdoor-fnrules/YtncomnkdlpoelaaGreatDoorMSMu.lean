import Derived.Test.YtncomnkdlpoelaaGreatDoorMMuM
namespace Go.Proofs.YtncomnkdlpoelaaGreatDoor
open Go.ChangeShapes Go.WideShapes Go.ChangeAt Go.RowKit
set_option linter.unusedVariables false
theorem byte_bit (ks:List Int) (hw:Byte ks) (i:Nat):ks.getD (i/8) 0/2^(i%8)%2=val 256 ks/2^i%2:=by
 have hd:=val_digit (B:=256) (by decide) (fun z hz=>hw z hz) (i/8);rw[←hd];generalize val 256 ks=V;have e1:(256:Int)^(i/8)=2^(8*(i/8)):=by rw[Int.pow_mul];rfl
 have e2:(2:Int)^i=2^(8*(i/8))*2^(i%8):=by rw[←Int.pow_add];congr 1;omega
 have hp:(0:Int)≤2^(8*(i/8)):=Int.le_of_lt (Int.pow_pos (by decide));rw[e1,e2,←Int.ediv_ediv_of_nonneg hp];generalize V/2^(8*(i/8))=U;have e3:(256:Int)=2^(i%8)*2^(8-i%8):=by
  rw[←Int.pow_add,show i%8+(8-i%8)=8 by omega];rfl
 have h1:0<8-i%8:=by omega
 rw[e3];have hq:(0:Int)<2^(i%8):=Int.pow_pos (by decide);rw[Int.emod_def U,Int.mul_assoc,Int.sub_eq_add_neg,←Int.mul_neg,Int.add_mul_ediv_left _ _ (by omega)];obtain⟨m,hm⟩:∃ m,8-i%8=m+1:=⟨7-i%8,by omega⟩
 rw[hm,Int.pow_succ];generalize U/2^(i%8)=A;generalize U/(2^(i%8)*(2^m*2))=B;rw[show -(2^m*2*B)=2*(-(2^m*B)) by grind,Int.add_mul_emod_self_left]
theorem FeA.lt {w:World} {g:Nat} {x:Int} (h:FeA w (some ⟨g,0,none⟩) x):g<w.heap.size:=by
 obtain⟨zs,h1,h2,h3⟩:=h;obtain⟨b,o,e,hb,hc⟩:=h1.get (by have:=h2.1;omega);cases e;exact hb
def OutS (B:Nat) (wr:World) (G:Nat) (Q:Q4):Prop:=
 ∃ h0 k0 h1 k1 h2 k2 h3 k3,PtW wr G #[.slice (some ⟨h0,0,none⟩) 16 k0,.slice (some ⟨h1,0,none⟩) 16 k1,.slice (some ⟨h2,0,none⟩) 16 k2,.slice (some ⟨h3,0,none⟩) 16 k3]∧FeA wr (some ⟨h0,0,none⟩) Q.1∧FeA wr (some ⟨h1,0,none⟩) Q.2.1∧FeA wr (some ⟨h2,0,none⟩) Q.2.2.1∧FeA wr (some ⟨h3,0,none⟩) Q.2.2.2∧(h0≠G∧h1≠G∧h2≠G∧h3≠G)∧(B<h0∧B<h1∧B<h2∧B<h3)
structure TmE (w:World) (pc:Array Value) (G:Nat) (wr:World):Prop where
 below:Below w.heap.size w wr
 pb:PtW wr w.heap.size pc
 rs:PtW wr (w.heap.size+1) #[.slice none 0 0,.slice none 0 0,.slice none 0 0,.slice none 0 0]
 gt:w.heap.size+1<G
theorem TmE.call {w wr w':World} {pc:Array Value} {G:Nat} (h:TmE w pc G wr) (b:Below wr.heap.size wr w'):TmE w pc G w':=
 ⟨h.below.trans (b.mono h.below.size),h.pb.below b h.pb.lt,h.rs.below b h.rs.lt,h.gt⟩
theorem PtW.wr2 {w w':World} {g V:Nat} {cs:Array Value} (h:PtW w g cs) (hw:Wr V w w') (hne:g≠V):PtW w' g cs:=by unfold PtW;rw[hw.block g hne];exact h
theorem TmE.wr {w wr w':World} {pc:Array Value} {G:Nat} (h:TmE w pc G wr) (hw:Wr G wr w'):TmE w pc G w':=
 ⟨h.below.trans (hw.below (by have:=h.gt;omega)),h.pb.wr2 hw (by have:=h.gt;omega),h.rs.wr2 hw (by have:=h.gt;omega),h.gt⟩
def TimP (w:World) (Q:Q4) (e:Ending) (w':World):Prop:=
 ∃ h0 k0 h1 k1 h2 k2 h3 k3,e=.returned (.agg #[.slice (some ⟨h0,0,none⟩) 16 k0,.slice (some ⟨h1,0,none⟩) 16 k1,.slice (some ⟨h2,0,none⟩) 16 k2,.slice (some ⟨h3,0,none⟩) 16 k3])∧FeA w' (some ⟨h0,0,none⟩) Q.1∧FeA w' (some ⟨h1,0,none⟩) Q.2.1∧FeA w' (some ⟨h2,0,none⟩) Q.2.2.1∧FeA w' (some ⟨h3,0,none⟩) Q.2.2.2∧Below w.heap.size w w'
theorem OutS.put {B:Nat} {wr w5 w6:World} {G:Nat} {P Q:Q4} {v:Value} (hG:G<wr.heap.size) (hB:B<G)
  (h:SumP wr (smA P.1 P.2.1 Q.1 Q.2.1) (smB P.1 P.2.1 Q.1 Q.2.1) (smC mdD P.2.2.2 Q.2.2.2) (smG P.2.2.1 Q.2.2.1) (.returned v) w5) :
  ∃ s0 s1 s2 s3,v=.agg #[s0,s1,s2,s3]∧(s0.oneCell'=true∧s1.oneCell'=true∧s2.oneCell'=true∧s3.oneCell'=true)∧(PtW w6 G #[s0,s1,s2,s3]→Wr G w5 w6→OutS B w6 G (F4 P Q)):=by
 obtain⟨g1,k1,g2,k2,g3,k3,g4,k4,e,f1,f2,f3,f4,b,q1,q2,q3,q4⟩:=h;cases e;refine⟨_,_,_,_,rfl,⟨rfl,rfl,rfl,rfl⟩,fun hp hw=>⟨g1,k1,g2,k2,g3,k3,g4,k4,hp,f1.wr hw (by omega),f2.wr hw (by omega),f3.wr hw (by omega),f4.wr hw (by omega),⟨by omega,by omega,by omega,by omega⟩,by omega,by omega,by omega,by omega⟩⟩
set_option maxRecDepth 100000 in
set_option maxHeartbeats 8000000 in
theorem ltimes_gen (M:Nat→Q4×Bool) (kp:Option Addr) (kc:Nat) (ks:List Int) (p0 p1 p2 p3 gd c0 c1 c2 c3 cd:Nat) (P:Q4) (w:World) (hk:ks.length=32) (hb:Byte ks) (ha:At .u8 w kp ks)
  (h0:FeA w (some ⟨p0,0,none⟩) P.1) (h1:FeA w (some ⟨p1,0,none⟩) P.2.1) (h2:FeA w (some ⟨p2,0,none⟩) P.2.2.1) (h3:FeA w (some ⟨p3,0,none⟩) P.2.2.2) (hd:FeA w (some ⟨gd,0,none⟩) mdD) (hM0:Hid (M 0=(idQ,false)))
  (hMs:Hid (∀ n Q b,M n=(Q,b)→M (n+1)=bif vbit (val 256 ks) (255-n) then(F4 (bif b then F4 Q Q else Q) P,true) else(bif b then F4 Q Q else Q,b))) :
  Calls Tryz.prog 36 #[.slice kp 32 kc,.agg #[.slice (some ⟨p0,0,none⟩) 16 c0,.slice (some ⟨p1,0,none⟩) 16 c1,.slice (some ⟨p2,0,none⟩) 16 c2,.slice (some ⟨p3,0,none⟩) 16 c3],.slice (some ⟨gd,0,none⟩) 16 cd] w (TimP w (M 256).1):=by
 have bb:Below w.heap.size w ((w.alloc (.cells #[.slice (some ⟨p0,0,none⟩) 16 c0,.slice (some ⟨p1,0,none⟩) 16 c1,.slice (some ⟨p2,0,none⟩) 16 c2,.slice (some ⟨p3,0,none⟩) 16 c3] 79)).alloc (.cells #[.slice none 0 0,.slice none 0 0,.slice none 0 0,.slice none 0 0] 79)):=((Below.refl _ _).alloc (Nat.le_refl _) _).alloc (by simp) _;have HP0:Hid (PtW ((w.alloc (.cells #[.slice (some ⟨p0,0,none⟩) 16 c0,.slice (some ⟨p1,0,none⟩) 16 c1,.slice (some ⟨p2,0,none⟩) 16 c2,.slice (some ⟨p3,0,none⟩) 16 c3] 79)).alloc (.cells #[.slice none 0 0,.slice none 0 0,.slice none 0 0,.slice none 0 0] 79)) w.heap.size #[.slice (some ⟨p0,0,none⟩) 16 c0,.slice (some ⟨p1,0,none⟩) 16 c1,.slice (some ⟨p2,0,none⟩) 16 c2,.slice (some ⟨p3,0,none⟩) 16 c3]):=by
  show _=_
  rw[Below.heap_alloc _ _ w.heap.size (by simp)];exact heap_alloc_new w _
 have HZ0:Hid (PtW ((w.alloc (.cells #[.slice (some ⟨p0,0,none⟩) 16 c0,.slice (some ⟨p1,0,none⟩) 16 c1,.slice (some ⟨p2,0,none⟩) 16 c2,.slice (some ⟨p3,0,none⟩) 16 c3] 79)).alloc (.cells #[.slice none 0 0,.slice none 0 0,.slice none 0 0,.slice none 0 0] 79)) (w.heap.size+1) #[.slice none 0 0,.slice none 0 0,.slice none 0 0,.slice none 0 0]):=by
  show _=_
  have:=heap_alloc_new (w.alloc (.cells #[.slice (some ⟨p0,0,none⟩) 16 c0,.slice (some ⟨p1,0,none⟩) 16 c1,.slice (some ⟨p2,0,none⟩) 16 c2,.slice (some ⟨p3,0,none⟩) 16 c3] 79)) (.cells #[.slice none 0 0,.slice none 0 0,.slice none 0 0,.slice none 0 0] 79);simpa using this
 have HB0:=hdI <| bb
 have HF0:=hdI <| h0
 have HF1:=hdI <| h1
 have HF2:=hdI <| h2
 have HF3:=hdI <| h3
 have HFD:=hdI <| hd
 obtain⟨kb,ko,rfl,hkb,hkc⟩:=ha.get (by omega);have HKB:=hdI <| hkb
 have HKC:Hid (∀ q,q<32→w.cell? ⟨kb,ko+q,none⟩=some (.int .u8 (ks.getD q 0))):=fun q hq=>hkc q (by omega)
 have HBY:=hdI <| hb
 have HKL:=hdI <| hk
 clear bb h0 h1 h2 h3 hd ha hb hk hkb hkc;go_enter Tryz.func36,Tryz.ntmps36;go_wp2_with fail;generalize ((w.alloc (.cells #[.slice (some ⟨p0,0,none⟩) 16 c0,.slice (some ⟨p1,0,none⟩) 16 c1,.slice (some ⟨p2,0,none⟩) 16 c2,.slice (some ⟨p3,0,none⟩) 16 c3] 79)).alloc (.cells #[.slice none 0 0,.slice none 0 0,.slice none 0 0,.slice none 0 0] 79))=w0 at *;refine(small_any 0 _ (by decide) (by decide)).mono ?_;rintro e w1 ⟨g1,k1,rfl,hr1,_,hf,hb⟩;have hg1:w.heap.size+1<g1:=by have:=HZ0.out.lt;omega
 have HX:=hdI <| hf
 have b1:=HB0.out.trans (hb.mono HB0.out.size);have HP1:=hdI <| HP0.out.below hb HP0.out.lt
 have HZ1:=hdI <| HZ0.out.below hb HZ0.out.lt
 have HB1:=hdI <| b1
 clear hf hb HB0 HP0 HZ0 b1;go_wp2_with fail;refine(small_any 1 _ (by decide) (by decide)).mono ?_;rintro e w2 ⟨g2,k2,rfl,hr2,_,hf,hb⟩;have hg2:w.heap.size+1<g2:=by have:=HZ1.out.lt;omega
 have HX2:=hdI <| HX.out.below hb
 have HY2:=hdI <| hf
 have HP2:=hdI <| HP1.out.below hb HP1.out.lt
 have HZ2:=hdI <| HZ1.out.below hb HZ1.out.lt
 have HB2:=hdI <| HB1.out.trans (hb.mono HB1.out.size)
 clear hf hb HB1 HP1 HZ1 HX;go_wp2_with fail;refine(affine_any (some ⟨g1,0,none⟩) (some ⟨g2,0,none⟩) k1 k2 _ _ _ HX2.out HY2.out).mono ?_;rintro e w3 ⟨gz,cz,gt,ct,rfl,f3,f4,hb,hr3,hr4⟩;have hgz:w.heap.size+1<gz:=by have:=HZ2.out.lt;omega
 have hgt:w.heap.size+1<gt:=by have:=HZ2.out.lt;omega
 have HX3:Hid (FeA w3 (some ⟨g1,0,none⟩) (0%fp)∧FeA w3 (some ⟨g2,0,none⟩) (1%fp)∧FeA w3 (some ⟨gz,0,none⟩) (1%fp)∧FeA w3 (some ⟨gt,0,none⟩) (0%fp*(1%fp)%fp)):=⟨HX2.out.below hb,HY2.out.below hb,f3,f4⟩
 have HP3:=hdI <| HP2.out.below hb HP2.out.lt
 have HZ3:=hdI <| HZ2.out.below hb HZ2.out.lt
 have HB3:=hdI <| HB2.out.trans (hb.mono HB2.out.size)
 have HPN:=hdI <| PtW.new w3
 clear f3 f4 hb HB2 HP2 HZ2 HX2 HY2;go_wp2_with (first
  |(refine wpList_storePt rfl (.tmp 7) (.tmp 12) rfl w3.heap.size _ _ _ _ _ rfl rfl rfl rfl rfl rfl rfl HPN.out ?_)
  |fail)
 intro w4 hp4 hw4;have b34:=(below_new3 _ _).trans (hw4.below (Nat.le_refl _));have HE:Hid (TmE w #[.slice (some ⟨p0,0,none⟩) 16 c0,.slice (some ⟨p1,0,none⟩) 16 c1,.slice (some ⟨p2,0,none⟩) 16 c2,.slice (some ⟨p3,0,none⟩) 16 c3] w3.heap.size w4):=⟨HB3.out.trans (b34.mono HB3.out.size),HP3.out.below b34 HP3.out.lt,HZ3.out.below b34 HZ3.out.lt,HZ3.out.lt⟩
 have HO:Hid (OutS (w.heap.size+1) w4 w3.heap.size (M 0).1):=by
  show OutS _ _ _ _
  rw[hM0.out];obtain⟨q1,q2,q3,q4⟩:=HX3.out;refine⟨g1,k1,g2,k2,gz,cz,gt,ct,hp4,?_,?_,?_,?_,⟨?_,?_,?_,?_⟩,hg1,hg2,hgz,hgt⟩
  ·exact q1.below b34
  ·exact q2.below b34
  ·exact q3.below b34
  ·exact q4.below b34
  ·have:=q1.lt;omega
  ·have:=q2.lt;omega
  ·have:=q3.lt;omega
  ·have:=q4.lt;omega
 clear hp4 hw4 b34 HPN HX3 HP3 HZ3 HB3;generalize w3.heap.size=G at *;go_wp2_with fail
 go_loopw [8,9] (fun b i wr=>∃ j:Nat,j≤256∧i=.int .i64 ((j:Int)-1)∧b=.bool (M (256-j)).2∧TmE w #[.slice (some ⟨p0,0,none⟩) 16 c0,.slice (some ⟨p1,0,none⟩) 16 c1,.slice (some ⟨p2,0,none⟩) 16 c2,.slice (some ⟨p3,0,none⟩) 16 c3] G wr∧OutS (w.heap.size+1) wr G (M (256-j)).1) (fun _ i _=>(intOf i+1).toNat)
 case atStart=>exact⟨256,Nat.le_refl _,by go_num,by rw[Nat.sub_self,hM0.out],HE.out,by rw[Nat.sub_self];exact HO.out⟩
 case round=>
  clear HE HO;obtain⟨j,hj,rfl,rfl,hE,hO⟩:=hrel;by_cases hj0:0<j
  ·obtain⟨i,rfl⟩:∃ i,j=i+1:=⟨j-1,by omega⟩
   have ei:((i+1:Nat):Int)-1=(i:Int):=by omega
   rw[ei];clear ei;have en:256-i=256-(i+1)+1:=by omega
   have en2:255-(256-(i+1))=i:=by omega
   have hi8:i<256:=by omega
   generalize hM:M (256-(i+1))=mq at *;obtain⟨Q,bg⟩:=mq;simp only at hO ⊢;cases bg with
   |false=>
    have hge:¬ ((i:Int)<0):=by omega
    have cK:wr.cell? ⟨kb,ko+i/8,none⟩=some (.int .u8 (ks.getD (i/8) 0)):=by rw[hE.below.cell (p:=⟨kb,ko+i/8,none⟩) HKB.out];exact HKC.out (i/8) (by omega)
    have hx:=HBY.out.get (i/8);have HBIT:=hdI <| byte_bit ks HBY.out i
    have hlt:(i:Int)/8<32:=by omega
    have HE:=hdI <| hE
    have HO:Hid (OutS (w.heap.size+1) wr G (Q)):=hO;clear hE hO;generalize ks.getD (i/8) 0=x at *;obtain⟨hx0,hx1⟩:=hx;have hv:(val 256 ks)/2^i%2=0∨(val 256 ks)/2^i%2=1:=by omega
    have hpp:(0:Int)<2^(i%8):=Int.pow_pos (by decide);have hy0:0≤x/2^(i%8):=Int.ediv_nonneg hx0 (by omega);have hy1:x/2^(i%8)≤x:=Int.ediv_le_self _ hx0;rcases hv with hv|hv
    ·have hvb:vbit (val 256 ks) i=false:=by unfold vbit;rw[hv];rfl
     have hb0:x/2^(i%8)%2=0:=by rw[HBIT.out,hv]
     have HN:Hid ((M (256-i))=(Q,false)):=by
      show _=_
      rw[en,hMs.out _ _ _ hM,en2,hvb];rfl
     clear hv HBIT hvb;have ht:(x/2^(i%8)).tmod 2=0:=by rw[Int.tmod_eq_emod_of_nonneg hy0,hb0]
     clear hb0;go_wp2;go_roundw
     case rel=>exact⟨i,by omega,by go_num,by rw[HN.out],HE.out,by rw[HN.out];exact HO.out⟩
     case measure=>simp[intOf]
    ·have hvb:vbit (val 256 ks) i=true:=by unfold vbit;rw[hv];rfl
     have hb0:x/2^(i%8)%2=1:=by rw[HBIT.out,hv]
     have HN:Hid ((M (256-i))=(F4 (Q) P,true)):=by
      show _=_
      rw[en,hMs.out _ _ _ hM,en2,hvb];rfl
     clear hv HBIT hvb;have ht:(x/2^(i%8)).tmod 2=1:=by rw[Int.tmod_eq_emod_of_nonneg hy0,hb0]
     clear hb0;obtain⟨h0,k0,h1,k1,h2,k2,h3,k3,hp,hf0,hf1,hf2,hf3,hne⟩:=HO.out;have hE:=HE.out;have CS := sum_any (some ⟨h0,0,none⟩) (some ⟨h1,0,none⟩) (some ⟨h2,0,none⟩) (some ⟨h3,0,none⟩) (some ⟨p0,0,none⟩) (some ⟨p1,0,none⟩) (some ⟨p2,0,none⟩) (some ⟨p3,0,none⟩) (some ⟨gd,0,none⟩) k0 k1 k2 k3 c0 c1 c2 c3 cd _ _ _ _ _ _ _ _ mdD wr (fun e he=>by
                                                                                                      simp only[List.mem_cons,List.not_mem_nil,or_false] at he
                                                                                                      rcases he with rfl|rfl|rfl|rfl|rfl|rfl|rfl|rfl|rfl
                                                                                                      · exact hf0
                                                                                                      · exact hf1
                                                                                                      · exact hf2
                                                                                                      · exact hf3
                                                                                                      · exact(HF0.out.below hE.below)
                                                                                                      · exact(HF1.out.below hE.below)
                                                                                                      · exact(HF2.out.below hE.below)
                                                                                                      · exact(HF3.out.below hE.below)
                                                                                                      · exact(HFD.out.below hE.below))
     have HPO:=hdI <| hp
     have HPB:=hdI <| hE.pb
     clear hp hf0 hf1 hf2 hf3 hne hE HO;go_wp2_with (first
      |(refine wpList_load_row rfl 79 (.tmp 7) rfl G rfl 79 _ (0,0) _ HPO.out Tryz.underlying79 rfl Tryz.sizePt ?_)
      |(refine wpList_load_row rfl 79 (.tmp 4) rfl w.heap.size rfl 79 _ (0,0) _ HPB.out Tryz.underlying79 rfl Tryz.sizePt ?_)
      |fail)
     refine CS.mono ?_;intro e w8 h8;have h8b:Below wr.heap.size wr w8:=by obtain⟨_,_,_,_,_,_,_,_,_,_,_,_,_,b,_⟩:=h8;exact b
     have h8e:∃ v,e=.returned v:=by obtain⟨_,_,_,_,_,_,_,_,r,_⟩:=h8;exact⟨_,r⟩
     obtain⟨v8,rfl⟩:=h8e;have hput:=fun w9=>OutS.put (B:=w.heap.size+1) (w6:=w9) (P:=Q) (Q:=P) HPO.out.lt HE.out.gt h8
     obtain⟨s0,s1,s2,s3,rfl,hone,_⟩:=hput w8;have HPT:Hid (∀ w9,PtW w9 G #[s0,s1,s2,s3]→Wr G w8 w9→OutS (w.heap.size+1) w9 G (F4 (Q) P)):=fun w9 hp hw=>by
      obtain⟨q0,q1,q2,q3,e,_,k⟩:=hput w9;cases e;exact k hp hw
     have HON:=hdI <| hone
     have HP8:=hdI <| HPO.out.below h8b HPO.out.lt
     have HE8:=hdI <| HE.out.call h8b
     clear h8 h8b hput hone CS HE HPO HPB;go_wp2_with (first
      |(refine wpList_storePt rfl (.tmp 7) (.tmp 40) rfl G s0 s1 s2 s3 _ HON.out.1 HON.out.2.1 HON.out.2.2.1 HON.out.2.2.2 rfl rfl rfl HP8.out ?_)
      |fail)
     intro w9 hp9 hw9;have HO9:=hdI <| HPT.out w9 hp9 hw9
     have HE9:=hdI <| HE8.out.wr hw9
     clear hp9 hw9 HPT HON HP8 HE8;go_wp2;go_roundw
     case rel=>exact⟨i,by omega,by go_num,by rw[HN.out],HE9.out,by rw[HN.out];exact HO9.out⟩
     case measure=>simp[intOf]
   |true=>
    obtain⟨h0,k0,h1,k1,h2,k2,h3,k3,hp,hf0,hf1,hf2,hf3,hne⟩:=hO;have CS:=sum_any (some ⟨h0,0,none⟩) (some ⟨h1,0,none⟩) (some ⟨h2,0,none⟩) (some ⟨h3,0,none⟩) (some ⟨h0,0,none⟩) (some ⟨h1,0,none⟩) (some ⟨h2,0,none⟩) (some ⟨h3,0,none⟩) (some ⟨gd,0,none⟩) k0 k1 k2 k3 k0 k1 k2 k3 cd _ _ _ _ _ _ _ _ mdD wr (fun e he=>by
     simp only[List.mem_cons,List.not_mem_nil,or_false] at he;rcases he with rfl|rfl|rfl|rfl|rfl|rfl|rfl|rfl|rfl
     ·exact hf0
     ·exact hf1
     ·exact hf2
     ·exact hf3
     ·exact hf0
     ·exact hf1
     ·exact hf2
     ·exact hf3
     ·exact(HFD.out.below hE.below))
    have HPO:=hdI <| hp
    have HE:=hdI <| hE
    clear hp hf0 hf1 hf2 hf3 hne hE;go_wp2_with (first
     |(refine wpList_load_row rfl 79 (.tmp 7) rfl G rfl 79 _ (0,0) _ HPO.out Tryz.underlying79 rfl Tryz.sizePt ?_)
     |fail)
    refine CS.mono ?_;intro e w5 h5;have h5b:Below wr.heap.size wr w5:=by obtain⟨_,_,_,_,_,_,_,_,_,_,_,_,_,b,_⟩:=h5;exact b
    have h5e:∃ v,e=.returned v:=by obtain⟨_,_,_,_,_,_,_,_,r,_⟩:=h5;exact⟨_,r⟩
    obtain⟨v5,rfl⟩:=h5e;have hput:=fun w9=>OutS.put (B:=w.heap.size+1) (w6:=w9) (P:=Q) (Q:=Q) HPO.out.lt HE.out.gt h5
    obtain⟨s0,s1,s2,s3,rfl,hone,_⟩:=hput w5;have HPT:Hid (∀ w9,PtW w9 G #[s0,s1,s2,s3]→Wr G w5 w9→OutS (w.heap.size+1) w9 G (F4 Q Q)):=fun w9 hp hw=>by
     obtain⟨q0,q1,q2,q3,e,_,k⟩:=hput w9;cases e;exact k hp hw
    have HON:=hdI <| hone
    have HP5:=hdI <| HPO.out.below h5b HPO.out.lt
    have HE5:=hdI <| HE.out.call h5b
    clear h5 h5b hput hone CS HE HPO;go_wp2_with (first
     |(refine wpList_storePt rfl (.tmp 7) (.tmp 25) rfl G s0 s1 s2 s3 _ HON.out.1 HON.out.2.1 HON.out.2.2.1 HON.out.2.2.2 rfl rfl rfl HP5.out ?_)
     |fail)
    intro w6 hp6 hw6;have hO:=HPT.out w6 hp6 hw6;have hE:=HE5.out.wr hw6;clear hp6 hw6 HPT HON HP5 HE5;have cK:w6.cell? ⟨kb,ko+i/8,none⟩=some (.int .u8 (ks.getD (i/8) 0)):=by rw[hE.below.cell (p:=⟨kb,ko+i/8,none⟩) HKB.out];exact HKC.out (i/8) (by omega)
    have hx:=HBY.out.get (i/8);have HBIT:=hdI <| byte_bit ks HBY.out i
    have hlt:(i:Int)/8<32:=by omega
    have HE:=hdI <| hE
    have HO:Hid (OutS (w.heap.size+1) w6 G (F4 Q Q)):=hO;clear hE hO;generalize ks.getD (i/8) 0=x at *;obtain⟨hx0,hx1⟩:=hx;have hv:(val 256 ks)/2^i%2=0∨(val 256 ks)/2^i%2=1:=by omega
    have hpp:(0:Int)<2^(i%8):=Int.pow_pos (by decide);have hy0:0≤x/2^(i%8):=Int.ediv_nonneg hx0 (by omega);have hy1:x/2^(i%8)≤x:=Int.ediv_le_self _ hx0;rcases hv with hv|hv
    ·have hvb:vbit (val 256 ks) i=false:=by unfold vbit;rw[hv];rfl
     have hb0:x/2^(i%8)%2=0:=by rw[HBIT.out,hv]
     have HN:Hid ((M (256-i))=(F4 Q Q,true)):=by
      show _=_
      rw[en,hMs.out _ _ _ hM,en2,hvb];rfl
     clear hv HBIT hvb;have ht:(x/2^(i%8)).tmod 2=0:=by rw[Int.tmod_eq_emod_of_nonneg hy0,hb0]
     clear hb0;go_wp2;go_roundw
     case rel=>exact⟨i,by omega,by go_num,by rw[HN.out],HE.out,by rw[HN.out];exact HO.out⟩
     case measure=>simp[intOf]
    ·have hvb:vbit (val 256 ks) i=true:=by unfold vbit;rw[hv];rfl
     have hb0:x/2^(i%8)%2=1:=by rw[HBIT.out,hv]
     have HN:Hid ((M (256-i))=(F4 (F4 Q Q) P,true)):=by
      show _=_
      rw[en,hMs.out _ _ _ hM,en2,hvb];rfl
     clear hv HBIT hvb;have ht:(x/2^(i%8)).tmod 2=1:=by rw[Int.tmod_eq_emod_of_nonneg hy0,hb0]
     clear hb0;obtain⟨h0,k0,h1,k1,h2,k2,h3,k3,hp,hf0,hf1,hf2,hf3,hne⟩:=HO.out;have hE:=HE.out;have CS := sum_any (some ⟨h0,0,none⟩) (some ⟨h1,0,none⟩) (some ⟨h2,0,none⟩) (some ⟨h3,0,none⟩) (some ⟨p0,0,none⟩) (some ⟨p1,0,none⟩) (some ⟨p2,0,none⟩) (some ⟨p3,0,none⟩) (some ⟨gd,0,none⟩) k0 k1 k2 k3 c0 c1 c2 c3 cd _ _ _ _ _ _ _ _ mdD w6 (fun e he=>by
                                                                                                      simp only[List.mem_cons,List.not_mem_nil,or_false] at he
                                                                                                      rcases he with rfl|rfl|rfl|rfl|rfl|rfl|rfl|rfl|rfl
                                                                                                      · exact hf0
                                                                                                      · exact hf1
                                                                                                      · exact hf2
                                                                                                      · exact hf3
                                                                                                      · exact(HF0.out.below hE.below)
                                                                                                      · exact(HF1.out.below hE.below)
                                                                                                      · exact(HF2.out.below hE.below)
                                                                                                      · exact(HF3.out.below hE.below)
                                                                                                      · exact(HFD.out.below hE.below))
     have HPO:=hdI <| hp
     have HPB:=hdI <| hE.pb
     clear hp hf0 hf1 hf2 hf3 hne hE HO;go_wp2_with (first
      |(refine wpList_load_row rfl 79 (.tmp 7) rfl G rfl 79 _ (0,0) _ HPO.out Tryz.underlying79 rfl Tryz.sizePt ?_)
      |(refine wpList_load_row rfl 79 (.tmp 4) rfl w.heap.size rfl 79 _ (0,0) _ HPB.out Tryz.underlying79 rfl Tryz.sizePt ?_)
      |fail)
     refine CS.mono ?_;intro e w8 h8;have h8b:Below w6.heap.size w6 w8:=by obtain⟨_,_,_,_,_,_,_,_,_,_,_,_,_,b,_⟩:=h8;exact b
     have h8e:∃ v,e=.returned v:=by obtain⟨_,_,_,_,_,_,_,_,r,_⟩:=h8;exact⟨_,r⟩
     obtain⟨v8,rfl⟩:=h8e;have hput:=fun w9=>OutS.put (B:=w.heap.size+1) (w6:=w9) (P:=F4 Q Q) (Q:=P) HPO.out.lt HE.out.gt h8
     obtain⟨s0,s1,s2,s3,rfl,hone,_⟩:=hput w8;have HPT:Hid (∀ w9,PtW w9 G #[s0,s1,s2,s3]→Wr G w8 w9→OutS (w.heap.size+1) w9 G (F4 (F4 Q Q) P)):=fun w9 hp hw=>by
      obtain⟨q0,q1,q2,q3,e,_,k⟩:=hput w9;cases e;exact k hp hw
     have HON:=hdI <| hone
     have HP8:=hdI <| HPO.out.below h8b HPO.out.lt
     have HE8:=hdI <| HE.out.call h8b
     clear h8 h8b hput hone CS HE HPO HPB;go_wp2_with (first
      |(refine wpList_storePt rfl (.tmp 7) (.tmp 40) rfl G s0 s1 s2 s3 _ HON.out.1 HON.out.2.1 HON.out.2.2.1 HON.out.2.2.2 rfl rfl rfl HP8.out ?_)
      |fail)
     intro w9 hp9 hw9;have HO9:=hdI <| HPT.out w9 hp9 hw9
     have HE9:=hdI <| HE8.out.wr hw9
     clear hp9 hw9 HPT HON HP8 HE8;go_wp2;go_roundw
     case rel=>exact⟨i,by omega,by go_num,by rw[HN.out],HE9.out,by rw[HN.out];exact HO9.out⟩
     case measure=>simp[intOf]
  ·have hj00:j=0:=by omega
   subst hj00;obtain⟨h0,k0,h1,k1,h2,k2,h3,k3,hp,hf0,hf1,hf2,hf3,hne⟩:=hO;have HNE:Hid (h0≠w.heap.size+1∧h1≠w.heap.size+1∧h2≠w.heap.size+1∧h3≠w.heap.size+1):=by obtain⟨_,q1,q2,q3,q4⟩:=hne;exact⟨by omega,by omega,by omega,by omega⟩
   clear hne;have HPO:=hdI <| hp
   have HRS:=hdI <| hE.rs
   have HFF:Hid (FeA wr (some ⟨h0,0,none⟩) (M 256).1.1∧FeA wr (some ⟨h1,0,none⟩) (M 256).1.2.1∧FeA wr (some ⟨h2,0,none⟩) (M 256).1.2.2.1∧FeA wr (some ⟨h3,0,none⟩) (M 256).1.2.2.2∧Below w.heap.size w wr):=⟨hf0,hf1,hf2,hf3,hE.below⟩
   clear hp hf0 hf1 hf2 hf3;go_wp2_with (first
    |(refine wpList_load_row rfl 79 (.tmp 7) rfl G rfl 79 _ (0,0) _ HPO.out Tryz.underlying79 rfl Tryz.sizePt ?_)
    |(refine wpList_storePt rfl (.tmp 6) (.tmp 41) rfl (w.heap.size+1) _ _ _ _ _ rfl rfl rfl rfl rfl rfl rfl HRS.out ?_)
    |fail)
   intro w7 hp7 hw7;have HP7:Hid (PtW w7 (w.heap.size+1) #[.slice (some ⟨h0,0,none⟩) 16 k0,.slice (some ⟨h1,0,none⟩) 16 k1,.slice (some ⟨h2,0,none⟩) 16 k2,.slice (some ⟨h3,0,none⟩) 16 k3]):=hp7;have HF7:Hid (TimP w (M 256).1 (.returned (.agg #[.slice (some ⟨h0,0,none⟩) 16 k0,.slice (some ⟨h1,0,none⟩) 16 k1,.slice (some ⟨h2,0,none⟩) 16 k2,.slice (some ⟨h3,0,none⟩) 16 k3])) w7):=by
    obtain⟨q1,q2,q3,q4,q5⟩:=HFF.out;exact⟨h0,k0,h1,k1,h2,k2,h3,k3,rfl,q1.wr hw7 HNE.out.1,q2.wr hw7 HNE.out.2.1,q3.wr hw7 HNE.out.2.2.1,q4.wr hw7 HNE.out.2.2.2,q5.trans (hw7.below (by omega))⟩
   clear hp7 hw7 HPO HRS HFF HNE;go_wp2;exact bodyPost_ret (v:=.agg #[.slice (some ⟨h0,0,none⟩) 16 k0,.slice (some ⟨h1,0,none⟩) 16 k1,.slice (some ⟨h2,0,none⟩) 16 k2,.slice (some ⟨h3,0,none⟩) 16 k3]) (results_cell_row rfl _ _ (w.heap.size+1) 79 _ (0,0) _ rfl HP7.out Tryz.underlying79 rfl Tryz.sizePt) rfl HF7.out
theorem ltimes_any (kp:Option Addr) (kc:Nat) (ks:List Int) (p0 p1 p2 p3 gd c0 c1 c2 c3 cd:Nat) (P:Q4) (w:World) (hk:ks.length=32) (hb:Byte ks) (ha:At .u8 w kp ks)
  (h0:FeA w (some ⟨p0,0,none⟩) P.1) (h1:FeA w (some ⟨p1,0,none⟩) P.2.1) (h2:FeA w (some ⟨p2,0,none⟩) P.2.2.1) (h3:FeA w (some ⟨p3,0,none⟩) P.2.2.2) (hd:FeA w (some ⟨gd,0,none⟩) mdD) :
  Calls Tryz.prog 36 #[.slice kp 32 kc,.agg #[.slice (some ⟨p0,0,none⟩) 16 c0,.slice (some ⟨p1,0,none⟩) 16 c1,.slice (some ⟨p2,0,none⟩) 16 c2,.slice (some ⟨p3,0,none⟩) 16 c3],.slice (some ⟨gd,0,none⟩) 16 cd] w (TimP w (mS (val 256 ks) P 256).1):=
 ltimes_gen (mS (val 256 ks) P) kp kc ks p0 p1 p2 p3 gd c0 c1 c2 c3 cd P w hk hb ha h0 h1 h2 h3 hd rfl (fun n Q b h=>by simp only[mS,h])
set_option maxRecDepth 100000 in
set_option maxHeartbeats 8000000 in
theorem ltimes2_gen (M:Nat→Q4×Bool) (kp:Option Addr) (kc:Nat) (ks:List Int) (p0 p1 p2 p3 gd c0 c1 c2 c3 cd:Nat) (P:Q4) (w:World) (hk:ks.length=2) (hb:Byte ks) (ha:At .u8 w kp ks)
  (h0:FeA w (some ⟨p0,0,none⟩) P.1) (h1:FeA w (some ⟨p1,0,none⟩) P.2.1) (h2:FeA w (some ⟨p2,0,none⟩) P.2.2.1) (h3:FeA w (some ⟨p3,0,none⟩) P.2.2.2) (hd:FeA w (some ⟨gd,0,none⟩) mdD) (hM0:Hid (M 0=(idQ,false)))
  (hMs:Hid (∀ n Q b,M n=(Q,b)→M (n+1)=bif vbit (val 256 ks) (15-n) then(F4 (bif b then F4 Q Q else Q) P,true) else(bif b then F4 Q Q else Q,b))) :
  Calls Tryz.prog 36 #[.slice kp 2 kc,.agg #[.slice (some ⟨p0,0,none⟩) 16 c0,.slice (some ⟨p1,0,none⟩) 16 c1,.slice (some ⟨p2,0,none⟩) 16 c2,.slice (some ⟨p3,0,none⟩) 16 c3],.slice (some ⟨gd,0,none⟩) 16 cd] w (TimP w (M 16).1):=by
 have bb:Below w.heap.size w ((w.alloc (.cells #[.slice (some ⟨p0,0,none⟩) 16 c0,.slice (some ⟨p1,0,none⟩) 16 c1,.slice (some ⟨p2,0,none⟩) 16 c2,.slice (some ⟨p3,0,none⟩) 16 c3] 79)).alloc (.cells #[.slice none 0 0,.slice none 0 0,.slice none 0 0,.slice none 0 0] 79)):=((Below.refl _ _).alloc (Nat.le_refl _) _).alloc (by simp) _;have HP0:Hid (PtW ((w.alloc (.cells #[.slice (some ⟨p0,0,none⟩) 16 c0,.slice (some ⟨p1,0,none⟩) 16 c1,.slice (some ⟨p2,0,none⟩) 16 c2,.slice (some ⟨p3,0,none⟩) 16 c3] 79)).alloc (.cells #[.slice none 0 0,.slice none 0 0,.slice none 0 0,.slice none 0 0] 79)) w.heap.size #[.slice (some ⟨p0,0,none⟩) 16 c0,.slice (some ⟨p1,0,none⟩) 16 c1,.slice (some ⟨p2,0,none⟩) 16 c2,.slice (some ⟨p3,0,none⟩) 16 c3]):=by
  show _=_
  rw[Below.heap_alloc _ _ w.heap.size (by simp)];exact heap_alloc_new w _
 have HZ0:Hid (PtW ((w.alloc (.cells #[.slice (some ⟨p0,0,none⟩) 16 c0,.slice (some ⟨p1,0,none⟩) 16 c1,.slice (some ⟨p2,0,none⟩) 16 c2,.slice (some ⟨p3,0,none⟩) 16 c3] 79)).alloc (.cells #[.slice none 0 0,.slice none 0 0,.slice none 0 0,.slice none 0 0] 79)) (w.heap.size+1) #[.slice none 0 0,.slice none 0 0,.slice none 0 0,.slice none 0 0]):=by
  show _=_
  have:=heap_alloc_new (w.alloc (.cells #[.slice (some ⟨p0,0,none⟩) 16 c0,.slice (some ⟨p1,0,none⟩) 16 c1,.slice (some ⟨p2,0,none⟩) 16 c2,.slice (some ⟨p3,0,none⟩) 16 c3] 79)) (.cells #[.slice none 0 0,.slice none 0 0,.slice none 0 0,.slice none 0 0] 79);simpa using this
 have HB0:=hdI <| bb
 have HF0:=hdI <| h0
 have HF1:=hdI <| h1
 have HF2:=hdI <| h2
 have HF3:=hdI <| h3
 have HFD:=hdI <| hd
 obtain⟨kb,ko,rfl,hkb,hkc⟩:=ha.get (by omega);have HKB:=hdI <| hkb
 have HKC:Hid (∀ q,q<2→w.cell? ⟨kb,ko+q,none⟩=some (.int .u8 (ks.getD q 0))):=fun q hq=>hkc q (by omega)
 have HBY:=hdI <| hb
 have HKL:=hdI <| hk
 clear bb h0 h1 h2 h3 hd ha hb hk hkb hkc;go_enter Tryz.func36,Tryz.ntmps36;go_wp2_with fail;generalize ((w.alloc (.cells #[.slice (some ⟨p0,0,none⟩) 16 c0,.slice (some ⟨p1,0,none⟩) 16 c1,.slice (some ⟨p2,0,none⟩) 16 c2,.slice (some ⟨p3,0,none⟩) 16 c3] 79)).alloc (.cells #[.slice none 0 0,.slice none 0 0,.slice none 0 0,.slice none 0 0] 79))=w0 at *;refine(small_any 0 _ (by decide) (by decide)).mono ?_;rintro e w1 ⟨g1,k1,rfl,hr1,_,hf,hb⟩;have hg1:w.heap.size+1<g1:=by have:=HZ0.out.lt;omega
 have HX:=hdI <| hf
 have b1:=HB0.out.trans (hb.mono HB0.out.size);have HP1:=hdI <| HP0.out.below hb HP0.out.lt
 have HZ1:=hdI <| HZ0.out.below hb HZ0.out.lt
 have HB1:=hdI <| b1
 clear hf hb HB0 HP0 HZ0 b1;go_wp2_with fail;refine(small_any 1 _ (by decide) (by decide)).mono ?_;rintro e w2 ⟨g2,k2,rfl,hr2,_,hf,hb⟩;have hg2:w.heap.size+1<g2:=by have:=HZ1.out.lt;omega
 have HX2:=hdI <| HX.out.below hb
 have HY2:=hdI <| hf
 have HP2:=hdI <| HP1.out.below hb HP1.out.lt
 have HZ2:=hdI <| HZ1.out.below hb HZ1.out.lt
 have HB2:=hdI <| HB1.out.trans (hb.mono HB1.out.size)
 clear hf hb HB1 HP1 HZ1 HX;go_wp2_with fail;refine(affine_any (some ⟨g1,0,none⟩) (some ⟨g2,0,none⟩) k1 k2 _ _ _ HX2.out HY2.out).mono ?_;rintro e w3 ⟨gz,cz,gt,ct,rfl,f3,f4,hb,hr3,hr4⟩;have hgz:w.heap.size+1<gz:=by have:=HZ2.out.lt;omega
 have hgt:w.heap.size+1<gt:=by have:=HZ2.out.lt;omega
 have HX3:Hid (FeA w3 (some ⟨g1,0,none⟩) (0%fp)∧FeA w3 (some ⟨g2,0,none⟩) (1%fp)∧FeA w3 (some ⟨gz,0,none⟩) (1%fp)∧FeA w3 (some ⟨gt,0,none⟩) (0%fp*(1%fp)%fp)):=⟨HX2.out.below hb,HY2.out.below hb,f3,f4⟩
 have HP3:=hdI <| HP2.out.below hb HP2.out.lt
 have HZ3:=hdI <| HZ2.out.below hb HZ2.out.lt
 have HB3:=hdI <| HB2.out.trans (hb.mono HB2.out.size)
 have HPN:=hdI <| PtW.new w3
 clear f3 f4 hb HB2 HP2 HZ2 HX2 HY2;go_wp2_with (first
  |(refine wpList_storePt rfl (.tmp 7) (.tmp 12) rfl w3.heap.size _ _ _ _ _ rfl rfl rfl rfl rfl rfl rfl HPN.out ?_)
  |fail)
 intro w4 hp4 hw4;have b34:=(below_new3 _ _).trans (hw4.below (Nat.le_refl _));have HE:Hid (TmE w #[.slice (some ⟨p0,0,none⟩) 16 c0,.slice (some ⟨p1,0,none⟩) 16 c1,.slice (some ⟨p2,0,none⟩) 16 c2,.slice (some ⟨p3,0,none⟩) 16 c3] w3.heap.size w4):=⟨HB3.out.trans (b34.mono HB3.out.size),HP3.out.below b34 HP3.out.lt,HZ3.out.below b34 HZ3.out.lt,HZ3.out.lt⟩
 have HO:Hid (OutS (w.heap.size+1) w4 w3.heap.size (M 0).1):=by
  show OutS _ _ _ _
  rw[hM0.out];obtain⟨q1,q2,q3,q4⟩:=HX3.out;refine⟨g1,k1,g2,k2,gz,cz,gt,ct,hp4,?_,?_,?_,?_,⟨?_,?_,?_,?_⟩,hg1,hg2,hgz,hgt⟩
  ·exact q1.below b34
  ·exact q2.below b34
  ·exact q3.below b34
  ·exact q4.below b34
  ·have:=q1.lt;omega
  ·have:=q2.lt;omega
  ·have:=q3.lt;omega
  ·have:=q4.lt;omega
 clear hp4 hw4 b34 HPN HX3 HP3 HZ3 HB3;generalize w3.heap.size=G at *;go_wp2_with fail
 go_loopw [8,9] (fun b i wr=>∃ j:Nat,j≤16∧i=.int .i64 ((j:Int)-1)∧b=.bool (M (16-j)).2∧TmE w #[.slice (some ⟨p0,0,none⟩) 16 c0,.slice (some ⟨p1,0,none⟩) 16 c1,.slice (some ⟨p2,0,none⟩) 16 c2,.slice (some ⟨p3,0,none⟩) 16 c3] G wr∧OutS (w.heap.size+1) wr G (M (16-j)).1) (fun _ i _=>(intOf i+1).toNat)
 case atStart=>exact⟨16,Nat.le_refl _,by go_num,by rw[Nat.sub_self,hM0.out],HE.out,by rw[Nat.sub_self];exact HO.out⟩
 case round=>
  clear HE HO;obtain⟨j,hj,rfl,rfl,hE,hO⟩:=hrel;by_cases hj0:0<j
  ·obtain⟨i,rfl⟩:∃ i,j=i+1:=⟨j-1,by omega⟩
   have ei:((i+1:Nat):Int)-1=(i:Int):=by omega
   rw[ei];clear ei;have en:16-i=16-(i+1)+1:=by omega
   have en2:15-(16-(i+1))=i:=by omega
   have hi8:i<16:=by omega
   generalize hM:M (16-(i+1))=mq at *;obtain⟨Q,bg⟩:=mq;simp only at hO ⊢;cases bg with
   |false=>
    have hge:¬ ((i:Int)<0):=by omega
    have cK:wr.cell? ⟨kb,ko+i/8,none⟩=some (.int .u8 (ks.getD (i/8) 0)):=by rw[hE.below.cell (p:=⟨kb,ko+i/8,none⟩) HKB.out];exact HKC.out (i/8) (by omega)
    have hx:=HBY.out.get (i/8);have HBIT:=hdI <| byte_bit ks HBY.out i
    have hlt:(i:Int)/8<2:=by omega
    have HE:=hdI <| hE
    have HO:Hid (OutS (w.heap.size+1) wr G (Q)):=hO;clear hE hO;generalize ks.getD (i/8) 0=x at *;obtain⟨hx0,hx1⟩:=hx;have hv:(val 256 ks)/2^i%2=0∨(val 256 ks)/2^i%2=1:=by omega
    have hpp:(0:Int)<2^(i%8):=Int.pow_pos (by decide);have hy0:0≤x/2^(i%8):=Int.ediv_nonneg hx0 (by omega);have hy1:x/2^(i%8)≤x:=Int.ediv_le_self _ hx0;rcases hv with hv|hv
    ·have hvb:vbit (val 256 ks) i=false:=by unfold vbit;rw[hv];rfl
     have hb0:x/2^(i%8)%2=0:=by rw[HBIT.out,hv]
     have HN:Hid ((M (16-i))=(Q,false)):=by
      show _=_
      rw[en,hMs.out _ _ _ hM,en2,hvb];rfl
     clear hv HBIT hvb;have ht:(x/2^(i%8)).tmod 2=0:=by rw[Int.tmod_eq_emod_of_nonneg hy0,hb0]
     clear hb0;go_wp2;go_roundw
     case rel=>exact⟨i,by omega,by go_num,by rw[HN.out],HE.out,by rw[HN.out];exact HO.out⟩
     case measure=>simp[intOf]
    ·have hvb:vbit (val 256 ks) i=true:=by unfold vbit;rw[hv];rfl
     have hb0:x/2^(i%8)%2=1:=by rw[HBIT.out,hv]
     have HN:Hid ((M (16-i))=(F4 (Q) P,true)):=by
      show _=_
      rw[en,hMs.out _ _ _ hM,en2,hvb];rfl
     clear hv HBIT hvb;have ht:(x/2^(i%8)).tmod 2=1:=by rw[Int.tmod_eq_emod_of_nonneg hy0,hb0]
     clear hb0;obtain⟨h0,k0,h1,k1,h2,k2,h3,k3,hp,hf0,hf1,hf2,hf3,hne⟩:=HO.out;have hE:=HE.out;have CS := sum_any (some ⟨h0,0,none⟩) (some ⟨h1,0,none⟩) (some ⟨h2,0,none⟩) (some ⟨h3,0,none⟩) (some ⟨p0,0,none⟩) (some ⟨p1,0,none⟩) (some ⟨p2,0,none⟩) (some ⟨p3,0,none⟩) (some ⟨gd,0,none⟩) k0 k1 k2 k3 c0 c1 c2 c3 cd _ _ _ _ _ _ _ _ mdD wr (fun e he=>by
                                                                                                      simp only[List.mem_cons,List.not_mem_nil,or_false] at he
                                                                                                      rcases he with rfl|rfl|rfl|rfl|rfl|rfl|rfl|rfl|rfl
                                                                                                      · exact hf0
                                                                                                      · exact hf1
                                                                                                      · exact hf2
                                                                                                      · exact hf3
                                                                                                      · exact(HF0.out.below hE.below)
                                                                                                      · exact(HF1.out.below hE.below)
                                                                                                      · exact(HF2.out.below hE.below)
                                                                                                      · exact(HF3.out.below hE.below)
                                                                                                      · exact(HFD.out.below hE.below))
     have HPO:=hdI <| hp
     have HPB:=hdI <| hE.pb
     clear hp hf0 hf1 hf2 hf3 hne hE HO;go_wp2_with (first
      |(refine wpList_load_row rfl 79 (.tmp 7) rfl G rfl 79 _ (0,0) _ HPO.out Tryz.underlying79 rfl Tryz.sizePt ?_)
      |(refine wpList_load_row rfl 79 (.tmp 4) rfl w.heap.size rfl 79 _ (0,0) _ HPB.out Tryz.underlying79 rfl Tryz.sizePt ?_)
      |fail)
     refine CS.mono ?_;intro e w8 h8;have h8b:Below wr.heap.size wr w8:=by obtain⟨_,_,_,_,_,_,_,_,_,_,_,_,_,b,_⟩:=h8;exact b
     have h8e:∃ v,e=.returned v:=by obtain⟨_,_,_,_,_,_,_,_,r,_⟩:=h8;exact⟨_,r⟩
     obtain⟨v8,rfl⟩:=h8e;have hput:=fun w9=>OutS.put (B:=w.heap.size+1) (w6:=w9) (P:=Q) (Q:=P) HPO.out.lt HE.out.gt h8
     obtain⟨s0,s1,s2,s3,rfl,hone,_⟩:=hput w8;have HPT:Hid (∀ w9,PtW w9 G #[s0,s1,s2,s3]→Wr G w8 w9→OutS (w.heap.size+1) w9 G (F4 (Q) P)):=fun w9 hp hw=>by
      obtain⟨q0,q1,q2,q3,e,_,k⟩:=hput w9;cases e;exact k hp hw
     have HON:=hdI <| hone
     have HP8:=hdI <| HPO.out.below h8b HPO.out.lt
     have HE8:=hdI <| HE.out.call h8b
     clear h8 h8b hput hone CS HE HPO HPB;go_wp2_with (first
      |(refine wpList_storePt rfl (.tmp 7) (.tmp 40) rfl G s0 s1 s2 s3 _ HON.out.1 HON.out.2.1 HON.out.2.2.1 HON.out.2.2.2 rfl rfl rfl HP8.out ?_)
      |fail)
     intro w9 hp9 hw9;have HO9:=hdI <| HPT.out w9 hp9 hw9
     have HE9:=hdI <| HE8.out.wr hw9
     clear hp9 hw9 HPT HON HP8 HE8;go_wp2;go_roundw
     case rel=>exact⟨i,by omega,by go_num,by rw[HN.out],HE9.out,by rw[HN.out];exact HO9.out⟩
     case measure=>simp[intOf]
   |true=>
    obtain⟨h0,k0,h1,k1,h2,k2,h3,k3,hp,hf0,hf1,hf2,hf3,hne⟩:=hO;have CS:=sum_any (some ⟨h0,0,none⟩) (some ⟨h1,0,none⟩) (some ⟨h2,0,none⟩) (some ⟨h3,0,none⟩) (some ⟨h0,0,none⟩) (some ⟨h1,0,none⟩) (some ⟨h2,0,none⟩) (some ⟨h3,0,none⟩) (some ⟨gd,0,none⟩) k0 k1 k2 k3 k0 k1 k2 k3 cd _ _ _ _ _ _ _ _ mdD wr (fun e he=>by
     simp only[List.mem_cons,List.not_mem_nil,or_false] at he;rcases he with rfl|rfl|rfl|rfl|rfl|rfl|rfl|rfl|rfl
     ·exact hf0
     ·exact hf1
     ·exact hf2
     ·exact hf3
     ·exact hf0
     ·exact hf1
     ·exact hf2
     ·exact hf3
     ·exact(HFD.out.below hE.below))
    have HPO:=hdI <| hp
    have HE:=hdI <| hE
    clear hp hf0 hf1 hf2 hf3 hne hE;go_wp2_with (first
     |(refine wpList_load_row rfl 79 (.tmp 7) rfl G rfl 79 _ (0,0) _ HPO.out Tryz.underlying79 rfl Tryz.sizePt ?_)
     |fail)
    refine CS.mono ?_;intro e w5 h5;have h5b:Below wr.heap.size wr w5:=by obtain⟨_,_,_,_,_,_,_,_,_,_,_,_,_,b,_⟩:=h5;exact b
    have h5e:∃ v,e=.returned v:=by obtain⟨_,_,_,_,_,_,_,_,r,_⟩:=h5;exact⟨_,r⟩
    obtain⟨v5,rfl⟩:=h5e;have hput:=fun w9=>OutS.put (B:=w.heap.size+1) (w6:=w9) (P:=Q) (Q:=Q) HPO.out.lt HE.out.gt h5
    obtain⟨s0,s1,s2,s3,rfl,hone,_⟩:=hput w5;have HPT:Hid (∀ w9,PtW w9 G #[s0,s1,s2,s3]→Wr G w5 w9→OutS (w.heap.size+1) w9 G (F4 Q Q)):=fun w9 hp hw=>by
     obtain⟨q0,q1,q2,q3,e,_,k⟩:=hput w9;cases e;exact k hp hw
    have HON:=hdI <| hone
    have HP5:=hdI <| HPO.out.below h5b HPO.out.lt
    have HE5:=hdI <| HE.out.call h5b
    clear h5 h5b hput hone CS HE HPO;go_wp2_with (first
     |(refine wpList_storePt rfl (.tmp 7) (.tmp 25) rfl G s0 s1 s2 s3 _ HON.out.1 HON.out.2.1 HON.out.2.2.1 HON.out.2.2.2 rfl rfl rfl HP5.out ?_)
     |fail)
    intro w6 hp6 hw6;have hO:=HPT.out w6 hp6 hw6;have hE:=HE5.out.wr hw6;clear hp6 hw6 HPT HON HP5 HE5;have cK:w6.cell? ⟨kb,ko+i/8,none⟩=some (.int .u8 (ks.getD (i/8) 0)):=by rw[hE.below.cell (p:=⟨kb,ko+i/8,none⟩) HKB.out];exact HKC.out (i/8) (by omega)
    have hx:=HBY.out.get (i/8);have HBIT:=hdI <| byte_bit ks HBY.out i
    have hlt:(i:Int)/8<2:=by omega
    have HE:=hdI <| hE
    have HO:Hid (OutS (w.heap.size+1) w6 G (F4 Q Q)):=hO;clear hE hO;generalize ks.getD (i/8) 0=x at *;obtain⟨hx0,hx1⟩:=hx;have hv:(val 256 ks)/2^i%2=0∨(val 256 ks)/2^i%2=1:=by omega
    have hpp:(0:Int)<2^(i%8):=Int.pow_pos (by decide);have hy0:0≤x/2^(i%8):=Int.ediv_nonneg hx0 (by omega);have hy1:x/2^(i%8)≤x:=Int.ediv_le_self _ hx0;rcases hv with hv|hv
    ·have hvb:vbit (val 256 ks) i=false:=by unfold vbit;rw[hv];rfl
     have hb0:x/2^(i%8)%2=0:=by rw[HBIT.out,hv]
     have HN:Hid ((M (16-i))=(F4 Q Q,true)):=by
      show _=_
      rw[en,hMs.out _ _ _ hM,en2,hvb];rfl
     clear hv HBIT hvb;have ht:(x/2^(i%8)).tmod 2=0:=by rw[Int.tmod_eq_emod_of_nonneg hy0,hb0]
     clear hb0;go_wp2;go_roundw
     case rel=>exact⟨i,by omega,by go_num,by rw[HN.out],HE.out,by rw[HN.out];exact HO.out⟩
     case measure=>simp[intOf]
    ·have hvb:vbit (val 256 ks) i=true:=by unfold vbit;rw[hv];rfl
     have hb0:x/2^(i%8)%2=1:=by rw[HBIT.out,hv]
     have HN:Hid ((M (16-i))=(F4 (F4 Q Q) P,true)):=by
      show _=_
      rw[en,hMs.out _ _ _ hM,en2,hvb];rfl
     clear hv HBIT hvb;have ht:(x/2^(i%8)).tmod 2=1:=by rw[Int.tmod_eq_emod_of_nonneg hy0,hb0]
     clear hb0;obtain⟨h0,k0,h1,k1,h2,k2,h3,k3,hp,hf0,hf1,hf2,hf3,hne⟩:=HO.out;have hE:=HE.out;have CS := sum_any (some ⟨h0,0,none⟩) (some ⟨h1,0,none⟩) (some ⟨h2,0,none⟩) (some ⟨h3,0,none⟩) (some ⟨p0,0,none⟩) (some ⟨p1,0,none⟩) (some ⟨p2,0,none⟩) (some ⟨p3,0,none⟩) (some ⟨gd,0,none⟩) k0 k1 k2 k3 c0 c1 c2 c3 cd _ _ _ _ _ _ _ _ mdD w6 (fun e he=>by
                                                                                                      simp only[List.mem_cons,List.not_mem_nil,or_false] at he
                                                                                                      rcases he with rfl|rfl|rfl|rfl|rfl|rfl|rfl|rfl|rfl
                                                                                                      · exact hf0
                                                                                                      · exact hf1
                                                                                                      · exact hf2
                                                                                                      · exact hf3
                                                                                                      · exact(HF0.out.below hE.below)
                                                                                                      · exact(HF1.out.below hE.below)
                                                                                                      · exact(HF2.out.below hE.below)
                                                                                                      · exact(HF3.out.below hE.below)
                                                                                                      · exact(HFD.out.below hE.below))
     have HPO:=hdI <| hp
     have HPB:=hdI <| hE.pb
     clear hp hf0 hf1 hf2 hf3 hne hE HO;go_wp2_with (first
      |(refine wpList_load_row rfl 79 (.tmp 7) rfl G rfl 79 _ (0,0) _ HPO.out Tryz.underlying79 rfl Tryz.sizePt ?_)
      |(refine wpList_load_row rfl 79 (.tmp 4) rfl w.heap.size rfl 79 _ (0,0) _ HPB.out Tryz.underlying79 rfl Tryz.sizePt ?_)
      |fail)
     refine CS.mono ?_;intro e w8 h8;have h8b:Below w6.heap.size w6 w8:=by obtain⟨_,_,_,_,_,_,_,_,_,_,_,_,_,b,_⟩:=h8;exact b
     have h8e:∃ v,e=.returned v:=by obtain⟨_,_,_,_,_,_,_,_,r,_⟩:=h8;exact⟨_,r⟩
     obtain⟨v8,rfl⟩:=h8e;have hput:=fun w9=>OutS.put (B:=w.heap.size+1) (w6:=w9) (P:=F4 Q Q) (Q:=P) HPO.out.lt HE.out.gt h8
     obtain⟨s0,s1,s2,s3,rfl,hone,_⟩:=hput w8;have HPT:Hid (∀ w9,PtW w9 G #[s0,s1,s2,s3]→Wr G w8 w9→OutS (w.heap.size+1) w9 G (F4 (F4 Q Q) P)):=fun w9 hp hw=>by
      obtain⟨q0,q1,q2,q3,e,_,k⟩:=hput w9;cases e;exact k hp hw
     have HON:=hdI <| hone
     have HP8:=hdI <| HPO.out.below h8b HPO.out.lt
     have HE8:=hdI <| HE.out.call h8b
     clear h8 h8b hput hone CS HE HPO HPB;go_wp2_with (first
      |(refine wpList_storePt rfl (.tmp 7) (.tmp 40) rfl G s0 s1 s2 s3 _ HON.out.1 HON.out.2.1 HON.out.2.2.1 HON.out.2.2.2 rfl rfl rfl HP8.out ?_)
      |fail)
     intro w9 hp9 hw9;have HO9:=hdI <| HPT.out w9 hp9 hw9
     have HE9:=hdI <| HE8.out.wr hw9
     clear hp9 hw9 HPT HON HP8 HE8;go_wp2;go_roundw
     case rel=>exact⟨i,by omega,by go_num,by rw[HN.out],HE9.out,by rw[HN.out];exact HO9.out⟩
     case measure=>simp[intOf]
  ·have hj00:j=0:=by omega
   subst hj00;obtain⟨h0,k0,h1,k1,h2,k2,h3,k3,hp,hf0,hf1,hf2,hf3,hne⟩:=hO;have HNE:Hid (h0≠w.heap.size+1∧h1≠w.heap.size+1∧h2≠w.heap.size+1∧h3≠w.heap.size+1):=by obtain⟨_,q1,q2,q3,q4⟩:=hne;exact⟨by omega,by omega,by omega,by omega⟩
   clear hne;have HPO:=hdI <| hp
   have HRS:=hdI <| hE.rs
   have HFF:Hid (FeA wr (some ⟨h0,0,none⟩) (M 16).1.1∧FeA wr (some ⟨h1,0,none⟩) (M 16).1.2.1∧FeA wr (some ⟨h2,0,none⟩) (M 16).1.2.2.1∧FeA wr (some ⟨h3,0,none⟩) (M 16).1.2.2.2∧Below w.heap.size w wr):=⟨hf0,hf1,hf2,hf3,hE.below⟩
   clear hp hf0 hf1 hf2 hf3;go_wp2_with (first
    |(refine wpList_load_row rfl 79 (.tmp 7) rfl G rfl 79 _ (0,0) _ HPO.out Tryz.underlying79 rfl Tryz.sizePt ?_)
    |(refine wpList_storePt rfl (.tmp 6) (.tmp 41) rfl (w.heap.size+1) _ _ _ _ _ rfl rfl rfl rfl rfl rfl rfl HRS.out ?_)
    |fail)
   intro w7 hp7 hw7;have HP7:Hid (PtW w7 (w.heap.size+1) #[.slice (some ⟨h0,0,none⟩) 16 k0,.slice (some ⟨h1,0,none⟩) 16 k1,.slice (some ⟨h2,0,none⟩) 16 k2,.slice (some ⟨h3,0,none⟩) 16 k3]):=hp7;have HF7:Hid (TimP w (M 16).1 (.returned (.agg #[.slice (some ⟨h0,0,none⟩) 16 k0,.slice (some ⟨h1,0,none⟩) 16 k1,.slice (some ⟨h2,0,none⟩) 16 k2,.slice (some ⟨h3,0,none⟩) 16 k3])) w7):=by
    obtain⟨q1,q2,q3,q4,q5⟩:=HFF.out;exact⟨h0,k0,h1,k1,h2,k2,h3,k3,rfl,q1.wr hw7 HNE.out.1,q2.wr hw7 HNE.out.2.1,q3.wr hw7 HNE.out.2.2.1,q4.wr hw7 HNE.out.2.2.2,q5.trans (hw7.below (by omega))⟩
   clear hp7 hw7 HPO HRS HFF HNE;go_wp2;exact bodyPost_ret (v:=.agg #[.slice (some ⟨h0,0,none⟩) 16 k0,.slice (some ⟨h1,0,none⟩) 16 k1,.slice (some ⟨h2,0,none⟩) 16 k2,.slice (some ⟨h3,0,none⟩) 16 k3]) (results_cell_row rfl _ _ (w.heap.size+1) 79 _ (0,0) _ rfl HP7.out Tryz.underlying79 rfl Tryz.sizePt) rfl HF7.out
def mS2 (V:Int) (P:Q4):Nat→Q4×Bool
 |0=>(idQ,false)
 |n+1=>bif vbit V (15-n) then(F4 (bif (mS2 V P n).2 then F4 (mS2 V P n).1 (mS2 V P n).1 else(mS2 V P n).1) P,true) else(bif (mS2 V P n).2 then F4 (mS2 V P n).1 (mS2 V P n).1 else(mS2 V P n).1,(mS2 V P n).2)
theorem ltimes2_any (kp:Option Addr) (kc:Nat) (ks:List Int) (p0 p1 p2 p3 gd c0 c1 c2 c3 cd:Nat) (P:Q4) (w:World) (hk:ks.length=2) (hb:Byte ks) (ha:At .u8 w kp ks)
  (h0:FeA w (some ⟨p0,0,none⟩) P.1) (h1:FeA w (some ⟨p1,0,none⟩) P.2.1) (h2:FeA w (some ⟨p2,0,none⟩) P.2.2.1) (h3:FeA w (some ⟨p3,0,none⟩) P.2.2.2) (hd:FeA w (some ⟨gd,0,none⟩) mdD) :
  Calls Tryz.prog 36 #[.slice kp 2 kc,.agg #[.slice (some ⟨p0,0,none⟩) 16 c0,.slice (some ⟨p1,0,none⟩) 16 c1,.slice (some ⟨p2,0,none⟩) 16 c2,.slice (some ⟨p3,0,none⟩) 16 c3],.slice (some ⟨gd,0,none⟩) 16 cd] w (TimP w (mS2 (val 256 ks) P 16).1):=
 ltimes2_gen (mS2 (val 256 ks) P) kp kc ks p0 p1 p2 p3 gd c0 c1 c2 c3 cd P w hk hb ha h0 h1 h2 h3 hd rfl (fun n Q b h=>by simp only[mS2,h])
def tkB (zs:List Int):Bool:=decide (zs.length=72) && (decide (zs.getD 0 0=84) && decide (zs.getD 1 0=49))
def tkS (zs:List Int):Int:=zs.getD 2 0+256*zs.getD 3 0
def tkE (zs:List Int):Int:=zs.getD 4 0+256*zs.getD 5 0+65536*zs.getD 6 0+16777216*zs.getD 7 0
def tkV (zs:List Int):Value:=bif tkB zs then .agg #[.bool true,.int .i64 (tkS zs),.int .i64 (tkE zs)] else .agg #[.bool false,.int .i64 0,.int .i64 0]
theorem tkV_no {zs:List Int} (h:tkB zs=false):tkV zs=.agg #[.bool false,.int .i64 0,.int .i64 0]:=by unfold tkV;rw[h];rfl
theorem tkV_yes {zs:List Int} (h:tkB zs=true):tkV zs=.agg #[.bool true,.int .i64 (tkS zs),.int .i64 (tkE zs)]:=by unfold tkV;rw[h];rfl
theorem drop_two (zs:List Int) (k:Nat) (h:k+2≤zs.length):(zs.drop k).take 2=[zs.getD k 0,zs.getD (k+1) 0]:=by
 apply List.ext_getElem
 ·simp;omega
 ·intro i h1 h2;have:i=0∨i=1:=by simp at h2;omega
  rcases this with rfl|rfl
  ·simp[List.getD,show k<zs.length by omega]
  ·simp[List.getD,show k+1<zs.length by omega]
theorem drop_four (zs:List Int) (k:Nat) (h:k+4≤zs.length):(zs.drop k).take 4=[zs.getD k 0,zs.getD (k+1) 0,zs.getD (k+2) 0,zs.getD (k+3) 0]:=by
 apply List.ext_getElem
 ·simp;omega
 ·intro i h1 h2;have:i=0∨i=1∨i=2∨i=3:=by simp at h2;omega
  rcases this with rfl|rfl|rfl|rfl
  ·simp[List.getD,show k<zs.length by omega]
  ·simp[List.getD,show k+1<zs.length by omega]
  ·simp[List.getD,show k+2<zs.length by omega]
  ·simp[List.getD,show k+3<zs.length by omega]
theorem tkS_eq {zs:List Int} (h:zs.length=72):val 256 ((zs.drop 2).take 2)=tkS zs:=by
 rw[drop_two zs 2 (by omega)];unfold tkS;simp only[val,show 2+1=3 from rfl];omega
theorem tkE_eq {zs:List Int} (h:zs.length=72):val 256 ((zs.drop 4).take 4)=tkE zs:=by
 rw[drop_four zs 4 (by omega)];unfold tkE;simp only[val,show 4+1=5 from rfl,show 4+2=6 from rfl,show 4+3=7 from rfl];omega
theorem At.sub {k:IntKind} {w:World} {b off:Nat} {zs:List Int} (hb:b<w.heap.size) (h:∀ i,i<zs.length→w.cell? ⟨b,off+i,none⟩=some (.int k (zs.getD i 0))) (p m:Nat) (hp:p+m≤zs.length) :
  At k w (some ⟨b,off+p,none⟩) ((zs.drop p).take m):=by
 refine .inr ⟨b,off+p,rfl,hb,fun i hi=>?_⟩;have hi':i<m:=by simp at hi;omega
 rw[Nat.add_assoc,h (p+i) (by omega)];simp[List.getD,hi',show p+i<zs.length by omega]
theorem Byte.sub {zs:List Int} (h:Byte zs) (p m:Nat):Byte ((zs.drop p).take m):=fun z hz=>h z (List.mem_of_mem_drop (List.mem_of_mem_take hz))
theorem below_drewQ {B:Nat} {a w:World} (h:Below B a w) (n:Nat):Below B a (w.drewN n):=⟨h.os,h.tape,h.output,h.size,h.block⟩
set_option maxRecDepth 100000 in
set_option maxHeartbeats 1000000 in
theorem ptI_any (a:Option Addr) (n cap:Nat) (zs:List Int) (w:World) (hn:zs.length=n) (hm:n≤1048576) (hcap:n≤cap) (ha:At .u8 w a zs) (hz:Byte zs) :
  Calls Tryz.prog 91 #[.slice a n cap] w fun e w'=>e=.returned (tkV zs)∧Below w.heap.size w w':=by
 have HBN:Hid (Below w.heap.size w (w.alloc (.cells #[.bool false,.int .i64 0,.int .i64 0] 86))):=(Below.refl _ _).alloc (Nat.le_refl _) _;have HSF:Hid ((Tryz.prog.info? 86).map (·.size)=some 3):=by show _=_;kernel_rfl
 by_cases h72:n=72
 ·subst h72;obtain⟨b,off,rfl,hb,hc⟩:=ha.get (by omega);have hb':b≠w.heap.size:=by omega
  have c0:(w.alloc (.cells #[.bool false,.int .i64 0,.int .i64 0] 86)).cell? ⟨b,off,none⟩=some (.int .u8 (zs.getD 0 0)):=by rw[World.cell?_alloc_old _ _ _ hb'];exact hc 0 (by omega)
  have c1:(w.alloc (.cells #[.bool false,.int .i64 0,.int .i64 0] 86)).cell? ⟨b,off+1,none⟩=some (.int .u8 (zs.getD 1 0)):=by rw[World.cell?_alloc_old _ _ _ hb'];exact hc 1 (by omega)
  have HTB:Hid (tkB zs=(decide (zs.getD 0 0=84) && decide (zs.getD 1 0=49))):=by show _=_;unfold tkB;rw[hn];rfl
  by_cases h0:zs.getD 0 0=84
  ·rw[h0] at c0;by_cases h1:zs.getD 1 0=49
   ·have HV:=hdI <| tkV_yes (by rw[HTB.out,h0,h1];rfl)
    rw[h1] at c1;clear h0 h1;clear HTB;have AT:∀(p m:Nat) (q:Nat),p+m≤72→At .u8 ((w.alloc (.cells #[.bool false,.int .i64 0,.int .i64 0] 86)).drewN q) (some ⟨b,off+p,none⟩) ((zs.drop p).take m):=fun p m q h=>
     At.sub (w:=(w.alloc (.cells #[.bool false,.int .i64 0,.int .i64 0] 86)).drewN q) (show b<((w.alloc (.cells #[.bool false,.int .i64 0,.int .i64 0] 86))).heap.size by simp;omega) (fun i hi=>by show((w.alloc (.cells #[.bool false,.int .i64 0,.int .i64 0] 86))).cell? _=_;rw[World.cell?_alloc_old _ _ _ hb'];exact hc i hi) p m (by omega)
    have C2:Hid (∀ q,Calls Tryz.prog 101 #[.slice (some ⟨b,off+2,none⟩) 2 (cap-2)] ((w.alloc (.cells #[.bool false,.int .i64 0,.int .i64 0] 86)).drewN q) fun e w'=>e=.returned (.int .i64 (tkS zs))∧w'=(w.alloc (.cells #[.bool false,.int .i64 0,.int .i64 0] 86)).drewN q):=fun q=>by
     rw[←tkS_eq hn];exact le_any _ 2 (cap-2) _ _ (by simp;omega) (by decide) (AT 2 2 q (by decide)) (hz.sub 2 2)
    have C4:Hid (∀ q,Calls Tryz.prog 101 #[.slice (some ⟨b,off+4,none⟩) 4 (cap-4)] ((w.alloc (.cells #[.bool false,.int .i64 0,.int .i64 0] 86)).drewN q) fun e w'=>e=.returned (.int .i64 (tkE zs))∧w'=(w.alloc (.cells #[.bool false,.int .i64 0,.int .i64 0] 86)).drewN q):=fun q=>by
     rw[←tkE_eq hn];exact le_any _ 4 (cap-4) _ _ (by simp;omega) (by decide) (AT 4 4 q (by decide)) (hz.sub 4 4)
    clear AT;have x1:(4:Int)≤(cap:Int):=by omega
    have x2:(8:Int)≤(cap:Int):=by omega
    have x3:¬ cap=2:=by omega
    have x4:¬ cap=4:=by omega
    go_enter Tryz.func91,Tryz.ntmps91;go_wp2_with fail;refine wp_region_any (by kernel_rfl) ?_;refine wpAny_slotsL 7 (fun w w'=>True) (frame:=(fun (a b c d e f g h i j k l m n o p q r s:Value)=>fun (t:Nat→Value)=>({ tmps:=List.toArray [a,b,c,d,e,f,g,h,i,j,k,l,m,n,o,p,q,r,s,t 0,t 1,t 2,t 3,t 4,t 5,t 6],defers:=[] }:Act)) _ _ _ _ _ _ _ _ _ _ _ _ _ _ _ _ _ _ _)
     (Ext:=fun w'=>∃ q,w'=(w.alloc (.cells #[.bool false,.int .i64 0,.int .i64 0] 86)).drewN q) (Good:=fun i _ v=>if i=0 then v=.slice (some ⟨b,off,none⟩) 72 cap else if i=1 then v=.slice (some ⟨b,off+2,none⟩) 2 (cap-2) else if i=2 then v=.int .i64 (tkS zs) else if i=3 then v=.slice (some ⟨b,off,none⟩) 72 cap else if i=4 then v=.slice (some ⟨b,off+4,none⟩) 4 (cap-4) else if i=5 then v=.int .i64 (tkE zs) else if i=6 then v=.agg #[.bool true,.int .i64 (tkS zs),.int .i64 (tkE zs)] else True) (by rfl) (by kernel_rfl) (fun i w w' v _ h=>h) (by kernel_rfl) (by kernel_rfl) ?hop ?hend _ _ ((fun (x0 x1 x2 x3 x4 x5 x6:Value)=>fun (i:Nat)=>if i=0 then x0 else if i=1 then x1 else if i=2 then x2 else if i=3 then x3 else if i=4 then x4 else if i=5 then x5 else if i=6 then x6 else undef) _ _ _ _ _ _ _) _ (by simp) (by simp) ?ext ?start (by simp)
    case start=>intro i hi h;exact absurd h (by rw[Array.getD_eq_getD_getElem?,Array.getElem?_replicate];split<;>simp)
    case ext=>exact⟨1,rfl⟩
    case hop=>
     intro i o t w' hil ho hx hdep K hK;obtain⟨q,rfl⟩:=hx;obtain rfl|rfl|rfl|rfl|rfl|rfl|rfl:i=0∨i=1∨i=2∨i=3∨i=4∨i=5∨i=6:=by omega
     all_goals(simp at ho;subst ho)
     ·clear hdep;have hK':=hK ((w.alloc (.cells #[.bool false,.int .i64 0,.int .i64 0] 86)).drewN q) (.slice (some ⟨b,off,none⟩) 72 cap) (by simp) ⟨q,rfl⟩ trivial;clear hK;go_simp;simpa[upd] using hK'
     ·have d0:t 0=.slice (some ⟨b,off,none⟩) 72 cap:=by simpa using hdep ⟨0,.data⟩ (by simp) rfl
      clear hdep;have hK':=hK ((w.alloc (.cells #[.bool false,.int .i64 0,.int .i64 0] 86)).drewN q) (.slice (some ⟨b,off+2,none⟩) 2 (cap-2)) (by simp) ⟨q,rfl⟩ trivial;clear hK;go_simp;simpa[upd,d0] using hK'
     ·have d1:t 1=.slice (some ⟨b,off+2,none⟩) 2 (cap-2):=by simpa using hdep ⟨1,.data⟩ (by simp) rfl
      clear hdep;have hK':=hK ((w.alloc (.cells #[.bool false,.int .i64 0,.int .i64 0] 86)).drewN q) (.int .i64 (tkS zs)) (by simp) ⟨q,rfl⟩ trivial;clear hK;go_simp;try simp only[d1]
      refine(C2.out q).mono ?_;rintro e w9 ⟨rfl,rfl⟩;go_simp;simpa[upd,d1] using hK'
     ·clear hdep;have hK':=hK ((w.alloc (.cells #[.bool false,.int .i64 0,.int .i64 0] 86)).drewN q) (.slice (some ⟨b,off,none⟩) 72 cap) (by simp) ⟨q,rfl⟩ trivial;clear hK;go_simp;simpa[upd] using hK'
     ·have d3:t 3=.slice (some ⟨b,off,none⟩) 72 cap:=by simpa using hdep ⟨3,.data⟩ (by simp) rfl
      clear hdep;have hK':=hK ((w.alloc (.cells #[.bool false,.int .i64 0,.int .i64 0] 86)).drewN q) (.slice (some ⟨b,off+4,none⟩) 4 (cap-4)) (by simp) ⟨q,rfl⟩ trivial;clear hK;go_simp;simpa[upd,d3] using hK'
     ·have d4:t 4=.slice (some ⟨b,off+4,none⟩) 4 (cap-4):=by simpa using hdep ⟨4,.data⟩ (by simp) rfl
      clear hdep;have hK':=hK ((w.alloc (.cells #[.bool false,.int .i64 0,.int .i64 0] 86)).drewN q) (.int .i64 (tkE zs)) (by simp) ⟨q,rfl⟩ trivial;clear hK;go_simp;try simp only[d4]
      refine(C4.out q).mono ?_;rintro e w9 ⟨rfl,rfl⟩;go_simp;simpa[upd,d4] using hK'
     ·have d2:t 2=.int .i64 (tkS zs):=by simpa using hdep ⟨2,.data⟩ (by simp) rfl
      have d5:t 5=.int .i64 (tkE zs):=by simpa using hdep ⟨5,.data⟩ (by simp) rfl
      clear hdep;have hK':=hK ((w.alloc (.cells #[.bool false,.int .i64 0,.int .i64 0] 86)).drewN q) (.agg #[.bool true,.int .i64 (tkS zs),.int .i64 (tkE zs)]) (by simp) ⟨q,rfl⟩ trivial;clear hK;go_simp;simpa[upd,d2,d5] using hK'
    case hend=>
     intro o t w' ho hx hg K hK;obtain⟨q,rfl⟩:=hx;simp at ho;subst ho;have d0:t 0=.slice (some ⟨b,off,none⟩) 72 cap:=by simpa using hg 0 (by decide)
     have d1:t 1=.slice (some ⟨b,off+2,none⟩) 2 (cap-2):=by simpa using hg 1 (by decide)
     have d2:t 2=.int .i64 (tkS zs):=by simpa using hg 2 (by decide)
     have d3:t 3=.slice (some ⟨b,off,none⟩) 72 cap:=by simpa using hg 3 (by decide)
     have d4:t 4=.slice (some ⟨b,off+4,none⟩) 4 (cap-4):=by simpa using hg 4 (by decide)
     have d5:t 5=.int .i64 (tkE zs):=by simpa using hg 5 (by decide)
     have d6:t 6=.agg #[.bool true,.int .i64 (tkS zs),.int .i64 (tkE zs)]:=by simpa using hg 6 (by decide)
     clear hg;refine wp_store_row 86 (.tmp 2) (.tmp 25) rfl w.heap.size #[.bool true,.int .i64 (tkS zs),.int .i64 (tkE zs)] rfl d6 86 _ (show((w.alloc (.cells #[.bool false,.int .i64 0,.int .i64 0] 86))).heap[w.heap.size]?=_ from heap_alloc_new w _) HSF.out rfl (by simp[Value.oneCell']) ?_;apply hK;have HR5:Hid (((((w.alloc (.cells #[.bool false,.int .i64 0,.int .i64 0] 86))).drewN q).setRow w.heap.size #[.bool true,.int .i64 (tkS zs),.int .i64 (tkE zs)]).heap[w.heap.size]?=some (.cells #[.bool true,.int .i64 (tkS zs),.int .i64 (tkE zs)] 86 (0,0))):=
      setRow_heap _ _ _ _ _ _ (show((w.alloc (.cells #[.bool false,.int .i64 0,.int .i64 0] 86))).heap[w.heap.size]?=_ from heap_alloc_new w _)
     have HB5:Hid (Below w.heap.size w ((((w.alloc (.cells #[.bool false,.int .i64 0,.int .i64 0] 86))).drewN q).setRow w.heap.size #[.bool true,.int .i64 (tkS zs),.int .i64 (tkE zs)])):=
      (below_drewQ HBN.out q).trans ((Wr.setRow _ _ _).below (Nat.le_refl _))
     generalize (((w.alloc (.cells #[.bool false,.int .i64 0,.int .i64 0] 86))).drewN q).setRow w.heap.size #[.bool true,.int .i64 (tkS zs),.int .i64 (tkE zs)]=w5 at *;clear hK d0 d1 d2 d3 d4 d5;go_wp2_with fail;refine bodyPost_ret (v:=.agg #[.bool true,.int .i64 (tkS zs),.int .i64 (tkE zs)]) (results_cell_row rfl _ _ w.heap.size 86 _ (0,0) _ rfl HR5.out Tryz.underlying86 rfl HSF.out) rfl ⟨by rw[HV.out],HB5.out⟩
   ·have HV:=hdI <| tkV_no (by rw[HTB.out,h0];simpa using h1)
    have h1':(zs.getD 1 0 == 49)=false:=by simpa using h1
    clear hc HTB h0 h1;generalize zs.getD 1 0=z1 at *;go_enter Tryz.func91,Tryz.ntmps91;go_wp2;refine bodyPost_ret (v:=.agg #[.bool false,.int .i64 0,.int .i64 0]) (results_cell_row rfl _ _ w.heap.size 86 _ (0,0) _ rfl (heap_alloc_new w _) Tryz.underlying86 rfl HSF.out) rfl ⟨by rw[HV.out],HBN.out⟩
  ·have HV:=hdI <| tkV_no (by rw[HTB.out,decide_eq_false h0];rfl)
   have h0':(zs.getD 0 0 != 84)=true:=by simpa using h0
   clear hc HTB c1;generalize zs.getD 0 0=z0 at *;go_enter Tryz.func91,Tryz.ntmps91;go_wp2;refine bodyPost_ret (v:=.agg #[.bool false,.int .i64 0,.int .i64 0]) (results_cell_row rfl _ _ w.heap.size 86 _ (0,0) _ rfl (heap_alloc_new w _) Tryz.underlying86 rfl HSF.out) rfl ⟨by rw[HV.out],HBN.out⟩
 ·have HV:Hid (tkV zs=.agg #[.bool false,.int .i64 0,.int .i64 0]):=tkV_no (by unfold tkB;rw[decide_eq_false (by omega)];rfl);have h72':¬ ((n:Int)=72):=by omega
  have h73:((n:Int) != 72)=true:=by simpa using h72'
  clear ha h72;go_enter Tryz.func91,Tryz.ntmps91;go_wp2;refine bodyPost_ret (v:=.agg #[.bool false,.int .i64 0,.int .i64 0]) ?res rfl ?post
  case res=>exact(results_cell_row rfl _ _ w.heap.size 86 _ (0,0) _ rfl (heap_alloc_new w _) Tryz.underlying86 rfl HSF.out)
  case post=>exact⟨by rw[HV.out],HBN.out⟩
theorem tkE_u32 {zs:List Int} (hz:Byte zs):0≤tkE zs∧tkE zs<4294967296:=by
 have h4:=hz.get 4;have h5:=hz.get 5;have h6:=hz.get 6;have h7:=hz.get 7;unfold tkE;omega
set_option maxHeartbeats 400000 in
theorem getE_any (b off cap:Nat) (zs:List Int) (w:World) (hc:∀ i,i<zs.length→w.cell? ⟨b,off+i,none⟩=some (.int .u8 (zs.getD i 0))) (hz:Byte zs) (hl:zs.length=72) :
  Calls Tryz.prog 68 #[.slice (some ⟨b,off,none⟩) 72 cap,.int .i64 4] w fun e w'=>e=.returned (.int .u32 (tkE zs))∧∃ q,w'=w.drewN q:=by
 have c0:=hc 4 (by omega);have c1:=hc 5 (by omega);have c2:=hc 6 (by omega);have c3:=hc 7 (by omega);have b0:=hz.get 4;have b1:=hz.get 5;have b2:=hz.get 6;have b3:=hz.get 7;have HN:Hid (tkE zs=zs.getD 4 0+256*zs.getD 5 0+65536*zs.getD 6 0+16777216*zs.getD 7 0):=rfl;generalize zs.getD 4 0=x0 at *;generalize zs.getD 5 0=x1 at *;generalize zs.getD 6 0=x2 at *;generalize zs.getD 7 0=x3 at *;clear hc;obtain⟨b01,b02⟩:=b0;obtain⟨b11,b12⟩:=b1;obtain⟨b21,b22⟩:=b2;obtain⟨b31,b32⟩:=b3;go_enter Tryz.func68,Tryz.ntmps68;go_wp2
 go_quiet (fail)
 go_wp2
 go_ret
 exact⟨ret_int (by rw[HN.out]),nq,rfl⟩
set_option maxRecDepth 100000 in
set_option maxHeartbeats 1000000 in
theorem ptS_any (a:Option Addr) (n cap:Nat) (zs:List Int) (w:World) (hn:zs.length=n) (hm:n≤1048576) (hcap:n≤cap) (ha:At .u8 w a zs) (hz:Byte zs) :
  Calls Tryz.prog 42 #[.slice a n cap] w fun e w'=>e=.returned (tkV zs)∧Below w.heap.size w w':=by
 have HBN:Hid (Below w.heap.size w (w.alloc (.cells #[.bool false,.int .i64 0,.int .i64 0] 86))):=(Below.refl _ _).alloc (Nat.le_refl _) _;have HSF:Hid ((Tryz.prog.info? 86).map (·.size)=some 3):=by show _=_;kernel_rfl
 by_cases h72:n=72
 ·subst h72;obtain⟨b,off,rfl,hb,hc⟩:=ha.get (by omega);have hb':b≠w.heap.size:=by omega
  have c0:(w.alloc (.cells #[.bool false,.int .i64 0,.int .i64 0] 86)).cell? ⟨b,off,none⟩=some (.int .u8 (zs.getD 0 0)):=by rw[World.cell?_alloc_old _ _ _ hb'];exact hc 0 (by omega)
  have c1:(w.alloc (.cells #[.bool false,.int .i64 0,.int .i64 0] 86)).cell? ⟨b,off+1,none⟩=some (.int .u8 (zs.getD 1 0)):=by rw[World.cell?_alloc_old _ _ _ hb'];exact hc 1 (by omega)
  have HTB:Hid (tkB zs=(decide (zs.getD 0 0=84) && decide (zs.getD 1 0=49))):=by show _=_;unfold tkB;rw[hn];rfl
  by_cases h0:zs.getD 0 0=84
  ·rw[h0] at c0;by_cases h1:zs.getD 1 0=49
   ·have HV:=hdI <| tkV_yes (by rw[HTB.out,h0,h1];rfl)
    rw[h1] at c1;clear h0 h1;clear HTB;have b2:=hz.get 2;have b3:=hz.get 3;have c2:((w.alloc (.cells #[.bool false,.int .i64 0,.int .i64 0] 86))).cell? ⟨b,off+2,none⟩=some (.int .u8 (zs.getD 2 0)):=by rw[World.cell?_alloc_old _ _ _ hb'];exact hc 2 (by omega)
    have c3:((w.alloc (.cells #[.bool false,.int .i64 0,.int .i64 0] 86))).cell? ⟨b,off+3,none⟩=some (.int .u8 (zs.getD 3 0)):=by rw[World.cell?_alloc_old _ _ _ hb'];exact hc 3 (by omega)
    have C4:Hid (∀ q,Calls Tryz.prog 68 #[.slice (some ⟨b,off,none⟩) 72 cap,.int .i64 4] ((w.alloc (.cells #[.bool false,.int .i64 0,.int .i64 0] 86)).drewN q) fun e w'=>e=.returned (.int .u32 (tkE zs))∧∃ p,w'=(w.alloc (.cells #[.bool false,.int .i64 0,.int .i64 0] 86)).drewN p):=fun q=>
     (getE_any b off cap zs ((w.alloc (.cells #[.bool false,.int .i64 0,.int .i64 0] 86)).drewN q) (fun i hi=>by show((w.alloc (.cells #[.bool false,.int .i64 0,.int .i64 0] 86))).cell? _=_;rw[World.cell?_alloc_old _ _ _ hb'];exact hc i hi) hz hn).mono (fun e w' ⟨h,p,h'⟩=>⟨h,q+p,by rw[h'];simp[World.drewN,Nat.add_assoc]⟩)
    have hE:=tkE_u32 hz;have HS9:Hid (zs.getD 2 0+256*zs.getD 3 0=tkS zs):=rfl;obtain⟨hE0,hE1⟩:=hE;obtain⟨b20,b21⟩:=b2;obtain⟨b30,b31⟩:=b3;clear hc;generalize zs.getD 2 0=z2 at *;generalize zs.getD 3 0=z3 at *;have W1:IntKind.i64.wrap z2=z2:=by rw[IntKind.wrap_i64];omega
    have W2:IntKind.i64.wrap z3=z3:=by rw[IntKind.wrap_i64];omega
    have W3:IntKind.i64.wrap (256*z3)=256*z3:=by rw[IntKind.wrap_i64];omega
    have W4:IntKind.i64.wrap (z2+256*z3)=z2+256*z3:=by rw[IntKind.wrap_i64];omega
    have W5:IntKind.i64.wrap (tkE zs)=tkE zs:=by rw[IntKind.wrap_i64];omega
    go_enter Tryz.func42,Tryz.ntmps42;go_wp2_with fail;refine wp_region_any (by kernel_rfl) ?_;refine wpAny_slotsL 14 (fun w w'=>True) (frame:=(fun (a b c d e f g h i j k l m n o p q r s:Value)=>fun (t:Nat→Value)=>({ tmps:=List.toArray [a,b,c,d,e,f,g,h,i,j,k,l,m,n,o,p,q,r,s,t 0,t 1,t 2,t 3,t 4,t 5,t 6,t 7,t 8,t 9,t 10,t 11,t 12,t 13],defers:=[] }:Act)) _ _ _ _ _ _ _ _ _ _ _ _ _ _ _ _ _ _ _)
     (Ext:=fun w'=>∃ q,w'=(w.alloc (.cells #[.bool false,.int .i64 0,.int .i64 0] 86)).drewN q) (Good:=fun i _ v=>if i=0 then v=.slice (some ⟨b,off,none⟩) 72 cap else if i=1 then v=.pointer (some ⟨b,off+2,none⟩) else if i=2 then v=.int .u8 z2 else if i=3 then v=.int .i64 z2 else if i=4 then v=.slice (some ⟨b,off,none⟩) 72 cap else if i=5 then v=.pointer (some ⟨b,off+3,none⟩) else if i=6 then v=.int .u8 z3 else if i=7 then v=.int .i64 z3 else if i=8 then v=.int .i64 (256*z3) else if i=9 then v=.int .i64 (z2+256*z3) else if i=10 then v=.slice (some ⟨b,off,none⟩) 72 cap else if i=11 then v=.int .u32 (tkE zs) else if i=12 then v=.int .i64 (tkE zs) else if i=13 then v=.agg #[.bool true,.int .i64 (z2+256*z3),.int .i64 (tkE zs)] else True) (by rfl) (by kernel_rfl) (fun i w w' v _ h=>h) (by kernel_rfl) (by kernel_rfl) ?hop ?hend _ _ ((fun (x0 x1 x2 x3 x4 x5 x6 x7 x8 x9 x10 x11 x12 x13:Value)=>fun (i:Nat)=>if i=0 then x0 else if i=1 then x1 else if i=2 then x2 else if i=3 then x3 else if i=4 then x4 else if i=5 then x5 else if i=6 then x6 else if i=7 then x7 else if i=8 then x8 else if i=9 then x9 else if i=10 then x10 else if i=11 then x11 else if i=12 then x12 else if i=13 then x13 else undef) _ _ _ _ _ _ _ _ _ _ _ _ _ _) _ (by simp) (by simp) ?ext ?start (by simp)
    case start=>intro i hi h;exact absurd h (by rw[Array.getD_eq_getD_getElem?,Array.getElem?_replicate];split<;>simp)
    case ext=>exact⟨1,rfl⟩
    case hop=>
     intro i o t w' hil ho hx hdep K hK;obtain⟨q,rfl⟩:=hx;obtain rfl|rfl|rfl|rfl|rfl|rfl|rfl|rfl|rfl|rfl|rfl|rfl|rfl|rfl:i=0∨i=1∨i=2∨i=3∨i=4∨i=5∨i=6∨i=7∨i=8∨i=9∨i=10∨i=11∨i=12∨i=13:=by omega
     all_goals(simp at ho;subst ho)
     ·clear hdep;have hK':=hK ((w.alloc (.cells #[.bool false,.int .i64 0,.int .i64 0] 86)).drewN q) (.slice (some ⟨b,off,none⟩) 72 cap) (by simp) ⟨q,rfl⟩ trivial;clear hK;go_simp;simpa[upd,W1,W2,W3,W4,W5] using hK'
     ·have d0:t 0=.slice (some ⟨b,off,none⟩) 72 cap:=by simpa using hdep ⟨0,.data⟩ (by simp) rfl
      clear hdep;have hK':=hK ((w.alloc (.cells #[.bool false,.int .i64 0,.int .i64 0] 86)).drewN q) (.pointer (some ⟨b,off+2,none⟩)) (by simp) ⟨q,rfl⟩ trivial;clear hK;go_simp;simpa[upd,d0,W1,W2,W3,W4,W5] using hK'
     ·have d1:t 1=.pointer (some ⟨b,off+2,none⟩):=by simpa using hdep ⟨1,.data⟩ (by simp) rfl
      clear hdep;have hK':=hK ((w.alloc (.cells #[.bool false,.int .i64 0,.int .i64 0] 86)).drewN q) (.int .u8 z2) (by simp) ⟨q,rfl⟩ trivial;clear hK;go_simp;simpa[upd,d1,W1,W2,W3,W4,W5] using hK'
     ·have d2:t 2=.int .u8 z2:=by simpa using hdep ⟨2,.data⟩ (by simp) rfl
      clear hdep;have hK':=hK ((w.alloc (.cells #[.bool false,.int .i64 0,.int .i64 0] 86)).drewN q) (.int .i64 z2) (by simp) ⟨q,rfl⟩ trivial;clear hK;go_simp;simpa[upd,d2,W1,W2,W3,W4,W5] using hK'
     ·clear hdep;have hK':=hK ((w.alloc (.cells #[.bool false,.int .i64 0,.int .i64 0] 86)).drewN q) (.slice (some ⟨b,off,none⟩) 72 cap) (by simp) ⟨q,rfl⟩ trivial;clear hK;go_simp;simpa[upd,W1,W2,W3,W4,W5] using hK'
     ·have d4:t 4=.slice (some ⟨b,off,none⟩) 72 cap:=by simpa using hdep ⟨4,.data⟩ (by simp) rfl
      clear hdep;have hK':=hK ((w.alloc (.cells #[.bool false,.int .i64 0,.int .i64 0] 86)).drewN q) (.pointer (some ⟨b,off+3,none⟩)) (by simp) ⟨q,rfl⟩ trivial;clear hK;go_simp;simpa[upd,d4,W1,W2,W3,W4,W5] using hK'
     ·have d5:t 5=.pointer (some ⟨b,off+3,none⟩):=by simpa using hdep ⟨5,.data⟩ (by simp) rfl
      clear hdep;have hK':=hK ((w.alloc (.cells #[.bool false,.int .i64 0,.int .i64 0] 86)).drewN q) (.int .u8 z3) (by simp) ⟨q,rfl⟩ trivial;clear hK;go_simp;simpa[upd,d5,W1,W2,W3,W4,W5] using hK'
     ·have d6:t 6=.int .u8 z3:=by simpa using hdep ⟨6,.data⟩ (by simp) rfl
      clear hdep;have hK':=hK ((w.alloc (.cells #[.bool false,.int .i64 0,.int .i64 0] 86)).drewN q) (.int .i64 z3) (by simp) ⟨q,rfl⟩ trivial;clear hK;go_simp;simpa[upd,d6,W1,W2,W3,W4,W5] using hK'
     ·have d7:t 7=.int .i64 z3:=by simpa using hdep ⟨7,.data⟩ (by simp) rfl
      clear hdep;have hK':=hK ((w.alloc (.cells #[.bool false,.int .i64 0,.int .i64 0] 86)).drewN q) (.int .i64 (256*z3)) (by simp) ⟨q,rfl⟩ trivial;clear hK;go_simp;simpa[upd,d7,W1,W2,W3,W4,W5] using hK'
     ·have d3:t 3=.int .i64 z2:=by simpa using hdep ⟨3,.data⟩ (by simp) rfl
      have d8:t 8=.int .i64 (256*z3):=by simpa using hdep ⟨8,.data⟩ (by simp) rfl
      clear hdep;have hK':=hK ((w.alloc (.cells #[.bool false,.int .i64 0,.int .i64 0] 86)).drewN q) (.int .i64 (z2+256*z3)) (by simp) ⟨q,rfl⟩ trivial;clear hK;go_simp;simpa[upd,d3,d8,W1,W2,W3,W4,W5] using hK'
     ·clear hdep;have hK':=hK ((w.alloc (.cells #[.bool false,.int .i64 0,.int .i64 0] 86)).drewN q) (.slice (some ⟨b,off,none⟩) 72 cap) (by simp) ⟨q,rfl⟩ trivial;clear hK;go_simp;simpa[upd,W1,W2,W3,W4,W5] using hK'
     ·have d10:t 10=.slice (some ⟨b,off,none⟩) 72 cap:=by simpa using hdep ⟨10,.data⟩ (by simp) rfl
      clear hdep;have hK':=fun p=>hK ((w.alloc (.cells #[.bool false,.int .i64 0,.int .i64 0] 86)).drewN p) (.int .u32 (tkE zs)) (by simp) ⟨p,rfl⟩ trivial
      clear hK;go_simp;try simp only[d10]
      refine(C4.out q).mono ?_;rintro e w9 ⟨rfl,p,rfl⟩;have hK2:=hK' p;clear hK';go_simp;simpa[upd,d10] using hK2
     ·have d11:t 11=.int .u32 (tkE zs):=by simpa using hdep ⟨11,.data⟩ (by simp) rfl
      clear hdep;have hK':=hK ((w.alloc (.cells #[.bool false,.int .i64 0,.int .i64 0] 86)).drewN q) (.int .i64 (tkE zs)) (by simp) ⟨q,rfl⟩ trivial;clear hK;go_simp;simpa[upd,d11,W1,W2,W3,W4,W5] using hK'
     ·have d9:t 9=.int .i64 (z2+256*z3):=by simpa using hdep ⟨9,.data⟩ (by simp) rfl
      have d12:t 12=.int .i64 (tkE zs):=by simpa using hdep ⟨12,.data⟩ (by simp) rfl
      clear hdep;have hK':=hK ((w.alloc (.cells #[.bool false,.int .i64 0,.int .i64 0] 86)).drewN q) (.agg #[.bool true,.int .i64 (z2+256*z3),.int .i64 (tkE zs)]) (by simp) ⟨q,rfl⟩ trivial;clear hK;go_simp;simpa[upd,d9,d12,W1,W2,W3,W4,W5] using hK'
    case hend=>
     intro o t w' ho hx hg K hK;obtain⟨q,rfl⟩:=hx;simp at ho;subst ho;have d0:t 0=.slice (some ⟨b,off,none⟩) 72 cap:=by simpa using hg 0 (by decide)
     have d1:t 1=.pointer (some ⟨b,off+2,none⟩):=by simpa using hg 1 (by decide)
     have d2:t 2=.int .u8 z2:=by simpa using hg 2 (by decide)
     have d3:t 3=.int .i64 z2:=by simpa using hg 3 (by decide)
     have d4:t 4=.slice (some ⟨b,off,none⟩) 72 cap:=by simpa using hg 4 (by decide)
     have d5:t 5=.pointer (some ⟨b,off+3,none⟩):=by simpa using hg 5 (by decide)
     have d6:t 6=.int .u8 z3:=by simpa using hg 6 (by decide)
     have d7:t 7=.int .i64 z3:=by simpa using hg 7 (by decide)
     have d8:t 8=.int .i64 (256*z3):=by simpa using hg 8 (by decide)
     have d9:t 9=.int .i64 (z2+256*z3):=by simpa using hg 9 (by decide)
     have d10:t 10=.slice (some ⟨b,off,none⟩) 72 cap:=by simpa using hg 10 (by decide)
     have d11:t 11=.int .u32 (tkE zs):=by simpa using hg 11 (by decide)
     have d12:t 12=.int .i64 (tkE zs):=by simpa using hg 12 (by decide)
     have d13:t 13=.agg #[.bool true,.int .i64 (z2+256*z3),.int .i64 (tkE zs)]:=by simpa using hg 13 (by decide)
     clear hg;refine wp_store_row 86 (.tmp 2) (.tmp 32) rfl w.heap.size #[.bool true,.int .i64 (z2+256*z3),.int .i64 (tkE zs)] rfl d13 86 _ (show((w.alloc (.cells #[.bool false,.int .i64 0,.int .i64 0] 86))).heap[w.heap.size]?=_ from heap_alloc_new w _) HSF.out rfl (by simp[Value.oneCell']) ?_;apply hK;have HR5:Hid (((((w.alloc (.cells #[.bool false,.int .i64 0,.int .i64 0] 86))).drewN q).setRow w.heap.size #[.bool true,.int .i64 (z2+256*z3),.int .i64 (tkE zs)]).heap[w.heap.size]?=some (.cells #[.bool true,.int .i64 (z2+256*z3),.int .i64 (tkE zs)] 86 (0,0))):=
      setRow_heap _ _ _ _ _ _ (show((w.alloc (.cells #[.bool false,.int .i64 0,.int .i64 0] 86))).heap[w.heap.size]?=_ from heap_alloc_new w _)
     have HB5:Hid (Below w.heap.size w ((((w.alloc (.cells #[.bool false,.int .i64 0,.int .i64 0] 86))).drewN q).setRow w.heap.size #[.bool true,.int .i64 (z2+256*z3),.int .i64 (tkE zs)])):=
      (below_drewQ HBN.out q).trans ((Wr.setRow _ _ _).below (Nat.le_refl _))
     generalize (((w.alloc (.cells #[.bool false,.int .i64 0,.int .i64 0] 86))).drewN q).setRow w.heap.size #[.bool true,.int .i64 (z2+256*z3),.int .i64 (tkE zs)]=w5 at *;clear hK d0 d1 d2 d3 d4 d5 d6 d7 d8 d9 d10 d11 d12;go_wp2_with fail;refine bodyPost_ret (v:=.agg #[.bool true,.int .i64 (z2+256*z3),.int .i64 (tkE zs)]) (results_cell_row rfl _ _ w.heap.size 86 _ (0,0) _ rfl HR5.out Tryz.underlying86 rfl HSF.out) rfl ⟨by rw[HV.out,←HS9.out],HB5.out⟩
   ·have HV:=hdI <| tkV_no (by rw[HTB.out,h0];simpa using h1)
    have h1':(zs.getD 1 0 == 49)=false:=by simpa using h1
    clear hc HTB h0 h1;generalize zs.getD 1 0=z1 at *;go_enter Tryz.func42,Tryz.ntmps42;go_wp2;refine bodyPost_ret (v:=.agg #[.bool false,.int .i64 0,.int .i64 0]) (results_cell_row rfl _ _ w.heap.size 86 _ (0,0) _ rfl (heap_alloc_new w _) Tryz.underlying86 rfl HSF.out) rfl ⟨by rw[HV.out],HBN.out⟩
  ·have HV:=hdI <| tkV_no (by rw[HTB.out,decide_eq_false h0];rfl)
   have h0':(zs.getD 0 0 != 84)=true:=by simpa using h0
   clear hc HTB c1;generalize zs.getD 0 0=z0 at *;go_enter Tryz.func42,Tryz.ntmps42;go_wp2;refine bodyPost_ret (v:=.agg #[.bool false,.int .i64 0,.int .i64 0]) (results_cell_row rfl _ _ w.heap.size 86 _ (0,0) _ rfl (heap_alloc_new w _) Tryz.underlying86 rfl HSF.out) rfl ⟨by rw[HV.out],HBN.out⟩
 ·have HV:Hid (tkV zs=.agg #[.bool false,.int .i64 0,.int .i64 0]):=tkV_no (by unfold tkB;rw[decide_eq_false (by omega)];rfl);have h72':¬ ((n:Int)=72):=by omega
  have h73:((n:Int) != 72)=true:=by simpa using h72'
  clear ha h72;go_enter Tryz.func42,Tryz.ntmps42;go_wp2;refine bodyPost_ret (v:=.agg #[.bool false,.int .i64 0,.int .i64 0]) ?res rfl ?post
  case res=>exact(results_cell_row rfl _ _ w.heap.size 86 _ (0,0) _ rfl (heap_alloc_new w _) Tryz.underlying86 rfl HSF.out)
  case post=>exact⟨by rw[HV.out],HBN.out⟩
end Go.Proofs.YtncomnkdlpoelaaGreatDoor
