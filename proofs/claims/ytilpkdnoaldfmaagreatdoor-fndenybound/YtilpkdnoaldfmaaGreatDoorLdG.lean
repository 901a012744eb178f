import Derived.Test.YtilpkdnoaldfmaaGreatDoorMDkJ
namespace Go.Proofs.YtilpkdnoaldfmaaGreatDoor
open Go.ChangeShapes Go.WideShapes Go.ChangeAt Go.RowKit
set_option linter.unusedVariables false
theorem nwK_a {zs:List Int} {ps:List PD} {q:Nat} (h:(dkF (slZ zs ps q)).ok=false):nwK zs ps (q+1)=nwK zs ps q:=by
 have e:slF zs ps q=dkNo:=by unfold slF;rw[if_neg (by rw[h];simp)]
 show(if _ then _ else _)=_
 rw[if_neg (by rw[e];simp[dkNo])]
theorem nwK_b {zs:List Int} {ps:List PD} {q:Nat} (h:¬ (dkF (slZ zs ps q)).g%2=(q:Int)):nwK zs ps (q+1)=nwK zs ps q:=by
 have e:slF zs ps q=dkNo:=by unfold slF;rw[if_neg (fun k=>h k.2)]
 show(if _ then _ else _)=_
 rw[if_neg (by rw[e];simp[dkNo])]
theorem slF_yes {zs:List Int} {ps:List PD} {q:Nat} (h:(dkF (slZ zs ps q)).ok=true) (h2:(dkF (slZ zs ps q)).g%2=(q:Int)):slF zs ps q=dkF (slZ zs ps q):=by unfold slF;rw[if_pos ⟨h,h2⟩]
theorem nwK_c {zs:List Int} {ps:List PD} {q:Nat} (h:(dkF (slZ zs ps q)).ok=true) (h2:(dkF (slZ zs ps q)).g%2=(q:Int)) (h3:(nwK zs ps q).ok=false∨(nwK zs ps q).g<(dkF (slZ zs ps q)).g):nwK zs ps (q+1)=dkF (slZ zs ps q):=by
 have e:=slF_yes h h2;show(if _ then _ else _)=_
 rw[e,if_pos ⟨h,h3⟩]
theorem nwK_d {zs:List Int} {ps:List PD} {q:Nat} (h:(dkF (slZ zs ps q)).ok=true) (h2:(dkF (slZ zs ps q)).g%2=(q:Int)) (h3:(nwK zs ps q).ok=true) (h4:¬ (nwK zs ps q).g<(dkF (slZ zs ps q)).g):nwK zs ps (q+1)=nwK zs ps q:=by
 have e:=slF_yes h h2;show(if _ then _ else _)=_
 rw[e,if_neg (by rw[h3];simp;intro _;omega)]
theorem dkF_u32 {zs:List Int} (h:Byte zs):0≤(dkF zs).g∧(dkF zs).g<4294967296:=by
 unfold dkF;split
 ·have:=num4_u3n zs h 0;unfold U32 at this;exact⟨by show 0≤num4 zs 0;omega,by show num4 zs 0<_;omega⟩
 ·exact⟨by decide,by decide⟩
structure NX (w:World) (r:DkR) (wr:World):Prop where
 bel:Below w.heap.size w wr
 res:wr.heap[w.heap.size]?=some (.cells #[.bool false,.int .u32 0,.int .u32 0,.slice none 0 0,.slice none 0 0] 106 (0,0))
 new:∃ aD nD cD aU nU cU,wr.heap[w.heap.size+1]?=some (.cells #[.bool r.ok,.int .u32 r.g,.int .u32 r.t,.slice aD nD cD,.slice aU nU cU] 106 (0,0))∧S3 (w.heap.size+2) wr aD aU none nD nU 0 r.D r.U []
theorem NX.lt {w wr:World} {r:DkR} (h:NX w r wr):w.heap.size+1<wr.heap.size:=by obtain⟨_,_,_,_,_,_,h1,_⟩:=h.new;exact(Array.getElem?_eq_some_iff.1 h1).1
theorem NX.below {w wr w':World} {r:DkR} (h:NX w r wr) (b:Below wr.heap.size wr w'):NX w r w':=by
 have hl:=h.lt;obtain⟨aD,nD,cD,aU,nU,cU,h1,h2⟩:=h.new;exact⟨h.bel.trans (b.mono h.bel.size),by rw[b.block _ (by omega)];exact h.res,aD,nD,cD,aU,nU,cU,by rw[b.block _ hl];exact h1,h2.below b⟩
theorem NX.start (w:World):NX w dkNo ((w.alloc (.cells #[.bool false,.int .u32 0,.int .u32 0,.slice none 0 0,.slice none 0 0] 106)).alloc (.cells #[.bool false,.int .u32 0,.int .u32 0,.slice none 0 0,.slice none 0 0] 106)):=by
 refine⟨((Below.refl _ _).alloc (Nat.le_refl _) _).alloc (by simp) _,?_,none,0,0,none,0,0,?_,.inl rfl,.inl rfl,.inl rfl,rfl,rfl,rfl,fun _ h=>(by cases h),fun _ h=>(by cases h),fun _ h=>(by cases h),fun _ _ h=>(by cases h),fun _ _ h=>(by cases h),fun _ _ h=>(by cases h)⟩
 ·rw[Below.heap_alloc _ _ w.heap.size (by simp)];exact heap_alloc_new w _
 ·have:=heap_alloc_new (w.alloc (.cells #[.bool false,.int .u32 0,.int .u32 0,.slice none 0 0,.slice none 0 0] 106)) (.cells #[.bool false,.int .u32 0,.int .u32 0,.slice none 0 0,.slice none 0 0] 106);rw[World.size_alloc] at this;exact this
set_option maxRecDepth 100000 in
set_option maxHeartbeats 4000000 in
theorem newest_any {w:World} {g:Nat} {a x:Option Addr} {L c m cx:Nat} {f:Int} {d:Bool} {zs:List Int} {ps:List PD} (h:DvI w g a x L c m cx f d zs ps) (F:DvF L c m f zs ps) :
  Calls Tryz.prog 49 #[.pointer (some ⟨g,0,none⟩)] w fun e w'=>∃ v,e=.returned v∧DVA w.heap.size w' v (nwK zs ps 2)∧Below w.heap.size w w':=by
 have HD:=hid_ofL h;have HN0:=hid_ofL (NX.start w);have HSR:Hid ((Tryz.prog.info? 106).map (·.size)=some 5):=by show _=_;kernel_rfl
 clear h;go_enter Tryz.func49,Tryz.ntmps49;go_wp2_with fail
 go_loopw [7] (fun i wr=>∃ q:Nat,q≤2∧i=.int .i64 q∧NX w (nwK zs ps q) wr) (fun i _=>2-(intOf i).toNat)
 case atStart=>exact⟨0,by omega,rfl,HN0.out⟩
 case round=>
  clear HN0;obtain⟨q,hq,rfl,hN⟩:=hrel;have HN:=hid_ofL hN;clear hN;by_cases hlt:q<2
  ·have hlt':(q:Int)<2:=by omega
   obtain⟨sl,sb⟩:=F.sl q hlt;have A:=hid_ofL (rslot_any (HD.out.below (HN.out.bel)) F q hlt);have HU:=hid_ofL (dkF_u32 sb);have hsz:((slZ zs ps q).map (Value.int .u8)).toArray.size=128:=by rw[List.size_toArray,List.length_map];exact sl
   have HSS:Hid ((Tryz.prog.info? 73).map (·.size)=some ((slZ zs ps q).map (Value.int .u8)).toArray.size):=by show _=_;rw[hsz];kernel_rfl
   have HEQ:Hid ((Tryz.zeroCells73).size=((slZ zs ps q).map (Value.int .u8)).toArray.size):=by show _=_;rw[hsz];kernel_rfl
   have HOK:Hid (((slZ zs ps q).map (Value.int .u8)).toArray.all (fun x=>x.oneCell')=true):=by show _=_;simp[Value.oneCell']
   have HLB:=hid_ofL (And.intro sl sb);clear hsz sl sb;go_wp2_with fail;refine A.out.mono ?_;rintro e w1 ⟨rfl,b1⟩;have HN1:=hid_ofL (HN.out.below b1);clear A b1 HN;have HB2:Hid (Below w1.heap.size w1 ((w1.alloc (.cells Tryz.zeroCells73 73)).setRow w1.heap.size ((slZ zs ps q).map (Value.int .u8)).toArray)):=((Below.refl _ _).alloc (Nat.le_refl _) _).trans ((Wr.setRow _ _ _).below (Nat.le_refl _));have HR2:Hid (Row ((w1.alloc (.cells Tryz.zeroCells73 73)).setRow w1.heap.size ((slZ zs ps q).map (Value.int .u8)).toArray) w1.heap.size 73 (slZ zs ps q)):=setRow_heap _ _ _ _ _ _ (heap_alloc_new w1 _);go_wp2_with (first
    |(refine wpList_store_row rfl 73 (.tmp 5) (.tmp 12) rfl w1.heap.size (((slZ zs ps q).map (Value.int .u8)).toArray) rfl rfl 73 _ (heap_alloc_new w1 _) HSS.out HEQ.out HOK.out ?_)
    |fail)
   have HN2:=hid_ofL (HN1.out.below HB2.out);clear HN1 HB2 HSS HEQ HOK;generalize (w1.alloc (.cells Tryz.zeroCells73 73)).setRow w1.heap.size ((slZ zs ps q).map (Value.int .u8)).toArray=w2 at *;have A:=hid_ofL (snap_any w1.heap.size (slZ zs ps q) w2 HR2.out HLB.out.1 HLB.out.2);clear HR2;go_wp2_with fail;refine A.out.mono ?_;rintro e w3 ⟨v3,rfl,hv3,b3⟩;obtain⟨aD,nD,cD,aU,nU,cU,rfl,s3⟩:=hv3;have HN3:=hid_ofL (HN2.out.below b3);have HS3:Hid (S3 (w.heap.size+2) w3 aD aU none nD nU 0 (dkF (slZ zs ps q)).D (dkF (slZ zs ps q)).U []):=by
    have:=HN2.out.lt;exact⟨s3.d,s3.u,s3.t,s3.nd,s3.nu,s3.nt,s3.ld.mono (by omega) (Nat.le_refl _),s3.lu.mono (by omega) (Nat.le_refl _),s3.lt.mono (by omega) (Nat.le_refl _),s3.du,s3.dt,s3.ut⟩
   have Ka:=hid_ofL (nwK_a (zs:=zs) (ps:=ps) (q:=q));have Kb:=hid_ofL (nwK_b (zs:=zs) (ps:=ps) (q:=q));have Kc:=hid_ofL (nwK_c (zs:=zs) (ps:=ps) (q:=q));have Kd:=hid_ofL (nwK_d (zs:=zs) (ps:=ps) (q:=q));clear A b3 s3 HN2 HLB;generalize dkF (slZ zs ps q)=s at *;have hB4:Below w3.heap.size w3 ((w3.alloc (.cells #[.bool false,.int .u32 0,.int .u32 0,.slice none 0 0,.slice none 0 0] 106)).setRow w3.heap.size #[.bool s.ok,.int .u32 s.g,.int .u32 s.t,.slice aD nD cD,.slice aU nU cU]):=((Below.refl _ _).alloc (Nat.le_refl _) _).trans ((Wr.setRow _ _ _).below (Nat.le_refl _));have HR4:Hid (((w3.alloc (.cells #[.bool false,.int .u32 0,.int .u32 0,.slice none 0 0,.slice none 0 0] 106)).setRow w3.heap.size #[.bool s.ok,.int .u32 s.g,.int .u32 s.t,.slice aD nD cD,.slice aU nU cU]).heap[w3.heap.size]?=some (.cells #[.bool s.ok,.int .u32 s.g,.int .u32 s.t,.slice aD nD cD,.slice aU nU cU] 106 (0,0))):=setRow_heap _ _ _ _ _ _ (heap_alloc_new w3 _);have HN4:=hid_ofL (HN3.out.below hB4);have HS4:=hid_ofL (HS3.out.below hB4);have hl3:=HN3.out.lt;clear hB4
   go_upto_region 7 with (first
    |(refine wpList_store_row rfl 106 (.tmp 6) (.tmp 13) rfl w3.heap.size #[.bool s.ok,.int .u32 s.g,.int .u32 s.t,.slice aD nD cD,.slice aU nU cU] rfl rfl 106 _ (heap_alloc_new w3 _) HSR.out rfl (all5s _ _ _ _ _ _ _ _ _) ?_)
    |fail)
   clear HN3 HS3;generalize (w3.alloc (.cells #[.bool false,.int .u32 0,.int .u32 0,.slice none 0 0,.slice none 0 0] 106)).setRow w3.heap.size #[.bool s.ok,.int .u32 s.g,.int .u32 s.t,.slice aD nD cD,.slice aU nU cU]=w4 at *;generalize w3.heap.size=Q at *;have c0:=cell_of_row w4 Q 0 _ _ _ HR4.out;have c1:=cell_of_row w4 Q 1 _ _ _ HR4.out;simp at c0 c1;generalize hr:nwK zs ps q=r at *;obtain⟨bD,mD,kD,bU,mU,kU,hnw,hns⟩:=HN4.out.new;have n0:=cell_of_row w4 (w.heap.size+1) 0 _ _ _ hnw;have n1:=cell_of_row w4 (w.heap.size+1) 1 _ _ _ hnw;simp at n0 n1;clear hnw hns;obtain⟨u0,u1⟩:=HU.out;cases hok:s.ok with
   |false=>
    have HK:=hid_ofL (Ka.out hok);rw[hok] at c0;clear Ka Kb Kc Kd n0 n1 c1 HS4;go_wp2;go_roundw
    case rel=>exact⟨q+1,by omega,by go_num,by rw[HK.out];exact HN4.out⟩
    case measure=>simp[intOf];omega
   |true=>
    rw[hok] at c0;have hmod:s.g%2=0∨s.g%2=1:=by omega
    go_wp2_with fail;refine(slotOf_any s.g u0 u1 _).mono ?_;rintro e w9 ⟨rfl,h9⟩;obtain rfl:w4=w9:=h9.symm;by_cases he:s.g%2=(q:Int)
    ·have hne:(s.g%2 != (q:Int))=false:=by simp[he]
     cases hrk:r.ok with
     |false=>
      have HK:=hid_ofL (Kc.out hok he (.inl hrk));rw[hrk] at n0;clear Ka Kb Kc Kd;have HR5:Hid (w4.heap[Q]?=some (.cells #[.bool true,.int .u32 s.g,.int .u32 s.t,.slice aD nD cD,.slice aU nU cU] 106 (0,0))):=by show _=_;have:=HR4.out;rw[hok] at this;exact this
      have HNT:Hid (NX w s (w4.setRow (w.heap.size+1) #[.bool true,.int .u32 s.g,.int .u32 s.t,.slice aD nD cD,.slice aU nU cU])):=by
       have hw:=Wr.setRow (w.heap.size+1) w4 #[.bool true,.int .u32 s.g,.int .u32 s.t,.slice aD nD cD,.slice aU nU cU];obtain⟨_,_,_,_,_,_,hnw,_⟩:=HN4.out.new;exact⟨HN4.out.bel.trans (hw.below (Nat.le_succ _)),by rw[hw.block _ (by omega)];exact HN4.out.res,aD,nD,cD,aU,nU,cU,by rw[hok];exact setRow_heap _ _ _ _ _ _ hnw,HS4.out.keep (by rw[hw.size];exact Nat.le_refl _) (fun k hk _=>hw.block k (by omega))⟩
      have HNW:Hid (∃ cs,cs.size=5∧w4.heap[w.heap.size+1]?=some (.cells cs 106 (0,0))):=by obtain⟨_,_,_,_,_,_,hnw,_⟩:=HN4.out.new;exact⟨_,rfl,hnw⟩
      obtain⟨cs,hcs,hnw⟩:=HNW.out;have HCS:=hid_ofL hcs;have HNW2:=hid_ofL hnw;clear hcs hnw HNW HN4 HS4;go_wp2_with (first
       |(refine wpList_load_row rfl 106 (.tmp 6) rfl Q rfl 106 _ (0,0) _ HR5.out Tryz.underlying106 rfl HSR.out ?_)
       |(refine wpList_store_row rfl 106 (.tmp 3) (.tmp 37) rfl (w.heap.size+1) #[.bool true,.int .u32 s.g,.int .u32 s.t,.slice aD nD cD,.slice aU nU cU] rfl rfl 106 _ HNW2.out HSR.out HCS.out (all5s _ _ _ _ _ _ _ _ _) ?_)
       |fail)
      clear n0 n1 c0 c1 HR4 HR5 HNW2;generalize w4.setRow (w.heap.size+1) #[.bool true,.int .u32 s.g,.int .u32 s.t,.slice aD nD cD,.slice aU nU cU]=w5 at *;go_wp2;go_roundw
      case rel=>exact⟨q+1,by omega,by go_num,by rw[HK.out];exact HNT.out⟩
      case measure=>simp[intOf];omega
     |true=>
      rw[hrk] at n0;by_cases hgt:r.g<s.g
      ·have HK:=hid_ofL (Kc.out hok he (.inr hgt));clear Ka Kb Kc Kd;have HR5:Hid (w4.heap[Q]?=some (.cells #[.bool true,.int .u32 s.g,.int .u32 s.t,.slice aD nD cD,.slice aU nU cU] 106 (0,0))):=by show _=_;have:=HR4.out;rw[hok] at this;exact this
       have HNT:Hid (NX w s (w4.setRow (w.heap.size+1) #[.bool true,.int .u32 s.g,.int .u32 s.t,.slice aD nD cD,.slice aU nU cU])):=by
        have hw:=Wr.setRow (w.heap.size+1) w4 #[.bool true,.int .u32 s.g,.int .u32 s.t,.slice aD nD cD,.slice aU nU cU];obtain⟨_,_,_,_,_,_,hnw,_⟩:=HN4.out.new;exact⟨HN4.out.bel.trans (hw.below (Nat.le_succ _)),by rw[hw.block _ (by omega)];exact HN4.out.res,aD,nD,cD,aU,nU,cU,by rw[hok];exact setRow_heap _ _ _ _ _ _ hnw,HS4.out.keep (by rw[hw.size];exact Nat.le_refl _) (fun k hk _=>hw.block k (by omega))⟩
       have HNW:Hid (∃ cs,cs.size=5∧w4.heap[w.heap.size+1]?=some (.cells cs 106 (0,0))):=by obtain⟨_,_,_,_,_,_,hnw,_⟩:=HN4.out.new;exact⟨_,rfl,hnw⟩
       obtain⟨cs,hcs,hnw⟩:=HNW.out;have HCS:=hid_ofL hcs;have HNW2:=hid_ofL hnw;clear hcs hnw HNW HN4 HS4;go_wp2_with (first
        |(refine wpList_load_row rfl 106 (.tmp 6) rfl Q rfl 106 _ (0,0) _ HR5.out Tryz.underlying106 rfl HSR.out ?_)
        |(refine wpList_store_row rfl 106 (.tmp 3) (.tmp 37) rfl (w.heap.size+1) #[.bool true,.int .u32 s.g,.int .u32 s.t,.slice aD nD cD,.slice aU nU cU] rfl rfl 106 _ HNW2.out HSR.out HCS.out (all5s _ _ _ _ _ _ _ _ _) ?_)
        |fail)
       clear n0 n1 c0 c1 HR4 HR5 HNW2;generalize w4.setRow (w.heap.size+1) #[.bool true,.int .u32 s.g,.int .u32 s.t,.slice aD nD cD,.slice aU nU cU]=w5 at *;go_wp2;go_roundw
       case rel=>exact⟨q+1,by omega,by go_num,by rw[HK.out];exact HNT.out⟩
       case measure=>simp[intOf];omega
      ·have HK:=hid_ofL (Kd.out hok he hrk (by omega));clear Ka Kb Kc Kd HS4;go_wp2;go_roundw
       case rel=>exact⟨q+1,by omega,by go_num,by rw[HK.out];exact HN4.out⟩
       case measure=>simp[intOf];omega
    ·have hne:(s.g%2 != (q:Int))=true:=by simp[he]
     have HK:=hid_ofL (Kb.out he);clear Ka Kb Kc Kd HS4 n0 n1;go_wp2;go_roundw
     case rel=>exact⟨q+1,by omega,by go_num,by rw[HK.out];exact HN4.out⟩
     case measure=>simp[intOf];omega
  ·obtain rfl:q=2:=by omega
   obtain⟨aD,nD,cD,aU,nU,cU,hnw,hns⟩:=HN.out.new;have HW:Hid (wr.heap[w.heap.size+1]?=some (.cells #[.bool (nwK zs ps 2).ok,.int .u32 (nwK zs ps 2).g,.int .u32 (nwK zs ps 2).t,.slice aD nD cD,.slice aU nU cU] 106 (0,0))):=hnw;have HS:=hid_ofL hns;clear hnw hns;obtain⟨r,hr⟩:∃ r,r=nwK zs ps 2:=⟨_,rfl⟩
   rw[←hr] at HW HS;have HRR:=hid_ofL hr;clear hr;go_wp2_with (first
    |(refine wpList_load_row rfl 106 (.tmp 3) rfl (w.heap.size+1) rfl 106 _ (0,0) _ HW.out Tryz.underlying106 rfl HSR.out ?_)
    |(refine wpList_store_row rfl 106 (.tmp 2) (.tmp 39) rfl w.heap.size #[.bool r.ok,.int .u32 r.g,.int .u32 r.t,.slice aD nD cD,.slice aU nU cU] rfl rfl 106 _ HN.out.res HSR.out rfl (all5s _ _ _ _ _ _ _ _ _) ?_)
    |fail)
   (try simp only[Exit.inBlock,Exit.then])
   have hw:=Wr.setRow w.heap.size wr #[.bool r.ok,.int .u32 r.g,.int .u32 r.t,.slice aD nD cD,.slice aU nU cU];have h3:=HS.out.keep (w':=wr.setRow w.heap.size #[.bool r.ok,.int .u32 r.g,.int .u32 r.t,.slice aD nD cD,.slice aU nU cU]) (by rw[hw.size];exact Nat.le_refl _) (fun k hk _=>hw.block k (by omega));refine bodyPost_ret (v:=.agg #[.bool r.ok,.int .u32 r.g,.int .u32 r.t,.slice aD nD cD,.slice aU nU cU]) (results_cell_row rfl _ _ w.heap.size 106 _ (0,0) _ rfl (setRow_heap _ _ _ _ _ _ HN.out.res) Tryz.underlying106 rfl HSR.out) rfl ⟨_,rfl,?_,HN.out.bel.trans (hw.below (Nat.le_refl _))⟩;rw[←HRR.out];exact⟨aD,nD,cD,aU,nU,cU,rfl,h3.d,h3.u,h3.t,h3.nd,h3.nu,h3.nt,h3.ld.mono (by omega) (Nat.le_refl _),h3.lu.mono (by omega) (Nat.le_refl _),h3.lt.mono (by omega) (Nat.le_refl _),h3.du,h3.dt,h3.ut⟩
end Go.Proofs.YtilpkdnoaldfmaaGreatDoor
