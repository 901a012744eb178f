import Derived.Test.YtapejbpgdjbjjaaGreatDoorMVsP
import Derived.Test.YtapejbpgdjbjjaaGreatDoorEpu
import Derived.Test.YtapejbpgdjbjjaaGreatDoorMPOs
import Derived.Test.YtapejbpgdjbjjaaGreatDoorMBb
import Derived.OwnWalk
namespace Go.Proofs.YtapejbpgdjbjjaaGreatDoor
open Go.ChangeShapes Go.WideShapes Go.ChangeAt Go.RowKit
set_option linter.unusedVariables false
structure TQ (w:World) (g m c:Nat) (zs:List Int):Prop where
 len:zs.length=m
 cap:m≤c
 top:m≤1000
 byte:Byte zs
 at_:PtA w g 0 zs
theorem TQ.of_own {w:World} {B g m c:Nat} {zs:List Int} (h:Own w B (.slice (some ⟨g,0,none⟩) m c) zs) (hl:zs.length=m) (hm:m≤1000) (hz:Byte zs):TQ w g m c zs:=by
 obtain⟨g',c',e,hA,hc⟩:=PtA.of_own h
 cases e
 exact⟨hl,by omega,hm,hz,hA⟩
theorem TQ.keep {w w':World} {g m c:Nat} {zs:List Int} (h:TQ w g m c zs) (hb:w'.heap[g]?=w.heap[g]?) (hs:w.heap.size≤w'.heap.size):TQ w' g m c zs:=
 ⟨h.len,h.cap,h.top,h.byte,⟨Nat.lt_of_lt_of_le h.at_.lt hs,fun i hi=>by rw[World.cell?_of_block (w:=w) hb];exact h.at_.c i hi⟩⟩
theorem TQ.below {w w':World} {g m c:Nat} {zs:List Int} (h:TQ w g m c zs) (hb:Below w.heap.size w w'):TQ w' g m c zs:=h.keep (hb.block g h.at_.lt) hb.size
theorem TQ.wrG {w w':World} {G g m c:Nat} {zs:List Int} (h:TQ w g m c zs) (hb:WrG G w w') (hn:g≠G):TQ w' g m c zs:=h.keep (hb.block g h.at_.lt hn) hb.size
theorem TQ.set {w:World} {q i g m c:Nat} {v:Value} {zs:List Int} (h:TQ w g m c zs) (hn:g≠q):TQ (w.setCell ⟨q,i,none⟩ v) g m c zs:=
 h.keep (heap_setCell_other _ _ _ _ (by show g≠q;exact hn)) (by simp only[World.setCell,Array.size_modify];exact Nat.le_refl _)
def DvPost (w:World) (e:Ending) (w':World):Prop:=∃ gp np cp ps gm nm cm ms gs ns cs ss,e=.returned (.tuple #[.slice (some ⟨gp,0,none⟩) np cp,.slice (some ⟨gm,0,none⟩) nm cm,.slice (some ⟨gs,0,none⟩) ns cs])∧
 TQ w' gp np cp ps∧TQ w' gm nm cm ms∧TQ w' gs ns cs ss∧Below w.heap.size w w'
structure VS (w:World) (a:Option Addr) (n cap gm nm cm gp cp gs cs:Nat) (ms ps ss:List Int) (w':World):Prop where
 cur:CurB w' w.heap.size a n cap
 txt:CurT w' w.heap.size a n
 bel:Below w.heap.size w w'
 size:w.heap.size<w'.heap.size
 m:Own w' (w.heap.size+1) (.slice (some ⟨gm,0,none⟩) nm cm) ms
 p:Own w' (w.heap.size+1) (.slice (some ⟨gp,0,none⟩) 32 cp) ps
 s:Own w' (w.heap.size+1) (.slice (some ⟨gs,0,none⟩) 64 cs) ss
theorem VS.wrG {w:World} {a:Option Addr} {n cap gm nm cm gp cp gs cs:Nat} {ms ps ss:List Int} {w1 w2:World} (h:VS w a n cap gm nm cm gp cp gs cs ms ps ss w1) (hc:CurB w2 w.heap.size a n cap) (hw:WrG w.heap.size w1 w2) :
  VS w a n cap gm nm cm gp cp gs cs ms ps ss w2:=by
 have k:∀ k,w.heap.size+1≤k→k<w1.heap.size→w2.heap[k]?=w1.heap[k]?:=fun k h1 h2=>hw.block k h2 (by omega)
 have hs:=h.size
 exact⟨hc,h.txt.wr (fun j hj=>hw.block j (by omega) (by omega)),h.bel.trans (hw.below _ (Nat.le_refl _) (by omega)),Nat.lt_of_lt_of_le h.size hw.size,h.m.keepE k,h.p.keepE k,h.s.keepE k⟩
theorem VS.below {w:World} {a:Option Addr} {n cap gm nm cm gp cp gs cs:Nat} {ms ps ss:List Int} {w1 w2:World} (h:VS w a n cap gm nm cm gp cp gs cs ms ps ss w1) (hb:Below w1.heap.size w1 w2) :
  VS w a n cap gm nm cm gp cp gs cs ms ps ss w2:=h.wrG (h.cur.keepE (hb.block _ h.size)) (WrG.of_below hb)
structure X30 (W:World) (g:Nat) (sv:Value) (L:Nat→Bool) (u:Nat→Value) (w':World):Prop where
 a:L 1=false→w'=W.drew
 b:L 1=true→L 4=false→WrG g W w'∧∃ m,(m=31∨m=32)∧TxO w' W.heap.size (u 1) m
 c:L 4=true→WrG g W w'∧∃ zs,Own w' W.heap.size (u 4) zs∧zs.length≤64∧Byte zs
 d:L 4=true→L 5=true→u 5=u 4
 e:L 4=true→L 1=true
 f:L 5=true→L 4=true
 g5:L 5=false→u 5=sv
 h:L 4=true→L 2=true
theorem updK_mono {L:Nat→Bool} {i j:Nat} (h:L j=true):updK L i j=true:=by unfold updK;split<;>simp[h]
theorem X30.pure {W:World} {g:Nat} {sv:Value} {L:Nat→Bool} {u:Nat→Value} {w':World} (h:X30 W g sv L u w') (i:Nat) (v:Value) (h1:i≠1) (h4:i≠4) (h5:i≠5):X30 W g sv (updK L i) (upd u i v) w':=by
 refine⟨?_,?_,?_,?_,?_,?_,?_,?_⟩<;>simp only[updK_neS L (Ne.symm h1),updK_neS L (Ne.symm h4),updK_neS L (Ne.symm h5),upd_neS u v (Ne.symm h1),upd_neS u v (Ne.symm h4),upd_neS u v (Ne.symm h5)]
 ·exact h.a
 ·exact h.b
 ·exact h.c
 ·exact h.d
 ·exact h.e
 ·exact h.f
 ·exact h.g5
 ·exact fun h4=>updK_mono (h.h h4)
theorem WrG.bel2 {g:Nat} {W w w':World} (h:WrG g W w) (hb:Below W.heap.size w w'):WrG g W w':=h.bel hb
theorem paZ_byte (zs ys:List Int):Byte (paZ zs ys):=by
 unfold paZ;split
 ·next h=>exact h.choose_spec.2.1
 ·intro z hz;cases hz
theorem updK_selfV (L:Nat→Bool) (i:Nat):updK L i i=true:=by unfold updK;simp
theorem lB_len:lB.length=32:=rfl
def LbV (w:World) (v:Value):Prop:=∃ g c,v=.slice (some ⟨g,0,none⟩) 32 c∧32≤c∧PtA w g 0 lB
theorem LbV.below {w w':World} {v:Value} (h:LbV w v) (hb:Below w.heap.size w w'):LbV w' v:=by obtain⟨g,c,e,h1,h2⟩:=h;exact⟨g,c,e,h1,h2.below hb⟩
def LbP (q:Nat) (w:World) (v:Value):Prop:=∃ g,v=.pointer (some ⟨g,q,none⟩)∧PtA w g 0 lB
theorem LbP.below {q:Nat} {w w':World} {v:Value} (h:LbP q w v) (hb:Below w.heap.size w w'):LbP q w' v:=by obtain⟨g,e,h2⟩:=h;exact⟨g,e,h2.below hb⟩
set_option maxRecDepth 100000 in
set_option maxHeartbeats 8000000 in
theorem drawVs_any (a:Option Addr) (n cap:Nat) (cs:List Int) (w:World) (hl:cs.length=n) (hn:n≤1048576) (hz:Byte cs) (ha:At .u8 w a cs) :
  Calls Tryz.prog 4 #[.slice a n cap] w (DvPost w):=by
 go_enter Tryz.func4,Tryz.ntmps4
 go_wp2_with fail
 refine(new_any a n cap cs _ hl hn hz ha).mono ?_
 rintro e w1 ⟨rfl,hc1,B1,s1⟩
 have ht1:CurT w1 w.heap.size a n:=by
  refine⟨hn,cs,hl,hz,?_⟩;rcases ha with h|⟨b,off,e,hb,hcc⟩
  ·exact .inl h
  ·exact .inr ⟨b,off,e,hb,fun i hi=>by rw[B1.cell (p:=⟨b,off+i,none⟩) hb];exact hcc i hi⟩
 clear ha hl hz
 have H1:=hid_ofE (And.intro hc1 (And.intro ht1 (And.intro B1 s1)))
 clear hc1 ht1 B1 s1
 obtain⟨hc,ht,hb,hs⟩:=H1.out
 have HO:=hid_ofE (below_any w.heap.size a n cap 900 _ hc ht (by decide) (by decide))
 clear hc ht hb hs
 go_wp2_with fail
 refine HO.out.mono ?_
 rintro e w2 ⟨xa,rfl,hxa0,hxa1,hc,hw⟩
 have H2:Hid (CurB w2 w.heap.size a n cap∧CurT w2 w.heap.size a n∧Below w.heap.size w w2∧w2.heap.size=w.heap.size+1):=by
  obtain⟨hc',ht,hb,hs⟩:=H1.out;exact⟨hc,ht.wr (fun j hj=>hw.block j (by omega)),hb.trans (hw.below (Nat.le_refl _)),by rw[hw.size];exact hs⟩
 clear HO hc hw H1
 obtain⟨hc,ht,hb,hs⟩:=H2.out
 have HO:=hid_ofE (below_any w.heap.size a n cap 900 _ hc ht (by decide) (by decide))
 clear hc ht hb hs
 go_wp2_with fail
 refine HO.out.mono ?_
 rintro e w3 ⟨xr,rfl,hxr0,hxr1,hc,hw⟩
 have H3:Hid (CurB w3 w.heap.size a n cap∧CurT w3 w.heap.size a n∧Below w.heap.size w w3∧w3.heap.size=w.heap.size+1):=by
  obtain⟨hc',ht,hb,hs⟩:=H2.out;exact⟨hc,ht.wr (fun j hj=>hw.block j (by omega)),hb.trans (hw.below (Nat.le_refl _)),by rw[hw.size];exact hs⟩
 clear HO hc hw H2
 obtain⟨hc,ht,hb,hs⟩:=H3.out
 have HO:=hid_ofE (below_any w.heap.size a n cap 30 _ hc ht (by decide) (by decide))
 clear hc ht hb hs
 go_wp2_with fail
 refine HO.out.mono ?_
 rintro e w4 ⟨xm,rfl,hxm0,hxm1,hc,hw⟩
 have H4:Hid (CurB w4 w.heap.size a n cap∧CurT w4 w.heap.size a n∧Below w.heap.size w w4∧w4.heap.size=w.heap.size+1):=by
  obtain⟨hc',ht,hb,hs⟩:=H3.out;exact⟨hc,ht.wr (fun j hj=>hw.block j (by omega)),hb.trans (hw.below (Nat.le_refl _)),by rw[hw.size];exact hs⟩
 clear HO hc hw H3
 obtain⟨mm,rfl⟩:=Int.eq_ofNat_of_zero_le hxm0
 have hmm:mm≤29:=by omega
 obtain⟨hc,ht,hb,hs⟩:=H4.out
 have HO:=hid_ofE (some_any w.heap.size a n cap mm _ hc ht (by omega) (by omega))
 clear hc ht hb hs
 go_wp2_with fail
 generalize hA:1+xa=A at *
 generalize hR:1+xr=R at *
 have hA0:0≤A:=by omega
 have hA1:A≤1000:=by omega
 have hR0:0≤R:=by omega
 have hR1:R≤1000:=by omega
 clear hA hR hxa0 hxa1 hxr0 hxr1 hxm0 hxm1
 refine HO.out.mono ?_
 rintro e w5 ⟨v5,ms,rfl,O5,mb,ml,hc,hw⟩
 obtain⟨gm,cm,rfl,hgm,hgm',hcm⟩:=O5.base
 rw[ml] at O5 hcm ⊢
 have H5:Hid (CurB w5 w.heap.size a n cap∧CurT w5 w.heap.size a n∧Below w.heap.size w w5∧w.heap.size+1≤w5.heap.size∧w.heap.size+1≤gm∧Own w5 (w.heap.size+1) (.slice (some ⟨gm,0,none⟩) mm cm) ms):=by
  obtain⟨hc',ht,hb,hs⟩:=H4.out;have:=hw.size;exact⟨hc,ht.wr (fun j hj=>hw.block j (by omega) (by omega)),hb.trans (hw.below _ (Nat.le_refl _) (by omega)),by omega,by omega,by rw[←hs];exact O5⟩
 clear HO hc hw H4 O5 hgm
 have HP:=hid_ofE (pubO_any A w5 hA0 hA1)
 go_wp2_with fail
 refine HP.out.mono ?_
 rintro e w6 ⟨v6,rfl,⟨ps,O6,pl,pb⟩,B6⟩
 obtain⟨gp,cp,rfl,hgp,hgp',hcp⟩:=O6.base
 rw[pl] at O6 hcp ⊢
 have H6:Hid (CurB w6 w.heap.size a n cap∧CurT w6 w.heap.size a n∧Below w.heap.size w w6∧w.heap.size+1≤w6.heap.size∧Own w6 (w.heap.size+1) (.slice (some ⟨gm,0,none⟩) mm cm) ms∧Own w6 (w.heap.size+1) (.slice (some ⟨gp,0,none⟩) 32 cp) ps):=by
  obtain⟨hc',ht,hb,hs,hg,ho⟩:=H5.out;have:=B6.size;exact⟨hc'.keepE (B6.block _ (by omega)),ht.wr (fun j hj=>B6.block j (by omega)),hb.trans (B6.mono (by omega)),by omega,ho.keepE (fun k _ hk=>B6.block k hk),O6.monoE hs⟩
 have hmp:gm<gp:=by omega
 have hgG:w.heap.size<gm:=by have:=H5.out.2.2.2.2.1;omega
 clear HP O6 B6 H5 hgp hgm'
 have hAm:=(TQ.of_own H6.out.2.2.2.2.1 ml (by omega) mb).at_
 have HG:=hid_ofE (sign_any A R gm 0 mm cm ms w6 hA0 hA1 hR0 hR1 hAm mb ml (by omega))
 clear hAm
 go_wp2_with fail
 refine HG.out.mono ?_
 rintro e w7 ⟨v7,rfl,⟨ss,O7,sl,sb⟩,B7⟩
 obtain⟨gs,cs7,rfl,hgs,hgs',hcs⟩:=O7.base
 rw[sl] at O7 hcs ⊢
 have HV7:Hid (VS w a n cap gm mm cm gp cp gs cs7 ms ps ss w7):=by
  obtain⟨hc',ht,hb,hs,ho,hp⟩:=H6.out;have:=B7.size;exact⟨hc'.keepE (B7.block _ (by omega)),ht.wr (fun j hj=>B7.block j (by omega)),hb.trans (B7.mono (by omega)),by omega,ho.keepE (fun k _ hk=>B7.block k hk),hp.keepE (fun k _ hk=>B7.block k hk),O7.monoE hs⟩
 have hps:gp<gs:=by omega
 clear HG O7 B7 H6 hgs hgp'
 have HO:=hid_ofE (below_any w.heap.size a n cap 12 _ HV7.out.cur HV7.out.txt (by decide) (by decide))
 go_wp2_with fail
 refine HO.out.mono ?_
 rintro e w8 ⟨k,rfl,hk0,hk1,hc,hw⟩
 have HV8:=hid_ofE (HV7.out.wrG hc hw.wrG)
 clear HO hc hw HV7
 have HO:=hid_ofE (below_any w.heap.size a n cap 255 _ HV8.out.cur HV8.out.txt (by decide) (by decide))
 go_wp2_with fail
 refine HO.out.mono ?_
 rintro e w9 ⟨xx,rfl,hxx0,hxx1,hc,hw⟩
 have HV9:=hid_ofE (HV8.out.wrG hc hw.wrG)
 clear HO hc hw HV8
 have HO:=hid_ofE (below_any w.heap.size a n cap 64 _ HV9.out.cur HV9.out.txt (by decide) (by decide))
 go_wp2_with fail
 refine HO.out.mono ?_
 rintro e w10 ⟨xt,rfl,hxt0,hxt1,hc,hw⟩
 have HV10:=hid_ofE (HV9.out.wrG hc hw.wrG)
 clear HO hc hw HV9
 obtain⟨i,rfl⟩:=Int.eq_ofNat_of_zero_le hxt0
 have hi:i<64:=by omega
 have hi':(i:Int)<64:=by omega
 clear hxt0 hxt1 hgs'
 rcases (show k=0∨k=1∨k=2∨k=3∨k=4∨k=5∨k=6∨k=7∨k=8∨k=9∨k=10∨k=11 by omega) with rfl|rfl|rfl|rfl|rfl|rfl|rfl|rfl|rfl|rfl|rfl|rfl
 ·have hsi:=HV10.out.s.setE sl i (bits .xor .u8 (ss.getD i 0) (1+xx)) hi;obtain⟨c1,f1,q1⟩:=hsi;have ex:(1+xx)%256=1+xx:=by omega
  have HF:=hid_ofE (And.intro ((TQ.of_own HV10.out.p pl (by decide) pb).set (i:=i) (v:=.int .u8 (bits .xor .u8 (ss.getD i 0) (1+xx))) (show gp≠gs by omega)) (And.intro ((TQ.of_own HV10.out.m ml (by omega) mb).set (i:=i) (v:=.int .u8 (bits .xor .u8 (ss.getD i 0) (1+xx))) (show gm≠gs by omega))
   (And.intro (TQ.of_own q1 (by rw[List.length_set];exact sl) (by decide) (byte_setE sb i (xor_bdE _ _))) (HV10.out.bel.trans (below_setE (i:=i) (v:=.int .u8 (bits .xor .u8 (ss.getD i 0) (1+xx))) (show w.heap.size≤gs by omega))))))
  clear q1 HV10;generalize ss.getD i 0=zg at *;go_wp2
  go_ret3
  exact⟨_,_,_,_,_,_,_,_,_,_,_,_,rfl,HF.out.1,HF.out.2.1,HF.out.2.2.1,HF.out.2.2.2⟩
 ·obtain⟨j,hj⟩:∃ j:Nat,(i:Int)/2=(j:Int):=⟨i/2,by omega⟩
  have hj2:(i:Int).tdiv 2=(j:Int):=by rw[Int.tdiv_eq_ediv_of_nonneg (by omega)];exact hj
  have hj3:j<32:=by omega
  have hj4:(j:Int)<32:=by omega
  obtain⟨c1,f1,q1⟩:=HV10.out.p.setE pl j (bits .xor .u8 (ps.getD j 0) (1+xx)) hj3;have ex:(1+xx)%256=1+xx:=by omega
  have HF:=hid_ofE (And.intro (TQ.of_own q1 (by rw[List.length_set];exact pl) (by decide) (byte_setE pb j (xor_bdE _ _))) (And.intro ((TQ.of_own HV10.out.m ml (by omega) mb).set (i:=j) (v:=.int .u8 (bits .xor .u8 (ps.getD j 0) (1+xx))) (show gm≠gp by omega))
   (And.intro ((TQ.of_own HV10.out.s sl (by decide) sb).set (i:=j) (v:=.int .u8 (bits .xor .u8 (ps.getD j 0) (1+xx))) (show gs≠gp by omega)) (HV10.out.bel.trans (below_setE (i:=j) (v:=.int .u8 (bits .xor .u8 (ps.getD j 0) (1+xx))) (show w.heap.size≤gp by omega))))))
  clear q1 HV10;generalize ps.getD j 0=zg at *;go_wp2
  go_ret3
  exact⟨_,_,_,_,_,_,_,_,_,_,_,_,rfl,HF.out.1,HF.out.2.1,HF.out.2.2.1,HF.out.2.2.2⟩
 ·go_wp2_with (at_builtin;refine wpList_app _ rfl _ _ rfl (w.heap.size+1) _ _ rfl (HV10.out.m.alloc _) ⟨w10.heap.size,0,none⟩ 1 1 [1] rfl rfl ?c1 ?c2 ?c3 ?_)
  case c1=>
   intro j hj;obtain rfl:j=0:=by omega
   simp[Addr.add]
  case c2=>rw[ml];omega
  case c3=>have:=HV10.out.size;rw[World.size_alloc];omega
  intro v' w2 O2 B2 G2;have hal:Below w10.heap.size w10 (w10.alloc (.cells #[.int .u8 1] 5)):=(Below.refl _ _).alloc (Nat.le_refl _) _;obtain⟨g2,c2,rfl,hg2,hg2',hc2⟩:=O2.base;have hl2:(ms++[1]).length=mm+1:=by rw[List.length_append,ml];rfl
  rw[hl2] at O2 hc2 ⊢;have HF:Hid (TQ w2 gp 32 cp ps∧TQ w2 g2 (mm+1) c2 (ms++[1])∧TQ w2 gs 64 cs7 ss∧Below w.heap.size w w2):=by
   have p1:=(TQ.of_own HV10.out.p pl (by decide) pb).below hal;have s1:=(TQ.of_own HV10.out.s sl (by decide) sb).below hal;refine⟨p1.keep (G2.block gp p1.at_.lt (by simp[Value.ownBlock];omega)) G2.size,TQ.of_own O2 hl2 (by omega) (byte_app1 mb (by omega)),s1.keep (G2.block gs s1.at_.lt (by simp[Value.ownBlock];omega)) G2.size,HV10.out.bel.trans ((hal.mono (Nat.le_of_lt HV10.out.size)).trans (B2.mono (Nat.le_succ _)))⟩
  clear O2 B2 G2 HV10 hal;go_wp2
  go_ret3
  exact⟨_,_,_,_,_,_,_,_,_,_,_,_,rfl,HF.out.1,HF.out.2.1,HF.out.2.2.1,HF.out.2.2.2⟩
 ·have hsl:∀ w',(Instr.sliceAt 22 (.slice (some ⟨gs,0,none⟩) 64 cs7) (some (.int .i64 32)) none none).run Tryz.prog w'=.ok (.slice (some ⟨gs,32,none⟩) 32 (cs7-32)) w':=fun w'=>by have:=run_sliceHi w' gs 0 cs7 hcs;simpa using this
  have HI:=hid_ofE (And.intro (TQ.of_own HV10.out.p pl (by decide) pb) (And.intro (TQ.of_own HV10.out.m ml (by omega) mb) (And.intro HV10.out.s HV10.out.bel)));clear HV10;go_wp2_with fail
  go_loopw [15,16] (fun c i wr=>∃(q:Nat) (cy:Int) (zs:List Int),q≤32∧i=.int .i64 q∧c=.int .i64 cy∧0≤cy∧cy≤3∧zs.length=64∧Byte zs∧TQ wr gp 32 cp ps∧TQ wr gm mm cm ms∧Own wr (w.heap.size+1) (.slice (some ⟨gs,0,none⟩) 64 cs7) zs∧Below w.heap.size w wr) (fun _ i _=>32-(intOf i).toNat)
  case atStart=>exact⟨0,0,ss,by omega,rfl,rfl,by omega,by omega,sl,sb,HI.out.1,HI.out.2.1,HI.out.2.2.1,HI.out.2.2.2⟩
  case round=>
   clear HI hsl;obtain⟨q,cy,zs,hq,rfl,rfl,cy0,cy1,zl,zb,hTp,hTm,hown,hbel⟩:=hrel;by_cases hlt:q<32
   ·have hlt':(q:Int)<32:=by omega
    obtain⟨c1,_,_⟩:=hown.setE zl (32+q) 0 (by omega);obtain⟨z0,z1⟩:=getD_byteE zb (32+q);obtain⟨y0,y1⟩:=getD_byteE lB_byte q;have hgw:gs<wr.heap.size:=(TQ.of_own hown zl (by decide) zb).at_.lt;have HO:=hid_ofE hown;have HT:=hid_ofE (And.intro hTp (And.intro hTm hbel));clear hown hTp hTm hbel;generalize hzz:zs.getD (32+q) 0=z at *;generalize hyy:lB.getD q 0=y at *;clear hzz;have e0:IntKind.i64.wrap z=z:=by rw[IntKind.wrap_i64];omega
    have e1:IntKind.i64.wrap y=y:=by rw[IntKind.wrap_i64];omega
    have e2:IntKind.i64.wrap (z+y)=z+y:=by rw[IntKind.wrap_i64];omega
    have e3:IntKind.i64.wrap (z+y+cy)=z+y+cy:=by rw[IntKind.wrap_i64];omega
    go_wp2;refine wp_region_any (by kernel_rfl) ?_;refine wpAny_slotsU (fun _ a b=>Below a.heap.size a b) (frame:=(fun (a b c d e f g h i j k l m n o p q r s u v w x y z A B C D E F G H I J K L M N O P Q R S T U V W X Y Z a0 a1 a2 a3 a4 a5 a6 a7 a8 a9 b0 b1 b2 b3 b4 b5 b6 b7 b8 b9 c0 c1 c2 c3 c4 c5 c6 c7 c8 c9 d0 d1 d2 d3 d4 d5 d6 d7 d8 d9 e0 e1 e2 e3 e4 e5 e6 e7 e8 e9 f0 f1 f2 f3 f4 f5 f6 f7 f8 f9 g0 g1 g2 g3 g4 g5 g6 g7 g8 g9 h0 h1 h2 h3 h4 h5 h6 h7 h8 h9 i0 i1 i2 i3 i4 i5 i6 i7 i8 i9 j0:Value)=>fun (t:Nat→Value)=>({ tmps:=List.toArray [a,b,c,d,e,f,g,h,i,j,k,l,m,n,o,p,q,t 13,r,s,u,v,w,x,y,z,A,B,C,D,E,F,G,H,I,J,K,L,M,N,O,P,Q,R,S,T,U,V,W,X,Y,Z,a0,a1,a2,a3,a4,a5,a6,a7,a8,a9,b0,b1,b2,b3,b4,b5,b6,b7,b8,b9,c0,c1,c2,c3,c4,c5,c6,c7,c8,c9,d0,d1,d2,t 0,t 1,t 2,t 3,t 4,t 5,t 6,t 7,t 8,t 9,t 10,t 11,t 12,d3,d4,d5,d6,d7,d8,d9,e0,e1,e2,e3,e4,e5,e6,e7,e8,e9,f0,f1,f2,f3,f4,f5,f6,f7,f8,f9,g0,g1,g2,g3,g4,g5,g6,g7,g8,g9,h0,h1,h2,h3,h4,h5,h6,h7,h8,h9,i0,i1,i2,i3,i4,i5,i6,i7,i8,i9,j0],defers:=[] }:Act)) _ _ _ _ _ _ _ _ _ _ _ _ _ _ _ _ _ _ _ _ _ _ _ _ _ _ _ _ _ _ _ _ _ _ _ _ _ _ _ _ _ _ _ _ _ _ _ _ _ _ _ _ _ _ _ _ _ _ _ _ _ _ _ _ _ _ _ _ _ _ _ _ _ _ _ _ _ _ _ _ _ _ _ _ _ _ _ _ _ _ _ _ _ _ _ _ _ _ _ _ _ _ _ _ _ _ _ _ _ _ _ _ _ _ _ _ _ _ _ _ _ _ _ _ _ _ _ _ _ _ _ _ _ _ _ _ _ _ _ _ _ _)
     (Ext:=fun L u w'=>ApX wr [] L u w') (Good:=fun i L w' v=>if i=0 then v=.slice (some ⟨gs,32,none⟩) 32 (cs7-32) else if i=1 then v=.int .i64 (q:Int) else if i=2 then v=.pointer (some ⟨gs,32+q,none⟩) else if i=3 then v=.int .u8 z else if i=4 then v=.int .i64 z else if i=5 then LbV w' v else if i=6 then v=.int .i64 (q:Int) else if i=7 then LbP q w' v else if i=8 then v=.int .u8 y else if i=9 then v=.int .i64 y else if i=10 then v=.int .i64 (z+y) else if i=11 then v=.int .i64 cy else if i=12 then v=.int .i64 (z+y+cy) else if i=13 then v=.int .i64 (z+y+cy) else True) ?hstab (by kernel_rfl) ?hop ?hdone _ _ ((fun (x0 x1 x2 x3 x4 x5 x6 x7 x8 x9 x10 x11 x12 x13:Value)=>fun (i:Nat)=>if i=0 then x0 else if i=1 then x1 else if i=2 then x2 else if i=3 then x3 else if i=4 then x4 else if i=5 then x5 else if i=6 then x6 else if i=7 then x7 else if i=8 then x8 else if i=9 then x9 else if i=10 then x10 else if i=11 then x11 else if i=12 then x12 else if i=13 then x13 else undef) _ _ _ _ _ _ _ _ _ _ _ _ _ _) _ (by simp) ?ext ?start (by simp)
    case start=>intro i hi h;exact absurd h (by rw[Array.getD_eq_getD_getElem?,Array.getElem?_replicate];split<;>simp)
    case ext=>exact(ApX.start wr [] _ _ (fun i=>by rw[Array.getD_eq_getD_getElem?,Array.getElem?_replicate];split<;>rfl)).drew
    case hstab=>
     intro j L w9 w' i v hM _ _ h;by_cases h5:j=5
     ·subst h5;simp at h ⊢;exact h.below hM
     by_cases h7:j=7
     ·subst h7;simp at h ⊢;exact h.below hM
     simp only[if_neg h5,if_neg h7] at h ⊢;exact h
    case hop=>
     intro i o L t w' ho hLi hx hdep K hK;have hi:i<14:=(Array.getElem?_eq_some_iff.1 ho).1;obtain rfl|rfl|rfl|rfl|rfl|rfl|rfl|rfl|rfl|rfl|rfl|rfl|rfl|rfl:i=0∨i=1∨i=2∨i=3∨i=4∨i=5∨i=6∨i=7∨i=8∨i=9∨i=10∨i=11∨i=12∨i=13:=by omega
     all_goals(simp at ho;subst ho)
     ·clear hdep;have hK':=hK w' (.slice (some ⟨gs,32,none⟩) 32 (cs7-32)) (by simp) (hx.step 0 _ (Below.refl _ _) (fun h=>absurd h (by decide))) (Below.refl _ _);clear hK;rw[if_pos (by rfl)];go_simp;simpa[upd,e0,e1,e2,e3,hlt'] using hK'
     ·clear hdep;have hK':=hK w' (.int .i64 (q:Int)) (by simp) (hx.step 1 _ (Below.refl _ _) (fun h=>absurd h (by decide))) (Below.refl _ _);clear hK;rw[if_pos (by rfl)];go_simp;simpa[upd,e0,e1,e2,e3,hlt'] using hK'
     ·have d0:t 0=.slice (some ⟨gs,32,none⟩) 32 (cs7-32):=by simpa using(hdep ⟨0,.data⟩ (by simp) rfl).2
      have d1:t 1=.int .i64 (q:Int):=by simpa using(hdep ⟨1,.data⟩ (by simp) rfl).2
      clear hdep;have hK':=hK w' (.pointer (some ⟨gs,32+q,none⟩)) (by simp) (hx.step 2 _ (Below.refl _ _) (fun h=>absurd h (by decide))) (Below.refl _ _);clear hK;rw[if_pos (by rfl)];go_simp;simpa[upd,d0,d1,e0,e1,e2,e3,hlt'] using hK'
     ·have d2:t 2=.pointer (some ⟨gs,32+q,none⟩):=by simpa using(hdep ⟨2,.data⟩ (by simp) rfl).2
      clear hdep;have hc:w'.cell? ⟨gs,32+q,none⟩=some (.int .u8 z):=by rw[hx.below.cell (p:=⟨gs,32+q,none⟩) hgw];exact c1
      have hK':=hK w' (.int .u8 z) (by simp) (hx.step 3 _ (Below.refl _ _) (fun h=>absurd h (by decide))) (Below.refl _ _);clear hK;rw[if_pos (by rfl)];go_simp;simpa[upd,d2,e0,e1,e2,e3,hlt'] using hK'
     ·have d3:t 3=.int .u8 z:=by simpa using(hdep ⟨3,.data⟩ (by simp) rfl).2
      clear hdep;have hK':=hK w' (.int .i64 z) (by simp) (hx.step 4 _ (Below.refl _ _) (fun h=>absurd h (by decide))) (Below.refl _ _);clear hK;rw[if_pos (by rfl)];go_simp;simpa[upd,d3,e0,e1,e2,e3,hlt'] using hK'
     ·clear hdep;have A:=l4L_any w';have hK':∀ ww v,LbV ww v→Below w'.heap.size w' ww→K _ ww:=fun ww v hv hb=>hK ww v (by simpa using hv) (hx.step 5 v hb (fun h=>absurd h (by decide))) hb
      clear hK;rw[if_pos (by rfl)];go_simp;try simp only[]
      refine A.mono ?_;rintro e w9 ⟨v9,rfl,o9,hb9⟩;have hK2:=hK' w9 v9 (by obtain⟨g9,c9,e9,hA9,hc9⟩:=PtA.of_own o9;exact⟨g9,c9,e9,hc9,hA9⟩) hb9;clear hK' A o9 hb9;go_simp;simpa[upd,e0,e1,e2,e3,hlt'] using hK2
     ·clear hdep;have hK':=hK w' (.int .i64 (q:Int)) (by simp) (hx.step 6 _ (Below.refl _ _) (fun h=>absurd h (by decide))) (Below.refl _ _);clear hK;rw[if_pos (by rfl)];go_simp;simpa[upd,e0,e1,e2,e3,hlt'] using hK'
     ·have f5:LbV w' (t 5):=by simpa using(hdep ⟨5,.data⟩ (by simp) rfl).2
      have d6:t 6=.int .i64 (q:Int):=by simpa using(hdep ⟨6,.data⟩ (by simp) rfl).2
      clear hdep;refine Exists.elim f5 fun gg hh=>?_
      obtain⟨cc,d5,h1,h2⟩:=hh;have hK':=hK w' (.pointer (some ⟨gg,q,none⟩)) (by simpa using⟨gg,rfl,h2⟩) (hx.step 7 _ (Below.refl _ _) (fun h=>absurd h (by decide))) (Below.refl _ _);clear hK h2;rw[if_pos (by rfl)];go_simp;simpa[upd,d5,d6,hlt'] using hK'
     ·have f7:LbP q w' (t 7):=by simpa using(hdep ⟨7,.data⟩ (by simp) rfl).2
      clear hdep;refine Exists.elim f7 fun gg hh=>?_
      obtain⟨d7,h2⟩:=hh;have hc:w'.cell? ⟨gg,q,none⟩=some (.int .u8 y):=by have:=h2.c q (by rw[lB_len];exact hlt);rw[Nat.zero_add] at this;rw[this,hyy]
      have hK':=hK w' (.int .u8 y) (by simp) (hx.step 8 _ (Below.refl _ _) (fun h=>absurd h (by decide))) (Below.refl _ _);clear hK h2;rw[if_pos (by rfl)];go_simp;simpa[upd,d7] using hK'
     ·have d8:t 8=.int .u8 y:=by simpa using(hdep ⟨8,.data⟩ (by simp) rfl).2
      clear hdep;have hK':=hK w' (.int .i64 y) (by simp) (hx.step 9 _ (Below.refl _ _) (fun h=>absurd h (by decide))) (Below.refl _ _);clear hK;rw[if_pos (by rfl)];go_simp;simpa[upd,d8,e0,e1,e2,e3,hlt'] using hK'
     ·have d4:t 4=.int .i64 z:=by simpa using(hdep ⟨4,.data⟩ (by simp) rfl).2
      have d9:t 9=.int .i64 y:=by simpa using(hdep ⟨9,.data⟩ (by simp) rfl).2
      clear hdep;have hK':=hK w' (.int .i64 (z+y)) (by simp) (hx.step 10 _ (Below.refl _ _) (fun h=>absurd h (by decide))) (Below.refl _ _);clear hK;rw[if_pos (by rfl)];go_simp;simpa[upd,d4,d9,e0,e1,e2,e3,hlt'] using hK'
     ·clear hdep;have hK':=hK w' (.int .i64 cy) (by simp) (hx.step 11 _ (Below.refl _ _) (fun h=>absurd h (by decide))) (Below.refl _ _);clear hK;rw[if_pos (by rfl)];go_simp;simpa[upd,e0,e1,e2,e3,hlt'] using hK'
     ·have d10:t 10=.int .i64 (z+y):=by simpa using(hdep ⟨10,.data⟩ (by simp) rfl).2
      have d11:t 11=.int .i64 cy:=by simpa using(hdep ⟨11,.data⟩ (by simp) rfl).2
      clear hdep;have hK':=hK w' (.int .i64 (z+y+cy)) (by simp) (hx.step 12 _ (Below.refl _ _) (fun h=>absurd h (by decide))) (Below.refl _ _);clear hK;rw[if_pos (by rfl)];go_simp;simpa[upd,d10,d11,e0,e1,e2,e3,hlt'] using hK'
     ·have d12:t 12=.int .i64 (z+y+cy):=by simpa using(hdep ⟨12,.data⟩ (by simp) rfl).2
      clear hdep;have hK':=hK w' (.int .i64 (z+y+cy)) (by simp) (hx.step 13 _ (Below.refl _ _) (fun h=>absurd h (by decide))) (Below.refl _ _);clear hK;rw[if_pos (by rfl)];go_simp;simpa[upd,d12,e0,e1,e2,e3,hlt'] using hK'
    case hdone=>
     intro L t w9 hx hg;have d13:t 13=.int .i64 (z+y+cy):=by simpa using hg 13 (by decide)
     have hb9:=hx.below;clear hg hx;dsimp only;rw[d13];clear d13;obtain⟨c9,f9,q9⟩:=(HO.out.keepE (fun k _ hk=>hb9.block k hk)).setE zl (32+q) ((z+y+cy)%256) (by omega);have HR:=hid_ofE (And.intro ((HT.out.1.below hb9).set (i:=32+q) (v:=.int .u8 ((z+y+cy)%256)) (show gp≠gs by omega)) (And.intro ((HT.out.2.1.below hb9).set (i:=32+q) (v:=.int .u8 ((z+y+cy)%256)) (show gm≠gs by omega))
      (And.intro q9 ((HT.out.2.2.trans (hb9.mono HT.out.2.2.size)).trans (below_setE (i:=32+q) (v:=.int .u8 ((z+y+cy)%256)) (show w.heap.size≤gs by omega))))))
     clear q9 hb9 HO HT c1;go_wp2;go_roundw
     case rel=>exact⟨q+1,(z+y+cy)/256,zs.set (32+q) ((z+y+cy)%256),by omega,by go_num,by go_num,by omega,by omega,by rw[List.length_set];exact zl,byte_setE zb _ (by omega),HR.out.1,HR.out.2.1,HR.out.2.2.1,HR.out.2.2.2⟩
     case measure=>simp[intOf];omega
   ·have hq32:q=32:=by omega
    subst hq32;have HF:=hid_ofE (And.intro hTp (And.intro hTm (And.intro (TQ.of_own hown zl (by decide) zb) hbel)));clear hTp hTm hown hbel;go_wp2
    go_ret3
    exact⟨_,_,_,_,_,_,_,_,_,_,_,_,rfl,HF.out.1,HF.out.2.1,HF.out.2.2.1,HF.out.2.2.2⟩
 ·have hci:(i:Int)≤(cs7:Int):=by omega
  have HF:=hid_ofE (And.intro (TQ.of_own HV10.out.p pl (by decide) pb) (And.intro (TQ.of_own HV10.out.m ml (by omega) mb) (And.intro (TQ.of_own (HV10.out.s.cutE sl (show i≤64 by omega)) (by rw[List.length_take,sl];omega) (by omega) (byte_take sb i)) HV10.out.bel)));clear HV10;go_wp2
  go_ret3
  exact⟨_,_,_,_,_,_,_,_,_,_,_,_,rfl,HF.out.1,HF.out.2.1,HF.out.2.2.1,HF.out.2.2.2⟩
 ·have HO:=hid_ofE (spt_any w.heap.size a n cap _ HV10.out.cur HV10.out.txt HV10.out.size);go_wp2_with fail;refine HO.out.mono ?_;rintro e w11 ⟨v11,m11,rfl,hm11,⟨zs11,O11,l11,b11⟩,hw11⟩;obtain⟨g11,c11,rfl,_,_,_⟩:=O11.base;rw[l11] at O11 ⊢;have HF:=hid_ofE (And.intro (TQ.of_own O11 l11 (by omega) b11) (And.intro ((TQ.of_own HV10.out.m ml (by omega) mb).wrG hw11 (by omega)) (And.intro ((TQ.of_own HV10.out.s sl (by decide) sb).wrG hw11 (by omega)) (HV10.out.bel.trans (hw11.below _ (Nat.le_refl _) (Nat.le_of_lt HV10.out.size))))));clear O11 hw11 HO HV10;go_wp2
  go_ret3
  exact⟨_,_,_,_,_,_,_,_,_,_,_,_,rfl,HF.out.1,HF.out.2.1,HF.out.2.2.1,HF.out.2.2.2⟩
 ·have HI:=hid_ofE (And.intro (TQ.of_own HV10.out.p pl (by decide) pb) (And.intro (TQ.of_own HV10.out.m ml (by omega) mb) (TQ.of_own HV10.out.s sl (by decide) sb)));have hsl:∀ w',(Instr.sliceAt 22 (.slice (some ⟨gs,0,none⟩) 64 cs7) (some (.int .i64 32)) none none).run Tryz.prog w'=.ok (.slice (some ⟨gs,32,none⟩) 32 (cs7-32)) w':=fun w'=>by have:=run_sliceHi w' gs 0 cs7 hcs;simpa using this
  have HSP:=hid_ofE (spt_any w.heap.size a n cap w10.drew (HV10.out.cur.keepE rfl) (HV10.out.txt.wr (fun _ _=>rfl)) HV10.out.size);have HSZ:=hid_ofE (And.intro HV10.out.size HV10.out.bel);clear HV10;go_wp2_with fail;refine wp_region_any (by kernel_rfl) ?_;refine wpAny_slotsU (fun _ _ _=>True) (frame:=(fun (a b c d e f g h i j k l m n o p q r s u v w x y z A B C D E F G H I J K L M N O P Q R S T U V W X Y Z a0 a1 a2 a3 a4 a5 a6 a7 a8 a9 b0 b1 b2 b3 b4 b5 b6 b7 b8 b9 c0 c1 c2 c3 c4 c5 c6 c7 c8 c9 d0 d1 d2 d3 d4 d5 d6 d7 d8 d9 e0 e1 e2 e3 e4 e5 e6 e7 e8 e9 f0 f1 f2 f3 f4 f5 f6 f7 f8 f9 g0 g1 g2 g3 g4 g5 g6 g7 g8 g9 h0 h1 h2 h3 h4 h5 h6 h7 h8 h9 i0 i1 i2 i3 i4 i5 i6 i7 i8 i9 j0 j1 j2 j3 j4 j5 j6 j7 j8:Value)=>fun (t:Nat→Value)=>({ tmps:=List.toArray [a,b,c,d,e,f,g,h,i,j,t 5,k,l,m,n,o,p,q,r,s,u,v,w,x,y,z,A,B,C,D,E,F,G,H,I,J,K,L,M,N,O,P,Q,R,S,T,U,V,W,X,Y,Z,a0,a1,a2,a3,a4,a5,a6,a7,a8,a9,b0,b1,b2,b3,b4,b5,b6,b7,b8,b9,c0,c1,c2,c3,c4,c5,c6,c7,c8,c9,d0,d1,d2,d3,d4,d5,d6,d7,d8,d9,e0,e1,e2,e3,e4,e5,e6,e7,e8,e9,f0,f1,f2,f3,f4,f5,f6,f7,f8,f9,g0,g1,g2,g3,g4,t 0,t 1,t 2,t 3,t 4,g5,g6,g7,g8,g9,h0,h1,h2,h3,h4,h5,h6,h7,h8,h9,i0,i1,i2,i3,i4,i5,i6,i7,i8,i9,j0,j1,j2,j3,j4,j5,j6,j7,j8],defers:=[] }:Act)) _ _ _ _ _ _ _ _ _ _ _ _ _ _ _ _ _ _ _ _ _ _ _ _ _ _ _ _ _ _ _ _ _ _ _ _ _ _ _ _ _ _ _ _ _ _ _ _ _ _ _ _ _ _ _ _ _ _ _ _ _ _ _ _ _ _ _ _ _ _ _ _ _ _ _ _ _ _ _ _ _ _ _ _ _ _ _ _ _ _ _ _ _ _ _ _ _ _ _ _ _ _ _ _ _ _ _ _ _ _ _ _ _ _ _ _ _ _ _ _ _ _ _ _ _ _ _ _ _ _ _ _ _ _ _ _ _ _ _ _ _ _ _ _ _ _ _ _ _ _)
   (Ext:=fun L u w'=>X30 w10 w.heap.size (.slice (some ⟨gs,0,none⟩) 64 cs7) L u w') (Good:=fun i L w' v=>if i=0 then v=.pointer (some ⟨w.heap.size,0,none⟩) else if i=2 then v=.slice (some ⟨gs,0,none⟩) 64 cs7 else if i=3 then v=.slice (some ⟨gs,32,none⟩) 32 (cs7-32)∧L 2=true else if i=4 then L 4=true else if i=5 then L 5=true else True) ?hstab (by kernel_rfl) ?hop ?hdone _ _ ((fun (x0 x1 x2 x3 x4 x5:Value)=>fun (i:Nat)=>if i=0 then x0 else if i=1 then x1 else if i=2 then x2 else if i=3 then x3 else if i=4 then x4 else if i=5 then x5 else undef) _ _ _ _ _ _) _ (by simp) ?ext ?start (by simp)
  case start=>intro i hi h;exact absurd h (by rw[Array.getD_eq_getD_getElem?,Array.getElem?_replicate];split<;>simp)
  case ext=>
   have hf:∀ N i,(Array.replicate N false).getD i false=false:=fun N i=>by rw[Array.getD_eq_getD_getElem?,Array.getElem?_replicate];split<;>rfl
   exact⟨fun _=>rfl,fun h=>absurd h (by rw[hf];simp),fun h=>absurd h (by rw[hf];simp),fun h=>absurd h (by rw[hf];simp),fun h=>absurd h (by rw[hf];simp),fun h=>absurd h (by rw[hf];simp),fun _=>rfl,fun h=>absurd h (by rw[hf];simp)⟩
  case hstab=>
   intro j L w9 w' i v hM hij hLi h;by_cases h3:j=3
   ·subst h3;simp at h ⊢;exact⟨h.1,updK_mono h.2⟩
   by_cases h4:j=4
   ·subst h4;simp at h ⊢;unfold updK;simp[h]
   by_cases h5:j=5
   ·subst h5;simp at h ⊢;unfold updK;simp[h]
   simp only[if_neg h3,if_neg h4,if_neg h5] at h ⊢;exact h
  case hop=>
   intro i o L t w' ho hLi hx hdep K hK;have hi:i<6:=(Array.getElem?_eq_some_iff.1 ho).1;obtain rfl|rfl|rfl|rfl|rfl|rfl:i=0∨i=1∨i=2∨i=3∨i=4∨i=5:=by omega
   all_goals(simp at ho;subst ho)
   ·clear hdep;have hK':=hK w' (.pointer (some ⟨w.heap.size,0,none⟩)) (by simp) (hx.pure 0 _ (by decide) (by decide) (by decide)) trivial;clear hK hx;rw[if_pos (by rfl)];go_simp;simpa[upd] using hK'
   ·have d0:t 0=.pointer (some ⟨w.heap.size,0,none⟩):=by simpa using(hdep ⟨0,.data⟩ (by simp) rfl).2
    clear hdep;have e4:L 4=false:=by
     cases h:L 4 with
     |false=>rfl
     |true=>rw[hx.e h] at hLi;cases hLi
    obtain rfl:=hx.a hLi;have hK':∀ ww v m,(m=31∨m=32)→TxO ww w10.heap.size v m→WrG w.heap.size w10 ww→K _ ww:=fun ww v m hm hv hw=>hK ww v (by simp) ⟨fun h=>absurd h (by rw[updK_selfV];simp),fun _ _=>⟨hw,m,hm,by rw[upd_selfS];exact hv⟩,fun h=>absurd h (by rw[updK_neS L (by decide),e4];simp),fun h=>absurd h (by rw[updK_neS L (by decide),e4];simp),fun h=>absurd h (by rw[updK_neS L (by decide),e4];simp),fun h=>absurd (hx.f (by rw[updK_neS L (by decide)] at h;exact h)) (by rw[e4];simp),fun h=>by rw[upd_neS t _ (by decide)];exact hx.g5 (by rw[updK_neS L (by decide)] at h;exact h),fun h=>absurd h (by rw[updK_neS L (by decide),e4];simp)⟩ trivial
    clear hK hx;rw[if_pos (by rfl)];go_simp;try simp only[d0]
    refine HSP.out.mono ?_;rintro e w9 ⟨v9,m9,rfl,hm9,t9,hw9⟩;have hK2:=hK' w9 v9 m9 hm9 t9 ((WrG.of_below ((Below.refl _ _).drew)).trans hw9);clear hK' t9 hw9;go_simp;simpa[upd,d0] using hK2
   ·clear hdep;have e5:t 5=.slice (some ⟨gs,0,none⟩) 64 cs7:=hx.g5 (by
     cases h:L 5 with
     |false=>rfl
     |true=>rw[hx.h (hx.f h)] at hLi;cases hLi)
    have hK':=hK w' (.slice (some ⟨gs,0,none⟩) 64 cs7) (by simp) (hx.pure 2 _ (by decide) (by decide) (by decide)) trivial;clear hK hx;rw[if_pos (by rfl)];go_simp;simpa[upd,e5] using hK'
   ·have d2:t 2=.slice (some ⟨gs,0,none⟩) 64 cs7:=by simpa using(hdep ⟨2,.data⟩ (by simp) rfl).2
    have l2:L 2=true:=(hdep ⟨2,.data⟩ (by simp) rfl).1;clear hdep;have hK':=hK w' (.slice (some ⟨gs,32,none⟩) 32 (cs7-32)) (by simp[updK_mono l2]) (hx.pure 3 _ (by decide) (by decide) (by decide)) trivial;clear hK hx;rw[if_pos (by rfl)];go_simp;simpa[upd,d2,hsl] using hK'
   ·have l1:L 1=true:=(hdep ⟨1,.data⟩ (by simp) rfl).1;have d3':t 3=.slice (some ⟨gs,32,none⟩) 32 (cs7-32)∧L 2=true:=by simpa using(hdep ⟨3,.data⟩ (by simp) rfl).2
    obtain⟨d3,l2⟩:=d3';clear hdep;obtain⟨hw,m,hm,zs,hO,zl,zb⟩:=hx.b l1 hLi;have hK':∀ ww v zs,Own ww w10.heap.size v zs→zs.length≤64→Byte zs→WrG w.heap.size w10 ww→K _ ww:=fun ww v zs ho hl hb hw=>hK ww v (by simp[updK_selfV]) ⟨fun h=>absurd h (by rw[updK_neS L (by decide),l1];simp),fun _ h=>absurd h (by rw[updK_selfV];simp),fun _=>⟨hw,zs,by rw[upd_selfS];exact ho,hl,hb⟩,fun _ h=>absurd (hx.f (by rw[updK_neS L (by decide)] at h;exact h)) (by rw[hLi];simp),fun _=>by rw[updK_neS L (by decide)];exact l1,fun _=>updK_selfV L 4,fun h=>by rw[upd_neS t _ (by decide)];exact hx.g5 (by rw[updK_neS L (by decide)] at h;exact h),fun _=>updK_mono l2⟩ trivial
    have HT:=hid_ofE (HI.out.2.2.wrG hw (by have:=HSZ.out.1;omega));clear hK hx;rw[if_pos (by rfl)];refine wp_app w' (.tmp 118) (.tmp 120) rfl w10.heap.size (t 1) zs rfl hO ⟨gs,32,none⟩ 32 (cs7-32) (ss.drop 32) d3 (by rw[List.length_drop,sl]) ?cx ?cy (by have:=hw.size;omega) ?_
    case cx=>
     intro j hj;rw[Addr.add_lit];have:=(HT.out.at_.drop 32).c j (by rw[List.length_drop,sl];exact hj);rw[Nat.zero_add] at this;exact this
    case cy=>omega
    intro v' w'' O2 B2 _;have hK2:=hK' w'' v' _ O2 (by rw[List.length_append,List.length_drop,sl];omega) (byte_app zb (byte_drop sb 32)) (hw.bel2 B2);exact hK2
   ·have l4:L 4=true:=(hdep ⟨4,.data⟩ (by simp) rfl).1;clear hdep;have hK':=hK w' (t 4) (by simp[updK_selfV]) ⟨fun h=>hx.a (by rw[updK_neS L (by decide)] at h;exact h),fun _ h=>absurd h (by rw[updK_neS L (by decide),l4];simp),fun _=>by rw[upd_neS t _ (by decide)];exact hx.c l4,fun _ _=>by rw[upd_selfS,upd_neS t _ (by decide)],fun _=>by rw[updK_neS L (by decide)];exact hx.e l4,fun _=>by rw[updK_neS L (by decide)];exact l4,fun h=>absurd h (by rw[updK_selfV];simp),fun _=>updK_mono (hx.h l4)⟩ trivial;clear hK hx;rw[if_pos (by rfl)];go_simp;simpa[upd] using hK'
  case hdone=>
   intro L t w9 hx hg;have l4:L 4=true:=by simpa using hg 4 (by decide)
   have l5:L 5=true:=by simpa using hg 5 (by decide)
   obtain⟨hw,zs,hO,zl,zb⟩:=hx.c l4;rw[←hx.d l4 l5] at hO;obtain⟨g9,c9,e9,_,_,_⟩:=hO.base;have HF:=hid_ofE (And.intro (HI.out.1.wrG hw (by have:=HSZ.out.1;omega)) (And.intro (HI.out.2.1.wrG hw (by have:=HSZ.out.1;omega)) (And.intro (TQ.of_own (e9 ▸ hO) rfl (by omega) zb) (HSZ.out.2.trans (hw.below _ (Nat.le_refl _) (Nat.le_of_lt HSZ.out.1))))));clear hg hx hw hO HI HSP HSZ;dsimp only;rw[e9];clear e9;go_wp2
   go_ret3
   exact⟨_,_,_,_,_,_,_,_,_,_,_,_,rfl,HF.out.1,HF.out.2.1,HF.out.2.2.1,HF.out.2.2.2⟩
 ·have HO:=hid_ofE (tiny_any w.heap.size a n cap _ HV10.out.cur HV10.out.txt HV10.out.size);go_wp2_with fail;refine HO.out.mono ?_;rintro e w11 ⟨v11,rfl,⟨ts,O11,tl,tb⟩,hc11,hw11⟩;obtain⟨gt,ct,rfl,hgt,_,_⟩:=O11.base;rw[tl] at O11 ⊢;have HI:=hid_ofE (And.intro ((TQ.of_own HV10.out.p pl (by decide) pb).wrG hw11 (by omega)) (And.intro ((TQ.of_own HV10.out.m ml (by omega) mb).wrG hw11 (by omega)) (HV10.out.bel.trans (hw11.below _ (Nat.le_refl _) (Nat.le_of_lt HV10.out.size)))));have HT:=hid_ofE (TQ.of_own O11 tl (by decide) tb);clear HO O11 hc11 hw11 HV10;have HP:=hid_ofE (pubO_any R w11 hR0 hR1);go_wp2_with fail;refine HP.out.mono ?_;rintro e w12 ⟨v12,rfl,⟨rs,O12,rl,rb⟩,B12⟩;obtain⟨gr,cr,rfl,hgr,hgr',_⟩:=O12.base;rw[rl] at O12 ⊢;have hgmr:gm<gr:=by have:=HI.out.2.1.at_.lt;omega
  have HI2:=hid_ofE (And.intro (HI.out.1.below B12) (And.intro (HI.out.2.1.below B12) (HI.out.2.2.trans (B12.mono HI.out.2.2.size))));have HT2:=hid_ofE (HT.out.below B12);have HR:=hid_ofE (O12.monoE HI.out.2.2.size);clear HP O12 B12 HI HT;have HQ:=hid_ofE (spadO_any (some ⟨gr,0,none⟩) (some ⟨gt,0,none⟩) 32 cr 32 ct rs ts w12 rl (by decide) (TQ.of_own HR.out rl (by decide) rb).at_.at_ rb tl (by decide) HT2.out.at_.at_ tb);have hpz:=paZ_len rs ts;have hpb:=paZ_byte rs ts;go_wp2_with fail;refine HQ.out.mono ?_;rintro e w13 ⟨v13,rfl,O13,B13⟩;clear HQ;generalize paZ rs ts=zs at *;obtain⟨gz,cz,rfl,hgz,_,_⟩:=O13.base;have hn1:gp≠gz:=by have:=HI2.out.1.at_.lt;omega
  have hn2:gm≠gz:=by have:=HI2.out.2.1.at_.lt;omega
  have HI3:=hid_ofE (And.intro (HI2.out.1.below B13) (And.intro (HI2.out.2.1.below B13) (HI2.out.2.2.trans (B13.mono HI2.out.2.2.size))));have HR3:=hid_ofE (O13.monoE HI2.out.2.2.size);obtain⟨nz,hnz⟩:∃ nz,zs.length=nz:=⟨_,rfl⟩
  rw[hnz] at HR3 hpz ⊢;clear O13 B13 HI2 HT2 HR hgz;have C:=hid_ofE (cat3 w13 _ _ _ zs ps ms (Part.of_own HR3.out) (HI3.out.1.at_.part 32 cp HI3.out.1.len) (HI3.out.2.1.at_.part mm cm HI3.out.2.1.len) (by omega));have hlen:(zs++ps++ms).length=(nz+32+mm):=by rw[List.length_append,List.length_append,hnz,pl,ml]
  go_wp2_with fail;refine C.out.mono ?_;rintro e w14 ⟨v14,rfl,O14,B14⟩;obtain⟨g14,c14,rfl,hA14,hc14⟩:=PtA.of_own O14;have HI4:=hid_ofE (And.intro (HI3.out.1.below B14) (And.intro (HI3.out.2.1.below B14) (HI3.out.2.2.trans (B14.mono HI3.out.2.2.size))));have HR4:=hid_ofE (HR3.out.keepE (fun k _ hk=>B14.block k hk));have H:=hid_ofE (shaS_any g14 0 c14 (nz+32+mm) (zs++ps++ms) w14 hlen hA14.lt hA14.c (byte_app (byte_app hpb pb) mb) (by omega));have HSL:=hid_ofE (And.intro (shaL_lenE (zs++ps++ms)) (show Byte (shaL (zs++ps++ms)) by unfold shaL;exact txtW_byte _));rw[hlen];clear C O14 B14 hA14 hc14 HI3 HR3 hlen;generalize shaL (zs++ps++ms)=hs at *;go_wp2_with fail;refine H.out.mono ?_;rintro e w15 ⟨v15,rfl,O15,B15⟩;obtain⟨g15,c15,rfl,hA15,hc15⟩:=PtA.of_own O15;have HI5:=hid_ofE (And.intro (HI4.out.1.below B15) (And.intro (HI4.out.2.1.below B15) (HI4.out.2.2.trans (B15.mono HI4.out.2.2.size))));have HR5:=hid_ofE (HR4.out.keepE (fun k _ hk=>B15.block k hk));have RR:=hid_ofE (sred_any (some ⟨g15,0,none⟩) 64 c15 hs w15 HSL.out.1 (by decide) hA15.at_ HSL.out.2);rw[HSL.out.1];clear H O15 B15 hA15 hc15 HI4 HR4;go_wp2_with fail;refine RR.out.mono ?_;rintro e w16 ⟨v16,ks,rfl,O16,kb,kl,_,B16⟩;obtain⟨g16,c16,rfl,hA16,hc16⟩:=PtA.of_own O16;rw[kl];have HI6:=hid_ofE (And.intro (HI5.out.1.below B16) (And.intro (HI5.out.2.1.below B16) (HI5.out.2.2.trans (B16.mono HI5.out.2.2.size))));have HR6:=hid_ofE (HR5.out.keepE (fun k _ hk=>B16.block k hk));have PP:=hid_ofE (resp_any R A g16 0 c16 ks w16 hR0 hR1 hA0 hA1 kl kb hA16.lt hA16.c);clear RR O16 B16 hA16 hc16 HI5 HR5;go_wp2_with fail;refine PP.out.mono ?_;rintro e w17 ⟨v17,rfl,⟨zs6,O17,l6,b6⟩,B17⟩;obtain⟨g17,c17,rfl,hA17,hc17⟩:=PtA.of_own O17;rw[l6];have HI7:=hid_ofE (And.intro (HI6.out.1.below B17) (And.intro (HI6.out.2.1.below B17) (HI6.out.2.2.trans (B17.mono HI6.out.2.2.size))));have HR7:=hid_ofE (HR6.out.keepE (fun k _ hk=>B17.block k hk));have HA17:=hid_ofE hA17;clear PP O17 B17 hA17 hc17 HI6 HR6;go_wp2_with (at_builtin;refine wpList_app _ rfl _ _ rfl w.heap.size _ _ rfl HR7.out ⟨g17,0,none⟩ 32 c17 zs6 rfl l6 ?e17 ?e27 ?e37 ?_)
  case e17=>intro j hj;rw[Addr.add_lit];exact HA17.out.c j (by omega)
  case e27=>omega
  case e37=>exact HI7.out.2.2.size
  intro v18 w18 O18 B18 G18;obtain⟨g18,c18,rfl,_,_,_⟩:=O18.base;have hl18:(zs++zs6).length=nz+32:=by rw[List.length_append,hnz,l6]
  rw[hl18] at O18 ⊢;have HF:=hid_ofE (And.intro (HI7.out.1.keep (G18.block _ HI7.out.1.at_.lt (by simp[Value.ownBlock];omega)) G18.size) (And.intro (HI7.out.2.1.keep (G18.block _ HI7.out.2.1.at_.lt (by simp[Value.ownBlock];omega)) G18.size) (And.intro (TQ.of_own O18 hl18 (by omega) (byte_app hpb b6)) (HI7.out.2.2.trans B18))));clear O18 B18 G18 HI7 HR7 HA17;go_wp2
  go_ret3
  exact⟨_,_,_,_,_,_,_,_,_,_,_,_,rfl,HF.out.1,HF.out.2.1,HF.out.2.2.1,HF.out.2.2.2⟩
 ·have HO:=hid_ofE (tiny_any w.heap.size a n cap _ HV10.out.cur HV10.out.txt HV10.out.size);go_wp2_with fail;refine HO.out.mono ?_;rintro e w11 ⟨v11,rfl,⟨ts,O11,tl,tb⟩,hc11,hw11⟩;obtain⟨gt,ct,rfl,hgt,_,_⟩:=O11.base;rw[tl] at O11 ⊢;have HI:=hid_ofE (And.intro ((TQ.of_own HV10.out.p pl (by decide) pb).wrG hw11 (by omega)) (And.intro ((TQ.of_own HV10.out.m ml (by omega) mb).wrG hw11 (by omega)) (HV10.out.bel.trans (hw11.below _ (Nat.le_refl _) (Nat.le_of_lt HV10.out.size)))));have HT:=hid_ofE (TQ.of_own O11 tl (by decide) tb);clear HO O11 hc11 hw11 HV10;have HP:=hid_ofE (pubO_any R w11 hR0 hR1);go_wp2_with fail;refine HP.out.mono ?_;rintro e w12 ⟨v12,rfl,⟨rs,O12,rl,rb⟩,B12⟩;obtain⟨gr,cr,rfl,hgr,hgr',_⟩:=O12.base;rw[rl] at O12 ⊢;have hgmr:gm<gr:=by have:=HI.out.2.1.at_.lt;omega
  have HI2:=hid_ofE (And.intro (HI.out.1.below B12) (And.intro (HI.out.2.1.below B12) (HI.out.2.2.trans (B12.mono HI.out.2.2.size))));have HT2:=hid_ofE (HT.out.below B12);have HR:=hid_ofE (O12.monoE HI.out.2.2.size);clear HP O12 B12 HI HT;have HQ:=hid_ofE (spadO_any (some ⟨gp,0,none⟩) (some ⟨gt,0,none⟩) 32 cp 32 ct ps ts w12 pl (by decide) HI2.out.1.at_.at_ pb tl (by decide) HT2.out.at_.at_ tb);have hpz:=paZ_len ps ts;have hpb:=paZ_byte ps ts;go_wp2_with fail;refine HQ.out.mono ?_;rintro e w13 ⟨v13,rfl,O13,B13⟩;clear HQ;generalize paZ ps ts=zs at *;obtain⟨gz,cz,rfl,hgz,_,_⟩:=O13.base;have hn1:gz≠gr:=by omega
  have hn2:gm≠gr:=by omega
  obtain⟨nz,hnz⟩:∃ nz,zs.length=nz:=⟨_,rfl⟩
  rw[hnz] at O13 hpz ⊢;have HI3:=hid_ofE (And.intro (TQ.of_own O13 hnz (by omega) hpb) (And.intro (HI2.out.2.1.below B13) (HI2.out.2.2.trans (B13.mono HI2.out.2.2.size))));have HR3:=hid_ofE (HR.out.keepE (fun k _ hk=>B13.block k hk));clear O13 B13 HI2 HT2 HR;have C:=hid_ofE (cat3 w13 _ _ _ rs zs ms (Part.of_own HR3.out) (HI3.out.1.at_.part nz cz HI3.out.1.len) (HI3.out.2.1.at_.part mm cm HI3.out.2.1.len) (by omega));have hlen:(rs++zs++ms).length=(32+nz+mm):=by rw[List.length_append,List.length_append,rl,hnz,ml]
  go_wp2_with fail;refine C.out.mono ?_;rintro e w14 ⟨v14,rfl,O14,B14⟩;obtain⟨g14,c14,rfl,hA14,hc14⟩:=PtA.of_own O14;have HI4:=hid_ofE (And.intro (HI3.out.1.below B14) (And.intro (HI3.out.2.1.below B14) (HI3.out.2.2.trans (B14.mono HI3.out.2.2.size))));have HR4:=hid_ofE (HR3.out.keepE (fun k _ hk=>B14.block k hk));have H:=hid_ofE (shaS_any g14 0 c14 (32+nz+mm) (rs++zs++ms) w14 hlen hA14.lt hA14.c (byte_app (byte_app rb hpb) mb) (by omega));have HSL:=hid_ofE (And.intro (shaL_lenE (rs++zs++ms)) (show Byte (shaL (rs++zs++ms)) by unfold shaL;exact txtW_byte _));rw[hlen];clear C O14 B14 hA14 hc14 HI3 HR3 hlen;generalize shaL (rs++zs++ms)=hs at *;go_wp2_with fail;refine H.out.mono ?_;rintro e w15 ⟨v15,rfl,O15,B15⟩;obtain⟨g15,c15,rfl,hA15,hc15⟩:=PtA.of_own O15;have HI5:=hid_ofE (And.intro (HI4.out.1.below B15) (And.intro (HI4.out.2.1.below B15) (HI4.out.2.2.trans (B15.mono HI4.out.2.2.size))));have HR5:=hid_ofE (HR4.out.keepE (fun k _ hk=>B15.block k hk));have RR:=hid_ofE (sred_any (some ⟨g15,0,none⟩) 64 c15 hs w15 HSL.out.1 (by decide) hA15.at_ HSL.out.2);rw[HSL.out.1];clear H O15 B15 hA15 hc15 HI4 HR4;go_wp2_with fail;refine RR.out.mono ?_;rintro e w16 ⟨v16,ks,rfl,O16,kb,kl,_,B16⟩;obtain⟨g16,c16,rfl,hA16,hc16⟩:=PtA.of_own O16;rw[kl];have HI6:=hid_ofE (And.intro (HI5.out.1.below B16) (And.intro (HI5.out.2.1.below B16) (HI5.out.2.2.trans (B16.mono HI5.out.2.2.size))));have HR6:=hid_ofE (HR5.out.keepE (fun k _ hk=>B16.block k hk));have PP:=hid_ofE (resp_any R A g16 0 c16 ks w16 hR0 hR1 hA0 hA1 kl kb hA16.lt hA16.c);clear RR O16 B16 hA16 hc16 HI5 HR5;go_wp2_with fail;refine PP.out.mono ?_;rintro e w17 ⟨v17,rfl,⟨zs6,O17,l6,b6⟩,B17⟩;obtain⟨g17,c17,rfl,hA17,hc17⟩:=PtA.of_own O17;rw[l6];have HI7:=hid_ofE (And.intro (HI6.out.1.below B17) (And.intro (HI6.out.2.1.below B17) (HI6.out.2.2.trans (B17.mono HI6.out.2.2.size))));have HR7:=hid_ofE (HR6.out.keepE (fun k _ hk=>B17.block k hk));have HA17:=hid_ofE hA17;clear PP O17 B17 hA17 hc17 HI6 HR6;go_wp2_with (at_builtin;refine wpList_app _ rfl _ _ rfl w.heap.size _ _ rfl HR7.out ⟨g17,0,none⟩ 32 c17 zs6 rfl l6 ?e18 ?e28 ?e38 ?_)
  case e18=>intro j hj;rw[Addr.add_lit];exact HA17.out.c j (by omega)
  case e28=>omega
  case e38=>exact HI7.out.2.2.size
  intro v18 w18 O18 B18 G18;obtain⟨g18,c18,rfl,_,_,_⟩:=O18.base;have hl18:(rs++zs6).length=32+32:=by rw[List.length_append,rl,l6]
  rw[hl18] at O18 ⊢;have HF:=hid_ofE (And.intro (HI7.out.1.keep (G18.block _ HI7.out.1.at_.lt (by simp[Value.ownBlock];omega)) G18.size) (And.intro (HI7.out.2.1.keep (G18.block _ HI7.out.2.1.at_.lt (by simp[Value.ownBlock];omega)) G18.size) (And.intro (TQ.of_own O18 hl18 (by omega) (byte_app rb b6)) (HI7.out.2.2.trans B18))));clear O18 B18 G18 HI7 HR7 HA17;go_wp2
  go_ret3
  exact⟨_,_,_,_,_,_,_,_,_,_,_,_,rfl,HF.out.1,HF.out.2.1,HF.out.2.2.1,HF.out.2.2.2⟩
 ·have HF:=hid_ofE (And.intro (TQ.of_own HV10.out.p pl (by decide) pb) (And.intro (TQ.of_own HV10.out.m ml (by omega) mb) (And.intro (TQ.of_own HV10.out.s sl (by decide) sb) HV10.out.bel)));clear HV10;go_wp2
  go_ret3
  exact⟨_,_,_,_,_,_,_,_,_,_,_,_,rfl,HF.out.1,HF.out.2.1,HF.out.2.2.1,HF.out.2.2.2⟩
 ·have HF:=hid_ofE (And.intro (TQ.of_own HV10.out.p pl (by decide) pb) (And.intro (TQ.of_own HV10.out.m ml (by omega) mb) (And.intro (TQ.of_own HV10.out.s sl (by decide) sb) HV10.out.bel)));clear HV10;go_wp2
  go_ret3
  exact⟨_,_,_,_,_,_,_,_,_,_,_,_,rfl,HF.out.1,HF.out.2.1,HF.out.2.2.1,HF.out.2.2.2⟩
 ·have HF:=hid_ofE (And.intro (TQ.of_own HV10.out.p pl (by decide) pb) (And.intro (TQ.of_own HV10.out.m ml (by omega) mb) (And.intro (TQ.of_own HV10.out.s sl (by decide) sb) HV10.out.bel)));clear HV10;go_wp2
  go_ret3
  exact⟨_,_,_,_,_,_,_,_,_,_,_,_,rfl,HF.out.1,HF.out.2.1,HF.out.2.2.1,HF.out.2.2.2⟩
end Go.Proofs.YtapejbpgdjbjjaaGreatDoor
