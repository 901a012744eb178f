import Derived.Test.YtapejbpgdjbjjaaGreatDoorMShK
import Derived.Test.YtapejbpgdjbjjaaGreatDoorMIMu
import Derived.Test.YtapejbpgdjbjjaaGreatDoorSMu
import Derived.Test.YtapejbpgdjbjjaaGreatDoorMICd
import Derived.Test.YtapejbpgdjbjjaaGreatDoorMRtM
import Derived.Test.YtapejbpgdjbjjaaGreatDoorSDc
import Derived.Test.YtapejbpgdjbjjaaGreatDoorSCo
import Derived.Test.YtapejbpgdjbjjaaGreatDoorSSum
import Derived.Test.YtapejbpgdjbjjaaGreatDoorMEpt
import Derived.Test.YtapejbpgdjbjjaaGreatDoorMBb
import Derived.Test.YtapejbpgdjbjjaaGreatDoorMErp
import Derived.Laws.Tables
import Derived.Laws.BytesArg
namespace Go.Proofs.YtapejbpgdjbjjaaGreatDoor
open Go.ChangeShapes Go.WideShapes Go.ChangeAt Go.RowKit
set_option linter.unusedVariables false
def cdQ (P:Q4):Int:=cdV P.1 P.2.1 P.2.2.1
theorem ptQ_rd {zs:List Int}:Rd (ptQ zs)→True:=fun _=>trivial
def hsV (pub msg sig:List Int):Int:=val 256 (shaL (sig.take 32++pub++msg))%bigL
def eqnS (pub msg sig:List Int):Bool:=decide (cdQ (mS (val 256 (sig.drop 32)) (ptQ bB) 256).1=cdQ (F4 (ptQ (sig.take 32)) (mS (hsV pub msg sig) (ptQ pub) 256).1))
def eqnI (pub msg sig:List Int):Bool:=decide (cdQ (pS (val 256 (sig.drop 32)) (ptQ bB) 256)=cdQ (F4 (ptQ (sig.take 32)) (pS (hsV pub msg sig) (ptQ pub) 256)))
def vsR (pub msg sig:List Int):Bool:=decide (sig.length=64) && decide (val 256 (sig.drop 32)<bigL) && mB pub mdD && mB (sig.take 32) mdD && eqnS pub msg sig
theorem cdQ_scl (k:Nat) (P:Q4):cdQ (scl (2^k) P)=cdQ P:=cdV_scl k _ _ _
theorem eqn_same (pub msg sig:List Int) (hp:Rd (ptQ pub)) (hs:Rd (ptQ (sig.take 32))) (hb:Rd (ptQ bB)):eqnI pub msg sig=eqnS pub msg sig:=by
 unfold eqnI eqnS
 obtain⟨⟨j,hj⟩,_,_⟩:=same_S (val 256 (sig.drop 32)) (ptQ bB) hb 256
 obtain⟨⟨k,hk⟩,_,_⟩:=same_S (hsV pub msg sig) (ptQ pub) hp 256
 rw[hj,hk,cdQ_scl]
 have e:F4 (ptQ (sig.take 32)) (scl (2^k) (mS (hsV pub msg sig) (ptQ pub) 256).1)=scl (2^(k+k)) (F4 (ptQ (sig.take 32)) (mS (hsV pub msg sig) (ptQ pub) 256).1):=by
  conv=>lhs;rw[←scl_one hs]
  rw[F4_scl,Int.one_mul,←Int.pow_add]
 rw[e,cdQ_scl]
end Go.Proofs.YtapejbpgdjbjjaaGreatDoor
namespace Go.Proofs.YtapejbpgdjbjjaaGreatDoor
open Go.ChangeShapes Go.WideShapes Go.ChangeAt Go.RowKit
set_option linter.unusedVariables false
structure PtA (w:World) (b o:Nat) (zs:List Int):Prop where
 lt:b<w.heap.size
 c:∀ i,i<zs.length→w.cell? ⟨b,o+i,none⟩=some (.int .u8 (zs.getD i 0))
theorem PtA.below {w w':World} {b o:Nat} {zs:List Int} (h:PtA w b o zs) (hb:Below w.heap.size w w'):PtA w' b o zs:=
 ⟨Nat.lt_of_lt_of_le h.lt hb.size,fun i hi=>by rw[World.cell?_of_block (w:=w) (hb.block b h.lt)];exact h.c i hi⟩
theorem PtA.at_ {w:World} {b o:Nat} {zs:List Int} (h:PtA w b o zs):At .u8 w (some ⟨b,o,none⟩) zs:=.inr ⟨b,o,rfl,h.lt,h.c⟩
theorem PtA.take {w:World} {b o:Nat} {zs:List Int} (h:PtA w b o zs) (n:Nat):PtA w b o (zs.take n):=
 ⟨h.lt,fun i hi=>by rw[List.length_take] at hi;rw[h.c i (by omega),getD_takeI _ _ _ (by omega)]⟩
theorem PtA.drop {w:World} {b o:Nat} {zs:List Int} (h:PtA w b o zs) (n:Nat):PtA w b (o+n) (zs.drop n):=
 ⟨h.lt,fun i hi=>by rw[List.length_drop] at hi;rw[Nat.add_assoc,h.c (n+i) (by omega),getD_dropI]⟩
theorem PtA.part {w:World} {b o:Nat} {zs:List Int} (h:PtA w b o zs) (n c:Nat) (hn:zs.length=n):Part w (.slice (some ⟨b,o,none⟩) n c) zs:=⟨b,o,c,by rw[hn],h.lt,h.c⟩
theorem PtA.of_own {w:World} {B:Nat} {v:Value} {zs:List Int} (h:Own w B v zs):∃ g c,v=.slice (some ⟨g,0,none⟩) zs.length c∧PtA w g 0 zs∧zs.length≤c:=by
 obtain⟨g,c,e,_,_,hc⟩:=h.base
 obtain⟨b',o',c',e',hl,hcc⟩:=h.part
 rw[e] at e';cases e'
 exact⟨g,c,e,⟨hl,hcc⟩,hc⟩
theorem byte_take {zs:List Int} (h:Byte zs) (n:Nat):Byte (zs.take n):=fun z hz=>h z (List.mem_of_mem_take hz)
theorem byte_drop {zs:List Int} (h:Byte zs) (n:Nat):Byte (zs.drop n):=fun z hz=>h z (List.mem_of_mem_drop hz)
theorem run_sliceHi (w:World) (b o c:Nat) (hc:64≤c):(Instr.sliceAt 22 (.slice (some ⟨b,o,none⟩) 64 c) (some (.int .i64 32)) none none).run Tryz.prog w=.ok (.slice (some ⟨b,o+32,none⟩) 32 (c-32)) w:=by
 have h4:¬ (c=32):=by omega
 unfold Instr.sliceAt
 simp[run_underlying Tryz.underlying22,go_sem,Instr.sliceBounds,h4,Addr.add]
 try omega
theorem run_sliceLo (w:World) (b o c:Nat) (hc:64≤c):(Instr.sliceAt 22 (.slice (some ⟨b,o,none⟩) 64 c) none (some (.int .i64 32)) none).run Tryz.prog w=.ok (.slice (some ⟨b,o,none⟩) 32 c) w:=by
 have h2:(32:Int)≤(c:Int):=by omega
 unfold Instr.sliceAt
 simp[run_underlying Tryz.underlying22,go_sem,Instr.sliceBounds,h2,Addr.add]
 try omega
def PtQ (w:World) (g:Nat) (Q:Q4):Prop:=
 ∃ g1 c1 g2 c2 g3 c3 g4 c4,PtW w g #[.slice (some ⟨g1,0,none⟩) 16 c1,.slice (some ⟨g2,0,none⟩) 16 c2,.slice (some ⟨g3,0,none⟩) 16 c3,.slice (some ⟨g4,0,none⟩) 16 c4]∧
  FeA w (some ⟨g1,0,none⟩) Q.1∧FeA w (some ⟨g2,0,none⟩) Q.2.1∧FeA w (some ⟨g3,0,none⟩) Q.2.2.1∧FeA w (some ⟨g4,0,none⟩) Q.2.2.2
theorem PtQ.below {w w':World} {g:Nat} {Q:Q4} (h:PtQ w g Q) (hb:Below w.heap.size w w'):PtQ w' g Q:=by
 obtain⟨g1,c1,g2,c2,g3,c3,g4,c4,hp,f1,f2,f3,f4⟩:=h
 exact⟨g1,c1,g2,c2,g3,c3,g4,c4,hp.below hb hp.lt,f1.below hb,f2.below hb,f3.below hb,f4.below hb⟩
theorem PtQ.lt {w:World} {g:Nat} {Q:Q4} (h:PtQ w g Q):g<w.heap.size:=by
 obtain⟨g1,c1,g2,c2,g3,c3,g4,c4,hp,_⟩:=h;exact hp.lt
def TmV (w:World) (v:Value) (Q:Q4):Prop:=
 ∃ g1 c1 g2 c2 g3 c3 g4 c4,v=.agg #[.slice (some ⟨g1,0,none⟩) 16 c1,.slice (some ⟨g2,0,none⟩) 16 c2,.slice (some ⟨g3,0,none⟩) 16 c3,.slice (some ⟨g4,0,none⟩) 16 c4]∧
  FeA w (some ⟨g1,0,none⟩) Q.1∧FeA w (some ⟨g2,0,none⟩) Q.2.1∧FeA w (some ⟨g3,0,none⟩) Q.2.2.1∧FeA w (some ⟨g4,0,none⟩) Q.2.2.2
theorem TmV.below {w w':World} {v:Value} {Q:Q4} (h:TmV w v Q) (hb:Below w.heap.size w w'):TmV w' v Q:=by
 obtain⟨g1,c1,g2,c2,g3,c3,g4,c4,hp,f1,f2,f3,f4⟩:=h
 exact⟨g1,c1,g2,c2,g3,c3,g4,c4,hp,f1.below hb,f2.below hb,f3.below hb,f4.below hb⟩
theorem TmV.elim_ {w:World} {v:Value} {Q:Q4} {C:Prop} (h:TmV w v Q) (k:∀ g1 c1 g2 c2 g3 c3 g4 c4,v=.agg #[.slice (some ⟨g1,0,none⟩) 16 c1,.slice (some ⟨g2,0,none⟩) 16 c2,.slice (some ⟨g3,0,none⟩) 16 c3,.slice (some ⟨g4,0,none⟩) 16 c4]→FeA w (some ⟨g1,0,none⟩) Q.1→FeA w (some ⟨g2,0,none⟩) Q.2.1→FeA w (some ⟨g3,0,none⟩) Q.2.2.1→FeA w (some ⟨g4,0,none⟩) Q.2.2.2→C):C:=by
 obtain⟨g1,c1,g2,c2,g3,c3,g4,c4,hp,f1,f2,f3,f4⟩:=h
 exact k g1 c1 g2 c2 g3 c3 g4 c4 hp f1 f2 f3 f4
theorem PtW.fe {w:World} {G g:Nat} {a:Option Addr} {n c:Nat} {s1 s2 s3:Value} {x:Int} (h:PtW w G #[.slice a n c,s1,s2,s3]) (f:FeA w (some ⟨g,0,none⟩) x):g≠G:=by
 intro e
 subst e
 obtain⟨zs,h1,h2,_⟩:=f
 obtain⟨b,o,e,_,hc⟩:=h1.get (by have:=h2.1;omega)
 cases e
 have c0:=hc 0 (by have:=h2.1;omega)
 rw[Nat.zero_add,h.c0] at c0
 cases c0
def z4:Array Value:=#[.slice none 0 0,.slice none 0 0,.slice none 0 0,.slice none 0 0]
def PtZ (B:Nat) (w:World) (v:Value):Prop:=∃ g,v=.pointer (some ⟨g,0,none⟩)∧B≤g∧PtW w g #[.slice none 0 0,.slice none 0 0,.slice none 0 0,.slice none 0 0]
theorem PtZ.below {B:Nat} {w w':World} {v:Value} (h:PtZ B w v) (hb:Below w.heap.size w w'):PtZ B w' v:=by
 obtain⟨g,e,h1,h2⟩:=h
 exact⟨g,e,h1,h2.below hb h2.lt⟩
def PtF (w:World) (v:Value) (Q:Q4):Prop:=∃ g,v=.pointer (some ⟨g,0,none⟩)∧PtQ w g Q
theorem PtF.below {w w':World} {v:Value} {Q:Q4} (h:PtF w v Q) (hb:Below w.heap.size w w'):PtF w' v Q:=by
 obtain⟨g,e,h1⟩:=h
 exact⟨g,e,h1.below hb⟩
structure SX (W:World) (a s c:Nat) (Q:Q4) (L:Nat→Bool) (u:Nat→Value) (w:World):Prop where
 below:Below W.heap.size W w
 fin:L s=true→(L a=true∧L c=true)∧PtF w (u a) Q
section
variable {W:World} {a s c:Nat} {Q:Q4} {L:Nat→Bool} {u:Nat→Value} {w w':World}
theorem SX.start (h:∀ i,L i=false):SX W a s c Q L u W.drew:=⟨(Below.refl _ _).drew,fun h'=>by rw[h] at h';cases h'⟩
theorem updK_neS (L:Nat→Bool) {i j:Nat} (h:j≠i):updK L i j=L j:=by unfold updK;rw[if_neg h]
theorem upd_neS (u:Nat→Value) {i j:Nat} (v:Value) (h:j≠i):upd u i v j=u j:=by unfold upd;rw[if_neg h]
theorem upd_selfS (u:Nat→Value) (i:Nat) (v:Value):upd u i v i=v:=by unfold upd;rw[if_pos rfl]
theorem SX.step (h:SX W a s c Q L u w) (i:Nat) (v:Value) (hb:Below w.heap.size w w') (hs:s≠i) (ha:a≠i):SX W a s c Q (updK L i) (upd u i v) w':=
 ⟨h.below.trans (hb.mono h.below.size),by
  rw[updK_neS L hs,updK_neS L ha,upd_neS u v ha];exact fun h'=>⟨⟨(h.fin h').1.1,by have:=(h.fin h').1.2;unfold updK;split<;>simp[this]⟩,(h.fin h').2.below hb⟩⟩
theorem SX.made (h:SX W a s c Q L u w) (v:Value) (hb:Below w.heap.size w w') (hs:s≠a) (hL:L a=false):SX W a s c Q (updK L a) (upd u a v) w':=
 ⟨h.below.trans (hb.mono h.below.size),by
  rw[updK_neS L hs];intro h';have:=(h.fin h').1.1;rw[hL] at this;cases this⟩
theorem SX.set (h:SX W a s c Q L u w) (v:Value) (hb:Below W.heap.size w w') (hs:a≠s) (hc:c≠s) (hL:L a=true) (hLc:L c=true) (hf:PtF w' (u a) Q):SX W a s c Q (updK L s) (upd u s v) w':=
 ⟨h.below.trans hb,fun _=>⟨⟨by rw[updK_neS L hs];exact hL,by rw[updK_neS L hc];exact hLc⟩,by rw[upd_neS u v hs];exact hf⟩⟩
end
theorem wp_storeS {w:World} {o:Oper} {a:Act} {K:Act→World→Prop} {Q:Exit→Act→World→Prop} (x y:Operand) (ho:o.op=.store 44 x y) (B:Nat) (R:Q4) (vx vy:Value)
  (hx:a.eval x=vx) (hy:a.eval y=vy) (hz:PtZ B w vx) (ht:TmV w vy R) (hK:∀ w',Below B w w'→PtF w' vx R→K (a.put o.dst undef) w'):o.wp Tryz.prog a w K Q:=by
 obtain⟨g,rfl,h1,h2⟩:=hz
 obtain⟨g1,c1,g2,c2,g3,c3,g4,c4,rfl,f1,f2,f3,f4⟩:=ht
 have hw:Wr g w (w.setRow g #[.slice (some ⟨g1,0,none⟩) 16 c1,.slice (some ⟨g2,0,none⟩) 16 c2,.slice (some ⟨g3,0,none⟩) 16 c3,.slice (some ⟨g4,0,none⟩) 16 c4]):=Wr.setRow _ _ _
 refine wp_store_row 44 x y ho g #[.slice (some ⟨g1,0,none⟩) 16 c1,.slice (some ⟨g2,0,none⟩) 16 c2,.slice (some ⟨g3,0,none⟩) 16 c3,.slice (some ⟨g4,0,none⟩) 16 c4] hx hy 44 _ h2 Tryz.sizePt rfl (by simp[Value.oneCell']) ?_
 exact hK _ (hw.below h1) ⟨g,rfl,g1,c1,g2,c2,g3,c3,g4,c4,setRow_heap _ _ _ _ _ _ h2,f1.wr hw (h2.fe f1),f2.wr hw (h2.fe f2),f3.wr hw (h2.fe f3),f4.wr hw (h2.fe f4)⟩
def CdW (w:World) (v:Value) (V:Int):Prop:=∃ g c bs,v=.slice (some ⟨g,0,none⟩) 32 c∧PtA w g 0 bs∧Byte bs∧bs.length=32∧val 256 bs=V
theorem CdW.below {w w':World} {v:Value} {V:Int} (h:CdW w v V) (hb:Below w.heap.size w w'):CdW w' v V:=by
 obtain⟨g,c,bs,e,h1,h2⟩:=h
 exact⟨g,c,bs,e,h1.below hb,h2⟩
def StV (w:World) (v:Value) (V:Int):Prop:=∃ bs,v=.string (strOfNums bs)∧Byte bs∧bs.length=32∧val 256 bs=V
theorem StV.below {w w':World} {v:Value} {V:Int} (h:StV w v V) (hb:Below w.heap.size w w'):StV w' v V:=h
theorem str_injS {xs ys:List Int} (hx:Byte xs) (hy:Byte ys):((strOfNums xs).toList == (strOfNums ys).toList)=decide (xs=ys):=by
 rw[Bool.eq_iff_iff,decide_eq_true_eq,beq_iff_eq,ByteArray.toList_eq,ByteArray.toList_eq,strOfNums_data,strOfNums_data]
 constructor
 ·intro h;have hl:xs.length=ys.length:=by simpa using congrArg List.length h
  apply List.ext_getElem hl;intro i h1 h2;have e:(xs.map fun n=>UInt8.ofNat n.toNat)[i]?=(ys.map fun n=>UInt8.ofNat n.toNat)[i]?:=by rw[h]
  simp[h1,h2] at e;have e':=congrArg UInt8.toNat e;have bx:=hx xs[i] (List.getElem_mem h1);have by':=hy ys[i] (List.getElem_mem h2);simp only[UInt8.toNat_ofNat'] at e';omega
 ·rintro rfl;rfl
theorem str_val {xs ys:List Int} (hx:Byte xs) (hy:Byte ys) (lx:xs.length=32) (ly:ys.length=32):((strOfNums xs).toList == (strOfNums ys).toList)=decide (val 256 xs=val 256 ys):=by
 rw[str_injS hx hy]
 by_cases h:xs=ys
 ·rw[decide_eq_true h,decide_eq_true (by rw[h])]
 ·rw[decide_eq_false h,decide_eq_false (fun e=>h (val_inj (B:=256) (by decide) hx hy (by omega) e))]
end Go.Proofs.YtapejbpgdjbjjaaGreatDoor
namespace Go.Proofs.YtapejbpgdjbjjaaGreatDoor
open Go.ChangeShapes Go.WideShapes Go.ChangeAt Go.RowKit
set_option linter.unusedVariables false
theorem shaL_lenE (zs:List Int):(shaL zs).length=64:=by
 unfold shaL;rw[txtW_len,(finL_w8 _ _ _).1]
theorem byte_app {xs ys:List Int} (hx:Byte xs) (hy:Byte ys):Byte (xs++ys):=fun z hz=>by
 rcases List.mem_append.1 hz with h|h
 ·exact hx z h
 ·exact hy z h
theorem Part.of_own {w:World} {B:Nat} {v:Value} {zs:List Int} (h:Own w B v zs):Part w v zs:=by
 obtain⟨g,c,rfl,hA,_⟩:=PtA.of_own h
 exact⟨g,0,c,rfl,hA.lt,hA.c⟩
theorem cat3 (w:World) (v1 v2 v3:Value) (z1 z2 z3:List Int) (h1:Part w v1 z1) (h2:Part w v2 z2) (h3:Part w v3 z3) (hl:z1.length+z2.length+z3.length≤100000) :
  Calls Tryz.prog 26 #[.slice (some ⟨w.heap.size,0,none⟩) 3 3] (w.alloc (.cells #[v1,v2,v3] 22)) fun e w'=>∃ v,e=.returned v∧Own w' w.heap.size v (z1++z2++z3)∧Below w.heap.size w w':=by
 have hal:Below w.heap.size w (w.alloc (.cells #[v1,v2,v3] 22)):=below_new3 _ _
 have hfl:[z1,z2,z3].flatten=z1++z2++z3:=by simp
 have C:=cat_any w.heap.size 3 3 [v1,v2,v3] [z1,z2,z3] (w.alloc (.cells #[v1,v2,v3] 22)) rfl (by simp)
  (fun i hi=>by
   rw[cell_of_row _ _ i _ _ _ (heap_alloc_new w _)]
   match i,hi with
   |0,_=>rfl
   |1,_=>rfl
   |2,_=>rfl)
  (fun i hi=>by
   match i,hi with
   |0,_=>exact h1.below hal
   |1,_=>exact h2.below hal
   |2,_=>exact h3.below hal)
  (by rw[hfl,List.length_append,List.length_append];omega) (by decide)
 rw[hfl] at C
 refine C.mono ?_
 rintro e w' ⟨v,rfl,O,B⟩
 exact⟨v,rfl,O.monoE hal.size,hal.trans (B.mono hal.size)⟩
set_option maxRecDepth 100000 in
set_option maxHeartbeats 2000000 in
theorem sign_any (a r:Int) (bm om nm cm:Nat) (ms:List Int) (w:World) (ha0:0≤a) (ha1:a≤1000) (hr0:0≤r) (hr1:r≤1000) (hm:PtA w bm om ms) (hz:Byte ms) (hml:ms.length=nm) (hl:nm≤1000) :
  Calls Tryz.prog 19 #[.int .i64 a,.int .i64 r,.slice (some ⟨bm,om,none⟩) nm cm] w (fun e w'=>∃ v,e=.returned v∧TxO w' w.heap.size v 64∧Below w.heap.size w w'):=by
 have HM:=hid_ofE hm
 have HZ:=hid_ofE hz
 clear hm hz
 go_enter Tryz.func19,Tryz.ntmps19
 go_wp2_with fail
 refine(pubO_any r w hr0 hr1).mono ?_
 rintro e w1 ⟨v1,rfl,⟨z1,O1,l1,b1⟩,B1⟩
 obtain⟨g1,k1,rfl,_,_⟩:=PtA.of_own O1
 rw[l1] at O1 ⊢
 have HO1:=hid_ofE O1
 have HB1:=hid_ofE B1
 clear O1 B1
 go_wp2_with fail
 refine(pubO_any a w1 ha0 ha1).mono ?_
 rintro e w2 ⟨v2,rfl,⟨z2,O2,l2,b2⟩,B2⟩
 obtain⟨g2,k2,rfl,_,_⟩:=PtA.of_own O2
 rw[l2] at O2 ⊢
 have HO2:=hid_ofE (And.intro (HO1.out.keepE (fun k _ hk=>B2.block k hk)) O2)
 have HB2:=hid_ofE (HB1.out.trans (B2.mono HB1.out.size))
 clear O2 B2 HO1 HB1
 have C:=hid_ofE (cat3 w2 _ _ _ z1 z2 ms (Part.of_own HO2.out.1) (Part.of_own HO2.out.2) ((HM.out.below HB2.out).part nm cm hml) (by omega))
 go_wp2_with fail
 refine C.out.mono ?_
 rintro e w3 ⟨v3,rfl,O3,B3⟩
 obtain⟨g3,c3,rfl,hA3,hc3⟩:=PtA.of_own O3
 have HBY:=hid_ofE (byte_app (byte_app b1 b2) HZ.out)
 have hlen:(z1++z2++ms).length=64+nm:=by rw[List.length_append,List.length_append,l1,l2,hml]
 have HO3:=hid_ofE (HO2.out.1.keepE (fun k _ hk=>B3.block k hk))
 have HB3:=hid_ofE (HB2.out.trans (B3.mono HB2.out.size))
 have H:=hid_ofE (shaS_any g3 0 c3 (64+nm) (z1++z2++ms) w3 hlen hA3.lt hA3.c HBY.out (by omega))
 rw[hlen]
 have HSL:=hid_ofE (And.intro (shaL_lenE (z1++z2++ms)) (show Byte (shaL (z1++z2++ms)) by unfold shaL;exact txtW_byte _))
 clear C O3 B3 hA3 hc3 HBY HO2 HB2 HM hlen
 generalize shaL (z1++z2++ms)=hs at *
 go_wp2_with fail
 refine H.out.mono ?_
 rintro e w4 ⟨v4,rfl,O4,B4⟩
 obtain⟨g4,c4,rfl,hA4,hc4⟩:=PtA.of_own O4
 have HO4:=hid_ofE (HO3.out.keepE (fun k _ hk=>B4.block k hk))
 have HB4:=hid_ofE (HB3.out.trans (B4.mono HB3.out.size))
 have R:=hid_ofE (sred_any (some ⟨g4,0,none⟩) 64 c4 hs w4 HSL.out.1 (by decide) hA4.at_ HSL.out.2)
 rw[HSL.out.1]
 clear H O4 B4 hA4 hc4 HO3 HB3
 go_wp2_with fail
 refine R.out.mono ?_
 rintro e w5 ⟨v5,rs,rfl,O5,b5,l5,_,B5⟩
 obtain⟨g5,c5,rfl,hA5,hc5⟩:=PtA.of_own O5
 rw[l5]
 have HO5:=hid_ofE (HO4.out.keepE (fun k _ hk=>B5.block k hk))
 have HB5:=hid_ofE (HB4.out.trans (B5.mono HB4.out.size))
 have P:=hid_ofE (resp_any r a g5 0 c5 rs w5 hr0 hr1 ha0 ha1 l5 b5 hA5.lt hA5.c)
 clear R O5 B5 hA5 hc5 HO4 HB4
 go_wp2_with fail
 refine P.out.mono ?_
 rintro e w6 ⟨v6,rfl,⟨z6,O6,l6,b6⟩,B6⟩
 obtain⟨g6,c6,rfl,hA6,hc6⟩:=PtA.of_own O6
 rw[l6]
 have HO6:=hid_ofE (HO5.out.keepE (fun k _ hk=>B6.block k hk))
 have HB6:=hid_ofE (HB5.out.trans (B6.mono HB5.out.size))
 have HA6:=hid_ofE hA6
 clear P O6 B6 hA6 hc6 HO5 HB5
 go_wp2_with (at_builtin;refine wpList_app _ rfl _ _ rfl w.heap.size _ _ rfl HO6.out ⟨g6,0,none⟩ 32 c6 z6 rfl l6 ?c1 ?c2 HB6.out.size ?_)
 case c1=>intro j hj;rw[Addr.add_lit];exact HA6.out.c j (by omega)
 case c2=>omega
 intro v7 w7 O7 B7 _
 have HF:=hid_ofE (And.intro (TxO.of_own O7 (by rw[List.length_append,l1,l6]:(z1++z6).length=64) (byte_app b1 b6)) (HB6.out.trans B7))
 clear O7 B7 HO6 HB6 HA6
 go_wp2
 go_ret
 exact⟨_,rfl,HF.out.1,HF.out.2⟩
end Go.Proofs.YtapejbpgdjbjjaaGreatDoor
