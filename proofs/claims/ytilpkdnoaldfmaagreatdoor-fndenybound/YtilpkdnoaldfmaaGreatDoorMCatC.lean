import Derived.Test.YtilpkdnoaldfmaaGreatDoorMCatF
import Derived.Test.YtilpkdnoaldfmaaGreatDoorMBase
import Derived.Test.YtilpkdnoaldfmaaGreatDoorMMkB
import Derived.Test.YtilpkdnoaldfmaaGreatDoorMArgDev
import Derived.Deep.WholeRow
import Derived.Deep.Cut
namespace Go.Proofs.YtilpkdnoaldfmaaGreatDoor
open Go.ChangeShapes Go.WideShapes Go.ChangeAt Go.RowKit
set_option linter.unusedVariables false
def four (x:Int):List Int:=[x%256,x/256%256,x/65536%256,x/16777216]
theorem bit1_odd {c:Int} (h:U32 c) (o:(bits .and .u32 c 1 == 1)=true):bits .xor .u32 (c/2) 3988292384=bit1 c:=by
 rw[and1 h] at o;unfold bit1;rw[if_pos (by simpa using o)]
theorem bit1_even {c:Int} (h:U32 c) (o:(bits .and .u32 c 1 == 1)=false):c/2=bit1 c:=by
 rw[and1 h] at o;unfold bit1;rw[if_neg (by simpa using o)]
set_option maxHeartbeats 400000 in
theorem crcI_any (a:Option Addr) (n cap:Nat) (zs:List Int) (w:World) (hn:zs.length=n) (hm:n≤1048576) (ha:At .u8 w a zs) (hz:Byte zs) :
  Calls Tryz.prog 69 #[.slice a n cap] w fun e w'=>e=.returned (.int .u32 (crc zs))∧w'=w:=by
 go_enter Tryz.func69,Tryz.ntmps69;go_wp2
 go_loop [3,8] (fun c i=>∃ k:Nat,k≤n∧i=.int .i64 k∧c=.int .u32 (crcF (zs.take k))) (fun _ i=>n-(intOf i).toNat)
 case atStart=>exact⟨0,Nat.zero_le _,rfl,rfl⟩
 case round=>
  obtain⟨k,hk,rfl,rfl⟩:=hrel;have hbd:=crcF_bd (zs.take k);by_cases hlt:k<n
  ·obtain⟨b,off,rfl,hb,hc⟩:=ha.get (by omega);have hck:=hc k (by omega);have hx:=hz.get k;have HS:Hid (crcF (zs.take (k+1))=crcS (crcF (zs.take k)) (zs.getD k 0)):=by rw[take_snoc zs k (by omega),crcF_snoc];exact rfl
   generalize zs.getD k 0=x at *;generalize crcF (zs.take k)=c at *;clear hc;obtain⟨hx0,hx1⟩:=hx;go_wp2
   go_loop [3,16] (fun d i=>∃ j:Nat,j≤8∧i=.int .i64 j∧d=.int .u32 (bitN (bits .xor .u32 c x) j)) (fun _ i=>8-(intOf i).toNat)
   case atStart=>exact⟨0,Nat.zero_le _,rfl,rfl⟩
   case round=>
    obtain⟨j,hj,rfl,rfl⟩:=hrel;have hbn:U32 (bitN (bits .xor .u32 c x) j):=bitN_bd (bits_u32_bd _ _ _) j;have HB:Hid (bitN (bits .xor .u32 c x) (j+1)=bit1 (bitN (bits .xor .u32 c x) j)):=rfl;have HE:Hid (∀ o:j=8,bitN (bits .xor .u32 c x) j=crcF (zs.take (k+1))):=fun o=>by rw[HS.out,o];rfl
    generalize bitN (bits .xor .u32 c x) j=d at *;by_cases hj8:j<8
    ·cases ho:(bits .and .u32 d 1 == 1)
     ·have HV:Hid (d/2=bit1 d):=bit1_even hbn ho;go_wp2
      go_round
      case rel=>exact⟨j+1,by omega,by go_num,by rw[HB.out,←HV.out]⟩
      case measure=>simp[intOf];omega
     ·have HV:Hid (bits .xor .u32 (d/2) 3988292384=bit1 d):=bit1_odd hbn ho;go_wp2
      go_round
      case rel=>exact⟨j+1,by omega,by go_num,by rw[HB.out,←HV.out]⟩
      case measure=>simp[intOf];omega
    ·have HZ:=HE.out (by omega);have HH:Hid (d=crcF (zs.take (k+1))):=HZ;clear HE HZ HS HB;go_wp2
     go_round
     case rel=>exact⟨k+1,by omega,by go_num,by rw[HH.out]⟩
     case measure=>simp[intOf];omega
  ·go_wp2
   go_ret
   exact⟨ret_int (by rw[List.take_of_length_le (by omega)];rfl),rfl⟩
theorem below_new (w:World) (o:Obj):Below w.heap.size w (w.alloc o):=(Below.refl _ _).alloc (Nat.le_refl _) _
theorem four_byte (x:Int) (h:U32 x):Byte (four x):=by
 obtain⟨h0,h1⟩:=h;intro z hz;simp[four] at hz;rcases hz with rfl|rfl|rfl|rfl<;>omega
theorem Own.grow {w w':World} {B:Nat} {v:Value} {zs:List Int} (h:Own w B v zs) (hb:Below w.heap.size w w'):Own w' B v zs:=by
 refine⟨⟨h.1.1,?_⟩,h.2⟩;rcases h.1.2 with h'|⟨g',c',cur,h',hBg,hh,r⟩
 ·exact .inl h'
 ·exact .inr ⟨g',c',cur,h',hBg,by rw[hb.block _ (Array.getElem?_eq_some_iff.1 hh).1];exact hh,r⟩
def rch (bs:List Bool) (t u:Int) (i:Nat):Nat:=if(i:Int)=t then(min (max u 0) 64).toNat else if bs.getD i false then 64 else 0
theorem rch_le (bs:List Bool) (t u:Int) (i:Nat):rch bs t u i≤64:=by unfold rch;split;· omega
                                                                    split<;>omega
theorem rch_tear {bs:List Bool} {t u:Int} {i:Nat} (h:(i:Int)=t):rch bs t u i=(min (max u 0) 64).toNat:=by unfold rch;rw[if_pos h]
theorem rch_keep {bs:List Bool} {t u:Int} {i:Nat} (h:¬ (i:Int)=t) (h':bs.getD i false=true):rch bs t u i=64:=by unfold rch;rw[if_neg h,if_pos h']
theorem rch_no {bs:List Bool} {t u:Int} {i:Nat} (h:¬ (i:Int)=t) (h':bs.getD i false=false):rch bs t u i=0:=by unfold rch;rw[if_neg h,if_neg (by rw[h'];decide)]
def crL (zs:List Int) (ps:List PD) (bs:List Bool) (t u:Int):Nat→List Int
 |0=>zs
 |k+1=>overL (crL zs ps bs t u k) (ps.getD k (0,[])).1.toNat ((ps.getD k (0,[])).2.take (rch bs t u k))
def PsOk (L:Nat) (ps:List PD):Prop:=∀ i,i<ps.length→pOk (L/64) (ps.getD i (0,[]))
theorem validB_of {L:Nat} {ps:List PD} {f:Int} (h:validB L ps f=true):vBase L ps.length f∧PsOk L ps:=by
 constructor
 ·by_cases hv:vBase L ps.length f
  ·exact hv
  ·rw[validB_no hv] at h;cases h
 ·intro i hi;by_cases hp:pOk (L/64) (ps.getD i (0,[]))
  ·exact hp
  ·rw[validB_bad hi hp] at h;cases h
theorem PsOk.at_ {L:Nat} {ps:List PD} (h:PsOk L ps) (hL:L%64=0) {i:Nat} (hi:i<ps.length) :
  ∃ s:Nat,(ps.getD i (0,[])).1=(s:Int)∧s*64+64≤L∧(ps.getD i (0,[])).2.length=64:=by
 obtain⟨h1,h2,h3⟩:=h i hi;refine⟨(ps.getD i (0,[])).1.toNat,by omega,?_,h3⟩;omega
theorem crL_len {zs:List Int} {ps:List PD} {bs:List Bool} {t u:Int} (h:PsOk zs.length ps) (hL:zs.length%64=0):∀ k,k≤ps.length→(crL zs ps bs t u k).length=zs.length:=by
 intro k
 induction k with
 |zero=>intro _;rfl
 |succ k ih=>
  intro hk;obtain⟨s,h1,h2,h3⟩:=h.at_ hL (i:=k) (by omega);have:=rch_le bs t u k;have ihk:=ih (by omega);show(overL _ _ _).length=_
  rw[overL_len,ihk];rw[ihk,h1];simp;omega
theorem overL_mix (zs:List Int) (s:Nat) (z:List Int) (n:Nat) (hn:n≤64) (hz:z.length=64) (hs:s*64+64≤zs.length) :
  overL zs s (z.take n++((zs.drop (s*64)).take 64).drop n)=overL zs s (z.take n):=by
 have h1:(z.take n++((zs.drop (s*64)).take 64).drop n).length=64:=by simp[hz];omega
 have h2:(z.take n).length=n:=by simp[hz];omega
 unfold overL;rw[h1,h2,List.append_assoc]
 congr 2
 have e1:zs.drop (s*64+64)=(zs.drop (s*64)).drop 64:=by rw[List.drop_drop]
 have e2:zs.drop (s*64+n)=(zs.drop (s*64)).drop n:=by rw[List.drop_drop]
 rw[e1,e2];have hl:n≤((zs.drop (s*64)).take 64).length:=by simp;omega
 rw[←List.drop_append_of_le_length hl,List.take_append_drop]
def crZ (zs:List Int) (ps:List PD) (f:Int) (bs:List Bool) (t u:Int):List Int:=if validB zs.length ps f then crL zs ps bs t u ps.length else []
def crF (L:Nat) (ps:List PD) (f:Int):Int:=if validB L ps f then -1 else 0
theorem Own.at_ {w:World} {B:Nat} {v:Value} {zs:List Int} (h:Own w B v zs):∃ g c,v=.slice (some ⟨g,0,none⟩) zs.length c∧B≤g∧g<w.heap.size∧zs.length≤c∧At .u8 w (some ⟨g,0,none⟩) zs∧Open w (some ⟨g,0,none⟩) zs.length:=by
 obtain⟨g,c,rfl,hb,hg,hc⟩:=h.base;have hcell:∀ i,i<zs.length→w.cell? ⟨g,0+i,none⟩=some (.int .u8 (zs.getD i 0)):=fun i hi=>by
  rw[Nat.zero_add,h.1.cellAt i (by omega)];simp[hi]
 refine⟨g,c,rfl,hb,hg,hc,.inr ⟨g,0,rfl,hg,hcell⟩,.inr ⟨g,0,rfl,hg,fun i hi=>⟨by rw[hcell i hi];rfl,?_⟩⟩⟩;rw[Nat.zero_add];exact h.1.frozenAt i
theorem DMine.plain {w:World} {B U:Nat} {v:Value} {zs:List Int} (f:Int) (d:Bool) (h:Own w B v zs) (hU:U=w.heap.size):DMine B U w (.agg #[v,.slice none 0 0,.int .i64 f,.bool d]) zs [] f d:=by
 subst hU;obtain⟨g,c,rfl,hb,hg,hc,hA,hO⟩:=h.at_;exact⟨_,c,none,0,w.heap.size,rfl,hA,hO,fun ad e=>by cases e;exact⟨hb,hg⟩,by omega,Nat.le_refl _,Nat.le_refl _,.inl rfl,hc⟩
theorem DMine.nil (w:World) (B U:Nat) (hB:B≤U) (hU:U≤w.heap.size) (f:Int) (d:Bool):DMine B U w (.agg #[.slice none 0 0,.slice none 0 0,.int .i64 f,.bool d]) [] [] f d:=
 ⟨none,0,none,0,U,rfl,.inl rfl,.inl rfl,(fun ad e=>by cases e),hB,Nat.le_refl _,hU,.inl rfl,Nat.le_refl _⟩
theorem row4 {w:World} {g:Nat} {t:TypeId} {a0 a1 a2 a3:Value} (h:w.heap[g]?=some (.cells #[a0,a1,a2,a3] t (0,0))) :
  w.cell? ⟨g,0,none⟩=some a0∧w.cell? ⟨g,1,none⟩=some a1∧w.cell? ⟨g,2,none⟩=some a2∧w.cell? ⟨g,3,none⟩=some a3:=
 ⟨cell_of_row _ _ _ _ _ _ h,cell_of_row _ _ _ _ _ _ h,cell_of_row _ _ _ _ _ _ h,cell_of_row _ _ _ _ _ _ h⟩
def OwnN (w:World) (B:Nat) (v:Value) (zs:List Int):Prop:=(v=.slice none 0 0∧zs=[])∨Own w B v zs
theorem run_nilSlice (w:World) (a:Option Addr) (n c:Nat):(binOp .eql 22 (.slice a n c) (.slice none 0 0)).run Tryz.prog w=.ok (.bool a.isNone) w:=by
 have h:∀ d,(Op.equalIn (d+1) 22 (.slice a n c) (.slice none 0 0)).run Tryz.prog w=.ok a.isNone w:=fun d=>by
  cases a<;>simp[Op.equalIn,run_underlying Tryz.underlying22]
 have h':(Op.equal 22 (.slice a n c) (.slice none 0 0)).run Tryz.prog w=.ok a.isNone w:=h 9999;simp only[binOp];simp[h']
set_option maxHeartbeats 400000 in
set_option maxRecDepth 100000 in
theorem clone_any (a:Option Addr) (n cap:Nat) (zs:List Int) (w:World) (hn:zs.length=n) (hm:n≤1048576) (ha:At .u8 w a zs) (hnil:a=none→n=0∧cap=0) :
  Calls Tryz.prog 19 #[.slice a n cap] w fun e w'=>∃ v,e=.returned v∧OwnN w' w.heap.size v zs∧Below w.heap.size w w':=by
 cases a with
 |none=>
  obtain⟨rfl,rfl⟩:=hnil rfl;have E:=run_nilSlice w none 0 0;go_enter Tryz.func19,Tryz.ntmps19;go_wp2
  go_ret
  exact⟨_,rfl,.inl ⟨rfl,List.eq_nil_of_length_eq_zero hn⟩,Below.refl _ _⟩
 |some ad=>
  obtain⟨b,off,sp⟩:=ad;have hN:∀ j,j<n→(w.alloc (.cells #[] 5)).cell? ((⟨b,off,sp⟩:Addr).add j)=some (.int .u8 (zs.getD j 0)):=by
   intro j hj;obtain⟨b1,o1,e1,hb1,hc1⟩:=ha.get (by omega);cases e1;rw[Addr.add_lit,((Below.refl w.heap.size w).alloc (Nat.le_refl _) _).cell (p:=⟨b,off+j,none⟩) hb1];exact hc1 j (by omega)
  have HN:Hid _:=hN;clear hN ha;have E:=run_nilSlice w (some ⟨b,off,sp⟩) n cap;go_enter Tryz.func19,Tryz.ntmps19;go_wp2_with (at_builtin;refine wpList_app _ rfl _ _ rfl w.heap.size _ _ rfl (Own.empty w w.heap.size (Nat.le_refl _)) ⟨b,off,sp⟩ n cap zs rfl hn HN.out ?c2 ?c3 ?_)
  (try(case c2=>first|omega|(simp;omega)))
  (try(case c3=>first|omega|(simp;try omega)))
  intro v' w3 hown' hbel' _;have HO:Hid (Own w3 w.heap.size v' zs):=by unfold Hid;simpa using hown'
  have HB:Hid (Below w.heap.size w w3):=((Below.refl _ _).alloc (Nat.le_refl _) _).trans hbel';clear hown' hbel';go_wp2
  go_ret
  exact⟨_,rfl,.inr HO.out,HB.out⟩
theorem upd_ne2 {u:Nat→Value} {i j:Nat} {v:Value} (h:i≠j):upd u i v j=u j:=by unfold upd;rw[if_neg (Ne.symm h)]
structure Q1 where
 s:Int
 a:Option Addr
 c:Nat
 z:List Int
def qcells (qs:List Q1):List Value:=qs.flatMap fun q=>[.int .i64 q.s,.slice q.a q.z.length q.c]
def qps (qs:List Q1):List PD:=qs.map fun q=>(q.s,q.z)
theorem qcells_len (qs:List Q1):(qcells qs).length=qs.length*2:=by
 induction qs with
 |nil=>rfl
 |cons q qs ih=>unfold qcells at *;rw[List.flatMap_cons,List.length_append,ih];simp;omega
theorem qcells_snoc (qs:List Q1) (q:Q1):qcells (qs++[q])=qcells qs++[.int .i64 q.s,.slice q.a q.z.length q.c]:=by simp[qcells]
theorem qcells_get (qs:List Q1) (i:Nat) (q:Q1) (h:qs[i]?=some q):(qcells qs)[i*2]?=some (.int .i64 q.s)∧(qcells qs)[i*2+1]?=some (.slice q.a q.z.length q.c):=by
 induction qs generalizing i with
 |nil=>simp at h
 |cons p qs ih=>
  unfold qcells at *;rw[List.flatMap_cons];cases i with
  |zero=>simp at h;subst h;exact⟨rfl,rfl⟩
  |succ i=>
   have h':qs[i]?=some q:=by simpa using h
   obtain⟨h1,h2⟩:=ih i h';constructor
   ·rw[show(i+1)*2=i*2+2 by omega,List.getElem?_append_right (by simp)];simpa using h1
   ·rw[show(i+1)*2+1=i*2+1+2 by omega,List.getElem?_append_right (by simp)];simpa using h2
def Q1.v (q:Q1):Value:=.slice q.a q.z.length q.c
theorem OwnN.lt {w:World} {B:Nat} {v:Value} {z:List Int} (h:OwnN w B v z):∀ k,v.ownBlock=some k→B≤k∧k<w.heap.size∧∃ cur,w.heap[k]?=some (.cells cur 5 (0,0)):=by
 intro k e;rcases h with⟨rfl,_⟩|h
 ·cases e
 ·obtain⟨⟨h1,⟨h2,_⟩|⟨g,cap,cur,h2,hb,hh,_⟩⟩,_⟩:=h
  ·rw[h2] at e;cases e
  ·rw[h2] at e;cases e;exact⟨hb,(Array.getElem?_eq_some_iff.1 hh).1,cur,hh⟩
theorem ownsRow_keep {w w':World} {B:Nat} {e:TypeId} {sz:Nat} {v:Value} {n:Nat} {xs:List Value} (h:w.ownsRow B e sz v n xs) (hk:∀ k,v.ownBlock=some k→w'.heap[k]?=w.heap[k]?):w'.ownsRow B e sz v n xs:=by
 obtain⟨h1,h2|⟨g,cap,cur,h2,hb,hh,h3,h4,h5,h6⟩⟩:=h
 ·exact⟨h1,.inl h2⟩
 ·exact⟨h1,.inr ⟨g,cap,cur,h2,hb,by rw[hk g (by rw[h2];rfl)];exact hh,h3,h4,h5,h6⟩⟩
theorem ownsRow_lt {w:World} {B:Nat} {e:TypeId} {sz:Nat} {v:Value} {n:Nat} {xs:List Value} (h:w.ownsRow B e sz v n xs):∀ k,v.ownBlock=some k→B≤k∧k<w.heap.size∧∃ cur,w.heap[k]?=some (.cells cur e (0,0)):=by
 intro k hk;obtain⟨h1,⟨h2,_⟩|⟨g,cap,cur,h2,hb,hh,h3,h4,h5,h6⟩⟩:=h
 ·rw[h2] at hk;cases hk
 ·rw[h2] at hk;cases hk;exact⟨hb,(Array.getElem?_eq_some_iff.1 hh).1,cur,hh⟩
theorem ownsRow_mono {w:World} {B B':Nat} {e:TypeId} {sz:Nat} {v:Value} {n:Nat} {xs:List Value} (h:w.ownsRow B e sz v n xs) (hB:B'≤B):w.ownsRow B' e sz v n xs:=by
 obtain⟨h1,h2|⟨g,cap,cur,h2,hb,hh,h3,h4,h5,h6⟩⟩:=h
 ·exact⟨h1,.inl h2⟩
 ·exact⟨h1,.inr ⟨g,cap,cur,h2,by omega,hh,h3,h4,h5,h6⟩⟩
theorem Own.keep {w w':World} {B:Nat} {v:Value} {zs:List Int} (h:Own w B v zs) (hk:∀ k,v.ownBlock=some k→w'.heap[k]?=w.heap[k]?):Own w' B v zs:=⟨ownsRow_keep h.1 hk,h.2⟩
theorem Own.mono {w:World} {B B':Nat} {v:Value} {zs:List Int} (h:Own w B v zs) (hB:B'≤B):Own w B' v zs:=⟨ownsRow_mono h.1 hB,h.2⟩
theorem OwnN.keep {w w':World} {B:Nat} {v:Value} {zs:List Int} (h:OwnN w B v zs) (hk:∀ k,v.ownBlock=some k→w'.heap[k]?=w.heap[k]?):OwnN w' B v zs:=by
 rcases h with h|h
 ·exact .inl h
 ·exact .inr (h.keep hk)
theorem OwnN.mono {w:World} {B B':Nat} {v:Value} {zs:List Int} (h:OwnN w B v zs) (hB:B'≤B):OwnN w B' v zs:=by
 rcases h with h|h
 ·exact .inl h
 ·exact .inr (h.mono hB)
def QOk (w:World) (B:Nat) (q:Q1):Prop:=OwnN w B q.v q.z∨∃ k,q.v=.slice (some ⟨k,0,none⟩) 64 64∧B≤k∧q.z.length=64∧Row w k 65 q.z
theorem QOk.lt {w:World} {B:Nat} {q:Q1} (h:QOk w B q):∀ k,q.v.ownBlock=some k→B≤k∧k<w.heap.size∧∃ cur t,w.heap[k]?=some (.cells cur t (0,0))∧t≠63∧t≠27:=by
 intro k e;rcases h with h|⟨k',hv,hb,hl,hr⟩
 ·obtain⟨h1,h2,cur,h3⟩:=h.lt k e;exact⟨h1,h2,cur,_,h3,by decide,by decide⟩
 ·rw[hv] at e;cases e;exact⟨hb,hr.lt,_,_,hr,by decide,by decide⟩
theorem QOk.keep {w w':World} {B:Nat} {q:Q1} (h:QOk w B q) (hk:∀ k,q.v.ownBlock=some k→w'.heap[k]?=w.heap[k]?):QOk w' B q:=by
 rcases h with h|⟨k',hv,hb,hl,hr⟩
 ·exact .inl (h.keep hk)
 ·exact .inr ⟨k',hv,hb,hl,by unfold Row;rw[hk k' (by rw[hv];rfl)];exact hr⟩
theorem QOk.mono {w:World} {B B':Nat} {q:Q1} (h:QOk w B q) (hB:B'≤B):QOk w B' q:=by
 rcases h with h|⟨k',hv,hb,hl,hr⟩
 ·exact .inl (h.mono hB)
 ·exact .inr ⟨k',hv,by omega,hl,hr⟩
structure POwn (w:World) (B:Nat) (v:Value) (qs:List Q1):Prop where
 row:w.ownsRow B 63 2 v qs.length (qcells qs)
 each:∀(i:Nat) (q:Q1),qs[i]?=some q→QOk w B q
 ord:∀(i j:Nat) (q q':Q1) (k k':Nat),qs[i]?=some q→qs[j]?=some q'→i<j→q.v.ownBlock=some k→q'.v.ownBlock=some k'→k<k'
theorem POwn.nil (w:World) (B:Nat):POwn w B (.slice none 0 0) []:=⟨⟨rfl,.inl ⟨rfl,rfl⟩⟩,fun i q h=>by simp at h,fun i j q q' ad ad' h=>by simp at h⟩
theorem POwn.below {w w':World} {B:Nat} {v:Value} {qs:List Q1} (h:POwn w B v qs) (hb:Below w.heap.size w w'):POwn w' B v qs:=
 ⟨ownsRow_keep h.row (fun k hk=>hb.block k (ownsRow_lt h.row k hk).2.1),fun i q hq=>(h.each i q hq).keep (fun k hk=>hb.block k ((h.each i q hq).lt k hk).2.1),h.ord⟩
theorem POwn.keep {w w':World} {B:Nat} {v:Value} {qs:List Q1} (h:POwn w B v qs) (hk:∀ k,B≤k→k<w.heap.size→w'.heap[k]?=w.heap[k]?):POwn w' B v qs:=
 ⟨ownsRow_keep h.row (fun k e=>hk k (ownsRow_lt h.row k e).1 (ownsRow_lt h.row k e).2.1),fun i q hq=>(h.each i q hq).keep (fun k e=>hk k ((h.each i q hq).lt k e).1 ((h.each i q hq).lt k e).2.1),h.ord⟩
theorem POwn.mine {w:World} {B:Nat} {v:Value} {qs:List Q1} (h:POwn w B v qs):∃ a c,v=.slice a qs.length c∧PMine B w.heap.size w a (qps qs):=by
 obtain⟨h1,⟨h2,h3⟩|⟨g,cap,cur,h2,hb,hh,hc,hm,hs,ht⟩⟩:=h.row
 ·exact⟨none,0,by rw[h2,h3],.inl (by rw[List.eq_nil_of_length_eq_zero h3];rfl)⟩
 ·refine⟨_,cap,h2,?_⟩;have hlt:=(Array.getElem?_eq_some_iff.1 hh).1;refine .inr ⟨g,0,fun i=>(qs.getD i ⟨0,none,0,[]⟩).a,fun i=>(qs.getD i ⟨0,none,0,[]⟩).c,rfl,hb,hlt,Nat.le_refl _,fun i hi=>?_,fun i j ad ad' hi hj hij e e'=>?_⟩
  ·have hi':i<qs.length:=by simpa[qps] using hi
   have hq:qs[i]?=some qs[i]:=List.getElem?_eq_getElem hi';have hd:qs.getD i ⟨0,none,0,[]⟩=qs[i]:=by rw[List.getD_eq_getElem?_getD,hq];rfl
   have hp:(qps qs).getD i (0,[])=(qs[i].s,qs[i].z):=by simp[qps,List.getD,hq]
   obtain⟨c1,c2⟩:=qcells_get qs i _ hq;have hcell:∀ t x,(qcells qs)[t]?=some x→w.cell? ⟨g,0+t,none⟩=some x:=fun t x hx=>by
    have htl:t<qs.length*2:=by have:=(List.getElem?_eq_some_iff.1 hx).1;rw[qcells_len] at this;exact this
    rw[cell_of_row w g (0+t) cur _ (0,0) hh,Nat.zero_add];have:(cur.toList.take (qs.length*2))[t]?=(qcells qs)[t]?:=by rw[ht]
    rw[List.getElem?_take_of_lt htl,hx] at this;simpa using this
   have hE:=h.each i _ hq;dsimp only;rw[hd,hp];refine⟨hcell _ _ c1,frozen_of_row w g _ cur _ hh,by rw[Nat.add_assoc];exact hcell _ _ c2,?_,?_,fun ad e=>?_,?_⟩
   ·rcases hE with (⟨_,h0⟩|hO)|⟨k',hv,hb',hl,hr⟩
    ·exact .inl h0
    ·obtain⟨g',c',hv,_,_,_,hA,_⟩:=hO.at_;have:qs[i].a=some ⟨g',0,none⟩:=by unfold Q1.v at hv;simp at hv;exact hv.1
     rw[this];exact hA
    ·have:qs[i].a=some ⟨k',0,none⟩:=by unfold Q1.v at hv;simp at hv;exact hv.1
     rw[this];exact hr.at_
   ·rcases hE with (⟨_,h0⟩|hO)|⟨k',hv,hb',hl,hr⟩
    ·exact .inl (by rw[h0];rfl)
    ·obtain⟨g',c',hv,_,_,_,_,hA⟩:=hO.at_;have:qs[i].a=some ⟨g',0,none⟩:=by unfold Q1.v at hv;simp at hv;exact hv.1
     rw[this];exact hA
    ·have:qs[i].a=some ⟨k',0,none⟩:=by unfold Q1.v at hv;simp at hv;exact hv.1
     rw[this];exact hr.open_
   ·obtain⟨l1,l2,cur',t',l3,l4,_⟩:=hE.lt ad.block (by unfold Q1.v;rw[e];rfl);refine⟨l1,l2,fun eg=>?_⟩;rw[eg,hh] at l3;simp at l3;exact l4 l3.2.symm
   ·rcases hE with (⟨hv,h0⟩|hO)|⟨k',hv,hb',hl,hr⟩
    ·rw[h0];exact Nat.zero_le _
    ·obtain⟨g',c',hv,_,_,hle,_,_⟩:=hO.at_;have:qs[i].c=c':=by unfold Q1.v at hv;simp at hv;exact hv.2
     rw[this];exact hle
    ·have:qs[i].c=64:=by unfold Q1.v at hv;simp at hv;exact hv.2.2
     rw[this,hl];exact Nat.le_refl _
  ·have hi':i<qs.length:=by simpa[qps] using hi
   have hj':j<qs.length:=by simpa[qps] using hj
   have hd:∀ t (ht:t<qs.length),qs.getD t ⟨0,none,0,[]⟩=qs[t]:=fun t ht=>by rw[List.getD_eq_getElem?_getD,List.getElem?_eq_getElem ht];rfl
   simp only[hd i hi',hd j hj'] at e e';rcases Nat.lt_or_ge i j with hlt'|hge
   ·have:=h.ord i j _ _ ad.block ad'.block (List.getElem?_eq_getElem hi') (List.getElem?_eq_getElem hj') hlt' (by unfold Q1.v;rw[e];rfl) (by unfold Q1.v;rw[e'];rfl);omega
   ·have:=h.ord j i _ _ ad'.block ad.block (List.getElem?_eq_getElem hj') (List.getElem?_eq_getElem hi') (by omega) (by unfold Q1.v;rw[e'];rfl) (by unfold Q1.v;rw[e];rfl);omega
end Go.Proofs.YtilpkdnoaldfmaaGreatDoor
