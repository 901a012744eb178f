import Derived.Test.YtncomnkdlpoelaaGreatDoorMCatF
open Go.Proofs.Tryz renaming prog->tP
open Go.Proofs.Tryz
open Go.Value renaming slice->aM,int->aO,pointer->aY,bool->ae,agg->af
open Go.IntKind renaming i64->aZ,u8->aP
open Go.Obj renaming cells->aa
open Go.Ending renaming returned->aQ
open Go.Operand renaming tmp->ah
open Option renaming some->aR,none->aS
open Go renaming World->aV,Value->aX
set_option maxHeartbeats 8000000
set_option maxRecDepth 100000
namespace Go.Proofs.YtncomnkdlpoelaaGreatDoor
open Go.ChangeShapes Go.WideShapes Go.ChangeAt Go.RowKit
set_option linter.unusedVariables false
def Tt (D U:List Int) (k:Int) (T:List Int) (n:Nat):Prop:=DO D/\D.length<=16/\DO U/\0<=k/\k+n=U.length/\Md U T n
open Classical in
noncomputable def Ep (D U:List Int) (k:Int) (T:List Int) (n:Nat):Bool:=decide (Tt D U k T n)
theorem EW {D U:List Int} {k:Int} {T:List Int} {n:Nat} (h:¬ Tt D U k T n):Ep D U k T n=false:=by unfold Ep;simp[h]
theorem Lx {D U:List Int} {k:Int} {T:List Int} {n:Nat} (h:Tt D U k T n):Ep D U k T n=true:=by unfold Ep;simp[h]
theorem FA:(Tryz.zeroCells61).size=66:=AM
theorem ER:(Tryz.zeroCells61).all (λx=>x.oneCell')=true:=AM
theorem EX {fn:Func} {p u:Tmp} (h:fn.results=#[.cell p 61,.tmp u]) (tmps:Array aX) (w:aV) (g:Nat) (cs:Array aX) (v:aX) (hv:tmps.getD u undef=v)
  (hp:tmps.getD p undef=aY (aR ⟨g,0,aS⟩)) (hr:w.heap[g]?=aR (aa cs 61 (0,0))) (hs:(tP.info? 61).map (·.size)=aR cs.size) :
  (results fn tmps).run tP w=.ok (.tuple #[af cs,v]) w:=by
 have hp':tmps[p]?.getD undef=aY (aR ⟨g,0,aS⟩):=by simpa using hp
 have hv':tmps[u]?.getD undef=v:=by simpa using hv
 have hl:=run_loadVar_row (P:=tP) w g 61 61 cs (0,0) _ hr underlying61 rfl hs;simp[results,h,hp',hv',asAddr,hl]
def Zd (w:aV) (D U:List Int) (k:Int) (T:List Int) (n:Nat) (e:Ending) (w':aV):Prop:=
 ∃ bk:Array aX,e=aQ (.tuple #[af bk,ae (Ep D U k T n)])/\bk.size=66/\bk.all (λx=>x.oneCell')=true/\Below w.heap.size w w'/\
  (Ep D U k T n=true->∃ db ub v,bk=F9 db ub k v/\DM db (λv=>(v:Int)∈D)/\DM ub (λv=>(v:Int)∈U)/\Cj w.heap.size w' v T n)
structure Uu (w:aV) (sc:Array aX) (wr:aV):Prop where
 below:Below w.heap.size w wr
 box:wr.heap[w.heap.size]?=aR (aa sc 26 (0,0))
 res:wr.heap[w.heap.size+1]?=aR (aa Tryz.zeroCells61 61 (0,0))
theorem Uu.lt {w wr:aV} {sc:Array aX} (h:Uu w sc wr):w.heap.size<wr.heap.size:=(AR.1 h.box).1
theorem Uu.lt2 {w wr:aV} {sc:Array aX} (h:Uu w sc wr):w.heap.size+1<wr.heap.size:=(AR.1 h.res).1
theorem Uu.call {w wr w':aV} {sc:Array aX} (h:Uu w sc wr) (b:Below wr.heap.size wr w'):Uu w sc w':=
 ⟨h.below.trans (b.mono h.below.size),by rw[b.block _ h.lt];exact h.box,by rw[b.block _ h.lt2];exact h.res⟩
theorem Im {w:aV} {ops:Array Oper} {rest:List Oper} {o:Oper} {a:Act} {Q:Exit->Act->aV->Prop} (hgd:o.guard=aS) (x y:Operand) (ho:o.op=.store 59 x y)
  (bs:List Int) (hx:a.eval x=aY (aR ⟨w.heap.size,0,aS⟩)) (hy:a.eval y=af (bs.map (Value.int aP)).toArray) (hl:bs.length=32)
  {wa:aV} (hwa:wa=w.alloc (aa CU 59)) (hK:∀ w',Er w' w.heap.size 59 bs->Below w.heap.size w w'->wpList tP ops Q rest (a.put o.dst undef) w') :
  wpList tP ops Q (o::rest) a wa:=by
 subst hwa;exact Bx hgd 59 x y ho w.heap.size ((bs.map (Value.int aP)).toArray) hx hy 59 _ (AS w _) (by rw[Tryz.sizeSS];simp[hl]) (by simp[hl]) (all_oneCell_toArray (Az _ _))
  (hK _ (AB (AS w _)) ((Cf.alloc Ch _).trans ((Wr.setRow _ _ _).below Ch)))
theorem Ly {w:aV} {ops:Array Oper} {rest:List Oper} {o:Oper} {a:Act} {Q:Exit->Act->aV->Prop} (x:Operand) (ho:o.op=.load 59 x) (hw:Region.wanted o (yielded ops a.tmps)=true)
  (g:Nat) (bs:List Int) (hx:a.eval x=aY (aR ⟨g,0,aS⟩)) (hr:Er w g 59 bs) (hl:bs.length=32) (hK:wpList tP ops Q rest (a.put o.dst (af (bs.map (Value.int aP)).toArray)) w) :
  wpList tP ops Q (o::rest) a w:=
 wpList_step λK hK'=>by
  rw[AP hw];exact Bp 59 x ho g hx 59 _ (0,0) _ hr underlying59 rfl (by rw[Tryz.sizeSS];simp[hl]) (hK' _ _ hK)
theorem ED {w:aV} {ops:Array Oper} {rest:List Oper} {o:Oper} {a:Act} {Q:Exit->Act->aV->Prop} (x:Operand) (ho:o.op=.load 59 x) (hw:Region.wanted o (yielded ops a.tmps)=false)
  (hK:wpList tP ops Q rest (a.put o.dst undef) w):wpList tP ops Q (o::rest) a w:=by
 unfold wpList;rw[AQ (by rw[hw];simp)];exact hK
theorem Si {w:aV} {o:Oper} {a:Act} {K:Act->aV->Prop} {Q:Exit->Act->aV->Prop} (ho:o.op=.build 61 #[(0,.tmp 56),(1,.tmp 57),(2,.tmp 59),(3,.tmp 62)]) {db ub:List Int} {k:Int} {v:aX}
  (h0:a.eval (ah 56)=af (db.map (Value.int aP)).toArray) (h1:a.eval (ah 57)=af (ub.map (Value.int aP)).toArray) (h3:a.eval (ah 59)=aO aZ k) (h6:a.eval (ah 62)=v) (hd:db.length=32) (hu:ub.length=32) (hv:v.cells=#[v])
  (hK:K (a.put o.dst (af (F9 db ub k v))) w):o.wp tP a w K Q:=by
 have e:((#[(0,.tmp 56),(1,.tmp 57),(2,.tmp 59),(3,.tmp 62)]:Array (Nat×Operand)).map λ(x:Nat×Operand)=>(x.1,a.eval x.2)).toList=[(0,af (db.map (Value.int aP)).toArray),(1,af (ub.map (Value.int aP)).toArray),(2,aO aZ k),(3,v)]:=by
  simp only[List.map_toArray,List.map_cons,List.map_nil,h0,h1,h3,h6]
 have hb:=Ww db ub hd hu k v hv;rw[<-e] at hb;refine wp_build 61 _ ho ?_ ?_
 ·exact(congrArg Option.isSome hb).trans rfl
 ·have e2:((tP.built 61 ((#[(0,.tmp 56),(1,.tmp 57),(2,.tmp 59),(3,.tmp 62)]:Array (Nat×Operand)).map λ(x:Nat×Operand)=>(x.1,a.eval x.2)).toList).getD #[])=F9 db ub k v:=by rw[hb];rfl
  exact e2 ▸ hK
theorem Cj.mono {B B':Nat} {w:aV} {v:aX} {T:List Int} {n:Nat} (h:Cj B' w v T n) (hB:B<=B'):Cj B w v T n:=by
 obtain⟨h1,h2⟩:=h;refine⟨h1,?_⟩;rcases h2 with h|⟨g,c,cur,h4,h5,h6⟩
 ·exact .inl h
 ·exact .inr ⟨g,c,cur,h4,AJ,h6⟩
theorem Cj.wrh {B R:Nat} {w w':aV} {v:aX} {T:List Int} {n:Nat} (h:Cj B w v T n) (hR:R<B) (hw:ET R w w'):Cj B w' v T n:=by
 obtain⟨h1,h2⟩:=h;refine⟨h1,?_⟩;rcases h2 with h|⟨g,c,cur,h4,h5,h6,h7⟩
 ·exact .inl h
 ·exact .inr ⟨g,c,cur,h4,h5,by rw[hw.block g (AR.1 h6).1 AJ];exact h6,h7⟩
theorem Qe {B:Nat} {w:aV} {v:aX} {T:List Int} {n:Nat} (h:Cj B w v T n):v.cells=#[v]:=by
 rcases h.2 with⟨h,_⟩|⟨g,c,cur,h,_⟩
 ·rw[h];rfl
 ·rw[h];rfl
def Uv (H:Nat) (w:aV) (v:aX) (T:List Int) (n:Nat):Prop:=∃ B,H+1<B/\Cj B w v T n/\v.oneCell'=true
theorem Uv.wrh {H:Nat} {w w':aV} {v:aX} {T:List Int} {n:Nat} (h:Uv H w v T n) (hw:ET (H+1) w w'):Uv H w' v T n:=by
 obtain⟨B,a,b,c⟩:=h;exact⟨B,a,b.wrh a hw,c⟩
def YU (H:Nat) (w:aV) (v:aX) (d u:List Int) (k:Int) (T:List Int) (n:Nat):Prop:=∃ v6,v=af (F9 d u k v6)/\Uv H w v6 T n
theorem YU.wrh {H:Nat} {w w':aV} {v:aX} {d u:List Int} {k:Int} {T:List Int} {n:Nat} (h:YU H w v d u k T n) (hw:ET (H+1) w w'):YU H w' v d u k T n:=by
 obtain⟨v6,a,b⟩:=h;exact⟨v6,a,b.wrh hw⟩
def Tu (w W:aV) (d u:List Int) (k:Int) (T:List Int) (n:Nat) (L:Nat->Bool) (w':aV):Prop:=
 ET (w.heap.size+1) W w'/\(L 8=false->w'.heap[w.heap.size+1]?=aR (aa Tryz.zeroCells61 61 (0,0)))/\
  (L 8=true->∃ v6,w'.heap[w.heap.size+1]?=aR (aa (F9 d u k v6) 61 (0,0))/\Uv w.heap.size w' v6 T n)
section
variable {w W w' ww:aV} {d u:List Int} {k:Int} {T:List Int} {n:Nat} {L:Nat->Bool}
theorem Tu.ref (h:Tu w W d u k T n L w') (i:Nat) (hi:i≠8):Tu w W d u k T n (CZ L i) w':=
 ⟨h.1,by unfold CZ;simpa[Ne.symm hi] using h.2.1,by unfold CZ;simpa[Ne.symm hi] using h.2.2⟩
theorem Tu.low {sc:Array aX} (h:Tu w W d u k T n L w') (i:Nat) (hi:i≠8) (hE:Uu w sc W) (b:Below w'.heap.size w' ww):Tu w W d u k T n (CZ L i) ww:=by
 have hlt:=Ap hE.lt2 h.1.size;refine⟨h.1.trans (ET.of_below b),?_,?_⟩
 ·unfold CZ;simp only[Ne.symm hi,if_false];intro q;rw[b.block _ hlt];exact h.2.1 (by simpa using q)
 ·unfold CZ;simp only[Ne.symm hi,if_false];intro q;obtain⟨v6,a,c⟩:=h.2.2 (by simpa using q);exact⟨v6,by rw[b.block _ hlt];exact a,c.wrh (ET.of_below b)⟩
theorem Tu.put {v6:aX} (h:Tu w W d u k T n L w') (hr:ww.heap[w.heap.size+1]?=aR (aa (F9 d u k v6) 61 (0,0))) (hw:Wr (w.heap.size+1) w' ww) (hc:Uv w.heap.size w' v6 T n):Tu w W d u k T n (CZ L 8) ww:=
 ⟨h.1.trans hw.wrH,λq=>by unfold CZ at q;simp at q,λ_=>⟨v6,hr,hc.wrh hw.wrH⟩⟩
end
theorem ET.row8 {R g:Nat} {w w':aV} {t:TypeId} {bs:List Int} (h:ET R w w') (hr:Er w g t bs) (hg:g≠R):Er w' g t bs:=by
 unfold Er;rw[h.block g hr.lt hg];exact hr
theorem At.wrh9 {w W w':aV} {a:Option Addr} {T:List Int} (h:At aZ w a T) (hb:Below w.heap.size w W) (hw:ET (w.heap.size+1) W w'):At aZ w' a T:=by
 rcases h with h|⟨b,off,rfl,hl,hc⟩
 ·exact .inl h
 ·refine .inr ⟨b,off,rfl,AH hb.size hw.size,λi hi=>?_⟩;rw[Af (a:=⟨b,off+i,aS⟩) (w:=W) (hw.block b (AG hb.size) AJ),hb.cell (p:=⟨b,off+i,aS⟩) hl];exact hc i hi
theorem Qf (aD aU aT:Option Addr) (nD cD nU cU nT cT:Nat) (D U:List Int) (k:Int) (T:List Int) (w:aV) (hD:D.length=nD) (hU:U.length=nU) (hT:T.length=nT*2) (mD:nD<=1048576) (mU:nU<=1048576) (mT:nT<=1048576)
  (haD:At aZ w aD D) (haU:At aZ w aU U) (haT:At aZ w aT T) (hk0:-9223372036854775808<=k) (hk1:k<9223372036854775808) :
  Calls tP 23 #[af #[aM aD nD cD,aM aU nU cU,aO aZ k,aM aT nT cT]] w (Zd w D U k T nT):=by
 have HE0:AO (Uu w #[aM aD nD cD,aM aU nU cU,aO aZ k,aM aT nT cT] ((w.alloc (aa #[aM aD nD cD,aM aU nU cU,aO aZ k,aM aT nT cT] 26)).alloc (aa Tryz.zeroCells61 61))):=by
  refine⟨(Cf.alloc Ch _).alloc AL _,?_,?_⟩
  ·rw[BD _ _ w.heap.size AL];exact AS w _
  ·have:=AS (w.alloc (aa #[aM aD nD cD,aM aU nU cU,aO aZ k,aM aT nT cT] 26)) (aa Tryz.zeroCells61 61)
   rwa [show(w.alloc (aa #[aM aD nD cD,aM aU nU cU,aO aZ k,aM aT nT cT] 26)).heap.size=w.heap.size+1 by simp] at this
 have HAD:=CY <| haD
 have HAU:=CY <| haU
 have HAT:=CY <| haT
 have HNT:AO (T.length=nT*2/\nT<=1048576):=⟨hT,mT⟩
 have HLN:AO (D.length=nD/\U.length=nU):=⟨hD,hU⟩
 clear haD haU haT hT hD hU;go_enter func23,ntmps23;go_wp2_with fail;generalize ((w.alloc (aa #[aM aD nD cD,aM aU nU cU,aO aZ k,aM aT nT cT] 26)).alloc (aa Tryz.zeroCells61 61))=w0 at *;refine(Kx aD nD cD D _ HLN.o.1 mD (HAD.o.below HE0.o.below)).mono ?_;rintro e w1 ⟨db,rfl,dl,dby,dset,b1⟩;have HE1:=CY <| HE0.o.call b1
 clear b1 HE0;go_wp2_with (first
  |(refine Im rfl (ah 4) (ah 12) rfl db rfl rfl dl rfl ?_)
  |fail)
 intro w2 hr2 hb2;have HE2:=CY <| HE1.o.call hb2
 have HRD2:=CY <| hr2
 have hGd:=HE1.o.lt2;have c1:w2.cell? ⟨w.heap.size,1,aS⟩=aR (aM aU nU cU):=by rw[AA HE2.o.box 1];rfl
 clear hr2 hb2 HE1;generalize w1.heap.size=Gd at *;go_wp2_with fail;refine(Kx aU nU cU U _ HLN.o.2 mU (HAU.o.below HE2.o.below)).mono ?_;rintro e w3 ⟨ub,rfl,ul,uby,uset,b3⟩;have HE3:=CY <| HE2.o.call b3
 have HRD3:=CY <| HRD2.o.low b3 HRD2.o.lt
 clear b3 HE2 HRD2 c1;go_wp2_with (first
  |(refine Im rfl (ah 6) (ah 18) rfl ub rfl rfl ul rfl ?_)
  |fail)
 intro W hr4 hb4;have HEV:=CY <| HE3.o.call hb4
 have HRD:=CY <| HRD3.o.low hb4 HRD3.o.lt
 have HRU:=CY <| hr4
 have hGu:=HE3.o.lt2;have c0:W.cell? ⟨w.heap.size,0,aS⟩=aR (aM aD nD cD):=by rw[AA HEV.o.box 0];rfl
 have c1:W.cell? ⟨w.heap.size,1,aS⟩=aR (aM aU nU cU):=by rw[AA HEV.o.box 1];rfl
 have c2:W.cell? ⟨w.heap.size,2,aS⟩=aR (aO aZ k):=by rw[AA HEV.o.box 2];rfl
 have c3:W.cell? ⟨w.heap.size,3,aS⟩=aR (aM aT nT cT):=by rw[AA HEV.o.box 3];rfl
 clear hr4 hb4 HE3 HRD3;generalize w3.heap.size=Gu at *;have HLD:AO (db.length=32/\ub.length=32):=⟨dl,ul⟩
 have HDS:=CY <| dset
 have HUS:=CY <| uset
 have HGD:AO (Gd≠w.heap.size+1):=by show _≠_;omega
 have HGU:AO (Gu≠w.heap.size+1):=by show _≠_;omega
 have HSZd:AO ((tP.info? 59).map (·.size)=aR ((db.map (Value.int aP)).toArray).size):=by show _=_;rw[Tryz.sizeSS];simp[dl]
 have HSZu:AO ((tP.info? 59).map (·.size)=aR ((ub.map (Value.int aP)).toArray).size):=by show _=_;rw[Tryz.sizeSS];simp[ul]
 clear dl ul dset uset dby uby;cases hsD:IG D with
 |false=>
  have HPD:AO (¬ DO D):=λh=>by rw[GL h] at hsD;cases hsD
  have HRS:=CY <| HEV.o.res
  have HFB:AO (Ep D U k T nT=false):=EW (λh=>HPD.o h.1)
  go_upto_region 4 with fail
  go_wp2_with (first
   |(refine ED (ah 6) rfl (by simp[Region.wanted,yielded]) ?_)
   |(refine AE 61 (ah 2) (ah 32) (w.heap.size+1) Tryz.zeroCells61 61 HRS.o Tryz.sizeBook rfl ER ?_)
   |fail)
  refine AU (v:=.tuple #[af Tryz.zeroCells61,ae false]) (EX rfl _ _ (w.heap.size+1) _ _ rfl rfl (AB HRS.o) Tryz.sizeBook) rfl ?_;exact⟨Tryz.zeroCells61,by rw[HFB.o],FA,ER,HEV.o.below.trans ((Wr.setRow _ _ _).below AJ),λh=>by rw[HFB.o] at h;cases h⟩
 |true=>
 cases hsU:IG U with
 |false=>
  have HPU:AO (¬ DO U):=λh=>by rw[GL h] at hsU;cases hsU
  have HRS:=CY <| HEV.o.res
  have HFB:AO (Ep D U k T nT=false):=EW (λh=>HPU.o h.2.2.1)
  go_upto_region 4 with fail
  go_wp2_with (first
   |(refine ED (ah 6) rfl (by simp[Region.wanted,yielded]) ?_)
   |(refine AE 61 (ah 2) (ah 32) (w.heap.size+1) Tryz.zeroCells61 61 HRS.o Tryz.sizeBook rfl ER ?_)
   |fail)
  refine AU (v:=.tuple #[af Tryz.zeroCells61,ae false]) (EX rfl _ _ (w.heap.size+1) _ _ rfl rfl (AB HRS.o) Tryz.sizeBook) rfl ?_;exact⟨Tryz.zeroCells61,by rw[HFB.o],FA,ER,HEV.o.below.trans ((Wr.setRow _ _ _).below AJ),λh=>by rw[HFB.o] at h;cases h⟩
 |true=>
 have HPD:=CY <| (Ib D).1 hsD
 have HPU:=CY <| (Ib U).1 hsU
 by_cases h16:nD<=16
 ·have h16':(nD:Int)<=16:=AJ
  by_cases hk:k<0
  ·have HK9:=CY <| hk
   have hkb:=Aj hk;clear hk hk0 hk1 c1 c3;have HRS:AO (W.heap[w.heap.size+1]?=aR (aa Tryz.zeroCells61 61 (0,0))):=HEV.o.res;have HFB:AO (Ep D U k T nT=false):=EW (λh=>AH h.2.2.2.1 HK9.o)
   go_upto_region 6 with fail
   go_wp2_with (first
    |(refine ED (ah 6) rfl (by simp[Region.wanted,yielded]) ?_)
    |(refine AE 61 (ah 2) (ah 55) (w.heap.size+1) Tryz.zeroCells61 61 HRS.o Tryz.sizeBook rfl ER ?_)
    |fail)
   refine AU (v:=.tuple #[af Tryz.zeroCells61,ae false]) (EX rfl _ _ (w.heap.size+1) _ _ rfl rfl (AB HRS.o) Tryz.sizeBook) rfl ?_;exact⟨Tryz.zeroCells61,by rw[HFB.o],FA,ER,HEV.o.below.trans ((Wr.setRow _ _ _).below AJ),λh=>by rw[HFB.o] at h;cases h⟩
  ·by_cases hka:k=(nU:Int)-nT
   ·have HKA:AO (k+nT=U.length):=by show _=_;rw[HLN.o.2];omega
    have hka':(k == (nU:Int)-nT)=true:=by simpa using hka
    have HK9:AO (0<=k):=by show _<=_;omega
    have HKE:=CY <| hka
    have hkb:=Ac hk;clear hka hk hk0 hk1;have HCT:=Mg aT nT cT U T ub W HNT.o.1 HNT.o.2 (HAT.o.below HEV.o.below) HPU.o (HUS.o HPU.o);go_wp2_with (first
     |(refine Ly (ah 6) rfl (by first|(simp[Region.wanted,yielded];done)|(simp[Region.wanted,yielded];exact HKE.o)) Gu ub rfl HRU.o HLD.o.2 ?_)
     |fail)
    refine HCT.mono ?_;rintro e W2 ⟨rfl,hb7⟩;cases htb:Me U T nT with
    |false=>
     have HPT:AO (¬ Md U T nT):=λh=>by rw[Mf h] at htb;cases htb
     have HEV2:=CY <| HEV.o.call hb7
     clear HEV hb7 HCT;have HRS:=CY <| HEV2.o.res
     have HFB:AO (Ep D U k T nT=false):=EW (λh=>HPT.o h.2.2.2.2.2)
     go_upto_region 6 with fail
     go_wp2_with (first
      |(refine ED (ah 6) rfl (by simp[Region.wanted,yielded]) ?_)
      |(refine AE 61 (ah 2) (ah 55) (w.heap.size+1) Tryz.zeroCells61 61 HRS.o Tryz.sizeBook rfl ER ?_)
      |fail)
     refine AU (v:=.tuple #[af Tryz.zeroCells61,ae false]) (EX rfl _ _ (w.heap.size+1) _ _ rfl rfl (AB HRS.o) Tryz.sizeBook) rfl ?_;exact⟨Tryz.zeroCells61,by rw[HFB.o],FA,ER,HEV2.o.below.trans ((Wr.setRow _ _ _).below AJ),λh=>by rw[HFB.o] at h;cases h⟩
    |true=>
     have HPT:AO (Md U T nT):=by
      show Md U T nT
      by_cases h:Md U T nT
      {exact h};{rw[Li h] at htb;cases htb}
     have HYE:=CY <| Lx ⟨HPD.o,by rw[HLN.o.1];exact h16,HPU.o,HK9.o,HKA.o,HPT.o⟩
     have HSD:=CY <| HDS.o HPD.o
     have HSU:=CY <| HUS.o HPU.o
     have HEV2:=CY <| HEV.o.call hb7
     have HRD2:=CY <| HRD.o.low hb7 HRD.o.lt
     have HRU2:=CY <| HRU.o.low hb7 HRU.o.lt
     clear HEV hb7 HCT HRD HRU c0 c1 c2 c3 hka' hkb;go_wp2_with fail;refine Ag AM ?_;refine DH (λ_ a b=>ET (w.heap.size+1) a b) (frame:=(λ(a b c d e f g h i j k l m n o p q r s u v w x y z A B C D E F G H I J K L M N O P Q R S T U V W X Y Z a0 a1 a2 a3:aX)=>λ(t:Nat->aX)=>({ tmps:=List.toArray [a,b,c,t 9,d,e,f,g,h,i,j,k,l,m,n,o,p,q,r,s,u,v,w,x,y,z,A,B,C,D,E,F,G,H,I,J,K,L,M,N,O,P,Q,R,S,T,U,V,W,X,Y,Z,a0,a1,a2,a3,t 0,t 1,t 2,t 3,t 4,t 5,t 6,t 7],defers:=[] }:Act)) _ _ _ _ _ _ _ _ _ _ _ _ _ _ _ _ _ _ _ _ _ _ _ _ _ _ _ _ _ _ _ _ _ _ _ _ _ _ _ _ _ _ _ _ _ _ _ _ _ _ _ _ _ _ _)
      (Ext:=Tu w W2 db ub k T nT) (Good:=λi L w' v=>if i=0 then v=af (db.map (Value.int aP)).toArray else if i=1 then v=af (ub.map (Value.int aP)).toArray else if i=2 then v=aY (aR ⟨w.heap.size,2,aS⟩) else if i=3 then v=aO aZ k else if i=4 then v=aY (aR ⟨w.heap.size,3,aS⟩) else if i=5 then v=aM aT nT cT else if i=6 then Uv w.heap.size w' v T nT else if i=7 then YU w.heap.size w' v db ub k T nT else if i=8 then L 8=true else if i=9 then v=ae true else True) ?hstab AM ?hop ?hdone _ _ ((λ(x0 x1 x2 x3 x4 x5 x6 x7 x9:aX)=>λ(i:Nat)=>if i=0 then x0 else if i=1 then x1 else if i=2 then x2 else if i=3 then x3 else if i=4 then x4 else if i=5 then x5 else if i=6 then x6 else if i=7 then x7 else if i=9 then x9 else undef) _ _ _ _ _ _ _ _ _) _ AL ?ext ?start AL
     case start=>intro i hi h;exact absurd h Ef
     case ext=>exact⟨⟨rfl,rfl,rfl,Aa _,λ_ _ _=>rfl⟩,λ_=>HEV2.o.res,λh=>by simp at h⟩
     case hstab=>
      intro j L w9 w' i v hM _ _ h;by_cases h6:j=6
      ·subst h6;simp at h |-;exact h.wrh hM
      by_cases h7:j=7
      ·subst h7;simp at h |-;exact h.wrh hM
      by_cases h8:j=8
      ·subst h8;simp at h |-;unfold CZ;simp[h]
      simp only[if_neg h6,if_neg h7,if_neg h8] at h |-;exact h
     case hop=>
      intro i o L t w' ho hLi hx hdep K hK;have hi:i<10:=(AR.1 ho).1;obtain rfl|rfl|rfl|rfl|rfl|rfl|rfl|rfl|rfl|rfl:i=0\/i=1\/i=2\/i=3\/i=4\/i=5\/i=6\/i=7\/i=8\/i=9:=AJ
      all_goals(simp at ho;subst ho)
      {clear hdep;have hK':=hK w' (af (db.map (Value.int aP)).toArray) AL (hx.ref 0 AK) (ET.refl _ _);have hr:=hx.1.row8 HRD2.o HGD.o;clear hK;rw[AP AN];refine Bp 59 (ah 4) rfl Gd rfl 59 _ (0,0) _ hr underlying59 rfl HSZd.o ?_;go_simp;simpa[Ca] using hK'};{clear hdep;have hK':=hK w' (af (ub.map (Value.int aP)).toArray) AL (hx.ref 1 AK) (ET.refl _ _);have hr:=hx.1.row8 HRU2.o HGU.o;clear hK;rw[AP AN];refine Bp 59 (ah 6) rfl Gu rfl 59 _ (0,0) _ hr underlying59 rfl HSZu.o ?_;go_simp;simpa[Ca] using hK'};{clear hdep;have hK':=hK w' (aY (aR ⟨w.heap.size,2,aS⟩)) AL (hx.ref 2 AK) (ET.refl _ _);clear hK;rw[AP AN];go_simp;simpa[Ca] using hK'}
      ·have d2:t 2=aY (aR ⟨w.heap.size,2,aS⟩):=by simpa using hdep ⟨2,.data⟩ AL rfl
       clear hdep;have cc:w'.cell? ⟨w.heap.size,2,aS⟩=aR (aO aZ k):=by rw[Af (a:=⟨w.heap.size,2,aS⟩) (w:=W2) (hx.1.block _ HEV2.o.lt (by show w.heap.size≠w.heap.size+1;omega)),AA HEV2.o.box 2];rfl
       have hK':=hK w' (aO aZ k) AL (hx.ref 3 AK) (ET.refl _ _);clear hK;rw[AP AN];go_simp;rw[HKE.o] at hK';simpa[Ca,d2] using hK'
      ·clear hdep;have hK':=hK w' (aY (aR ⟨w.heap.size,3,aS⟩)) AL (hx.ref 4 AK) (ET.refl _ _);clear hK;rw[AP AN];go_simp;simpa[Ca] using hK'
      ·have d4:t 4=aY (aR ⟨w.heap.size,3,aS⟩):=by simpa using hdep ⟨4,.data⟩ AL rfl
       clear hdep;have cc:w'.cell? ⟨w.heap.size,3,aS⟩=aR (aM aT nT cT):=by rw[Af (a:=⟨w.heap.size,3,aS⟩) (w:=W2) (hx.1.block _ HEV2.o.lt (by show w.heap.size≠w.heap.size+1;omega)),AA HEV2.o.box 3];rfl
       have hK':=hK w' (aM aT nT cT) AL (hx.ref 5 AK) (ET.refl _ _);clear hK;rw[AP AN];go_simp;simpa[Ca,d4] using hK'
      ·have d5:t 5=aM aT nT cT:=by simpa using hdep ⟨5,.data⟩ AL rfl
       clear hdep;have A:=K5 aT nT cT T w' HNT.o.1 HNT.o.2 (HAT.o.wrh9 (HEV2.o.below) hx.1);have hK':∀ ww v,Uv w.heap.size ww v T nT->Below w'.heap.size w' ww->K _ ww:=λww v hv hb=>hK ww v (by simpa using hv) (hx.low 6 AK HEV2.o hb) (ET.of_below hb)
       clear hK;rw[AP AN];go_simp;try simp only[d5]
       refine A.mono ?_;rintro e w9 ⟨v9,rfl,hv9,hb9⟩;have ho9:v9.oneCell'=true:=by rcases hv9.2 with⟨h,_⟩|⟨g,c,cur,h,_⟩<;>rw[h]<;>rfl
       have hK2:=hK' w9 v9 ⟨w'.heap.size,AH hx.1.size HEV2.o.lt2,hv9,ho9⟩ hb9;clear hK' A hv9 ho9 hb9;go_simp;simpa[Ca,d5] using hK2
      ·have d0:t 0=af (db.map (Value.int aP)).toArray:=by simpa using hdep ⟨0,.data⟩ AL rfl
       have d1:t 1=af (ub.map (Value.int aP)).toArray:=by simpa using hdep ⟨1,.data⟩ AL rfl
       have d3:t 3=aO aZ k:=by simpa using hdep ⟨3,.data⟩ AL rfl
       have f6:Uv w.heap.size w' (t 6) T nT:=by simpa using hdep ⟨6,.data⟩ AL rfl
       clear hdep;obtain⟨B9,hB9,hv9,ho9⟩:=f6;have hK':=hK w' (af (F9 db ub k (t 6))) (by simpa using⟨t 6,rfl,B9,hB9,hv9,ho9⟩) (hx.ref 7 AK) (ET.refl _ _);clear hK;rw[AP AN];refine Si rfl d0 d1 d3 (show _=t 6 from rfl) HLD.o.1 HLD.o.2 (Qe hv9) ?_;simpa[Ca,Act.put] using hK'
      ·have f7:YU w.heap.size w' (t 7) db ub k T nT:=by simpa using hdep ⟨7,.data⟩ AL rfl
       clear hdep;obtain⟨v9,e9,B9,hB9,hv9,ho9⟩:=f7;have hrs:=hx.2.1 hLi;have hK':∀ ww,ww.heap[w.heap.size+1]?=aR (aa (F9 db ub k v9) 61 (0,0))->Wr (w.heap.size+1) w' ww->K _ ww:=λww hr hw=>hK ww undef (by simp[CZ]) (hx.put hr hw ⟨B9,hB9,hv9,ho9⟩) hw.wrH
       clear hK;rw[AP AN];refine Be 61 (ah 2) (ah 63) rfl (w.heap.size+1) (F9 db ub k v9) rfl e9 61 _ hrs (by rw[Ik HLD.o.1 HLD.o.2];exact Tryz.sizeBook) (by rw[Ik HLD.o.1 HLD.o.2];exact FA) (PN _ _ _ ho9) ?_;have hK2:=hK' _ (AB hrs) (Wr.setRow _ _ _);clear hK';simpa[Ca,Act.put] using hK2
      ·clear hdep;have hK':=hK w' (ae true) AL (hx.ref 9 AK) (ET.refl _ _);clear hK;rw[AP AN];go_simp;simpa[Ca] using hK'
     case hdone=>
      intro L t w9 hx hg;have l8:L 8=true:=by simpa using hg 8 AK
      have d9:t 9=ae true:=by simpa using hg 9 AK
      clear hg;obtain⟨v9,hr9,B9,hB9,hv9,ho9⟩:=hx.2.2 l8;have HF:AO (Zd w D U k T nT (aQ (.tuple #[af (F9 db ub k v9),ae true])) w9):=
       ⟨F9 db ub k v9,by rw[HYE.o],Ik HLD.o.1 HLD.o.2 _ _,PN _ _ _ ho9,(HEV2.o.below).trans (hx.1.below w.heap.size AJ HEV2.o.below.size),λ_=>⟨db,ub,v9,rfl,HSD.o,HSU.o,hv9.mono AJ⟩⟩
      have HR9:=CY <| hr9
      have HZ9:AO ((tP.info? 61).map (·.size)=aR (F9 db ub k v9).size):=by show _=_;rw[Ik HLD.o.1 HLD.o.2];exact Tryz.sizeBook
      simp only[d9];clear hx hr9 hv9 ho9 d9;go_wp2_with fail;exact AU (v:=.tuple #[af (F9 db ub k v9),ae true]) (EX rfl _ _ (w.heap.size+1) _ _ rfl rfl HR9.o HZ9.o) rfl HF.o
   ·have hka':(k == (nU:Int)-nT)=false:=by simpa using hka
    have HKN:=CY <| hka
    have hkb:=Ac hk;clear hka hk hk0 hk1;have HRS:=CY <| HEV.o.res
    have HFB:AO (Ep D U k T nT=false):=EW (λh=>by have:=h.2.2.2.2.1;rw[HLN.o.2] at this;exact HKN.o AJ)
    go_upto_region 6 with fail
    go_wp2_with (first
     |(refine ED (ah 6) rfl (by simp[Region.wanted,yielded]) ?_)
     |(refine AE 61 (ah 2) (ah 55) (w.heap.size+1) Tryz.zeroCells61 61 HRS.o Tryz.sizeBook rfl ER ?_)
     |fail)
    refine AU (v:=.tuple #[af Tryz.zeroCells61,ae false]) (EX rfl _ _ (w.heap.size+1) _ _ rfl rfl (AB HRS.o) Tryz.sizeBook) rfl ?_;exact⟨Tryz.zeroCells61,by rw[HFB.o],FA,ER,HEV.o.below.trans ((Wr.setRow _ _ _).below AJ),λh=>by rw[HFB.o] at h;cases h⟩
 ·have h16':16<(nD:Int):=AJ
  have HRS:=CY <| HEV.o.res
  have HFB:AO (Ep D U k T nT=false):=EW (λh=>by have:=h.2.1;rw[HLN.o.1] at this;omega)
  go_upto_region 4 with fail
  go_wp2_with (first
   |(refine ED (ah 6) rfl (by simp[Region.wanted,yielded]) ?_)
   |(refine AE 61 (ah 2) (ah 32) (w.heap.size+1) Tryz.zeroCells61 61 HRS.o Tryz.sizeBook rfl ER ?_)
   |fail)
  refine AU (v:=.tuple #[af Tryz.zeroCells61,ae false]) (EX rfl _ _ (w.heap.size+1) _ _ rfl rfl (AB HRS.o) Tryz.sizeBook) rfl ?_;exact⟨Tryz.zeroCells61,by rw[HFB.o],FA,ER,HEV.o.below.trans ((Wr.setRow _ _ _).below AJ),λh=>by rw[HFB.o] at h;cases h⟩
theorem Gg (aD aU aT:Option Addr) (nD cD nU cU nT cT:Nat) (D U:List Int) (k:Int) (T:List Int) (w:aV) (hD:D.length=nD) (hU:U.length=nU) (hT:T.length=nT*2) (mD:nD<=1048576) (mU:nU<=1048576) (mT:nT<=1048576)
  (haD:At aZ w aD D) (haU:At aZ w aU U) (haT:At aZ w aT T) (hnil:aT=aS->nT=0/\cT=0) (hk0:-9223372036854775808<=k) (hk1:k<9223372036854775808) :
  Calls tP 23 #[af #[aM aD nD cD,aM aU nU cU,aO aZ k,aM aT nT cT]] w (Zd w D U k T nT):=Qf aD aU aT nD cD nU cU nT cT D U k T w hD hU hT mD mU mT haD haU haT hk0 hk1
open Classical in
noncomputable def Df (v:Int) (xs:List Int):Bool:=decide (v∈xs)
theorem Fc {v:Int} {xs:List Int} (h:¬ v∈xs):Df v xs=false:=by unfold Df;simp[h]
theorem EO {v:Int} {xs:List Int} (h:v∈xs):Df v xs=true:=by unfold Df;simp[h]
theorem Sj {xs:List Int} {k:Nat} (h:k<xs.length):xs.getD k 0∈xs:=by
 rw[AX,As h];exact BL h
theorem C3 (a:Option Addr) (n cap:Nat) (xs:List Int) (v:Int) (w:aV) (hn:xs.length=n) (hm:n<=1048576) (ha:At aZ w a xs) :
  Calls tP 30 #[aM a n cap,aO aZ v] w λe w'=>e=aQ (ae (Df v xs))/\w'=w:=by
 have HNX:=CY <| hn
 have HA:AO (At aZ w a xs):=ha;clear hn ha;go_enter func30,ntmps30;go_wp2
 go_loop [5] (λi=>∃ k:Nat,k<=n/\i=aO aZ k/\AO (∀ j,j<k->xs.getD j 0≠v)) (λi=>n-(intOf i).toNat)
 case atStart=>exact⟨0,Aw _,rfl,λj hj=>AJ⟩
 case round=>
  obtain⟨k,hk,rfl,hno⟩:=hrel;by_cases hlt:k<n
  ·have hlt':(k:Int)<n:=AJ
   obtain⟨b,off,ea,hb,hc⟩:=HA.o.get (AG HNX.o);subst ea;have hck:=hc k (AG HNX.o);by_cases he:xs.getD k 0=v
   ·have HM:AO (Df v xs=true):=EO (by rw[<-he];exact Sj (AG HNX.o));rw[he] at hck;clear hc he hb;go_wp2
    go_ret
    exact⟨by rw[HM.o];rfl,rfl⟩
   ·have HN:AO (∀ j,j<k+1->xs.getD j 0≠v):=λj hj=>by
     by_cases hjk:j<k
     ·exact hno.o j hjk
     ·have:j=k:=AJ
      rw[this];exact he
    have he':(xs.getD k 0 == v)=false:=by simpa using he
    clear hc hb hno he;generalize xs.getD k 0=x at *;go_wp2
    go_round
    case rel=>exact⟨k+1,AJ,by go_num,HN⟩
    case measure=>simp[intOf];omega
  ·have hlt':¬ ((k:Int)<n):=AJ
   have HM:AO (Df v xs=false):=Fc (λh=>by
    obtain⟨i,hi,rfl⟩:=Bn h;have:=hno.o i (AG HNX.o);rw[AX,As hi] at this;exact this rfl)
   go_wp2
   go_ret
   exact⟨by rw[HM.o];rfl,rfl⟩
theorem JP (a:Option Addr) (n cap:Nat) (xs:List Int) (w:aV) (hn:xs.length=n) (hm:n<=1048576) (ha:At aZ w a xs) :
  Calls tP 29 #[aM a n cap] w λe w'=>e=aQ (ae (IG xs))/\∃ q,w'=w.drewN q:=by
 have HNX:=CY <| hn
 have HA:AO (At aZ w a xs):=ha;clear hn ha;go_enter func29,ntmps29;go_wp2
 go_loopw [3] (λi wr=>∃ k:Nat,k<=n/\i=aO aZ k/\AO (∀ j,j<k->Xg xs j)/\AO (∃ q,wr=w.drewN q)) (λi _=>n-(intOf i).toNat)
 case atStart=>exact⟨0,Aw _,rfl,λj hj=>AJ,⟨0,rfl⟩⟩
 case round=>
  obtain⟨k,hk,rfl,hno,hwq⟩:=hrel;obtain⟨q,rfl⟩:=hwq.o;clear hwq;by_cases hlt:k<n
  ·have hlt':(k:Int)<n:=AJ
   obtain⟨b,off,ea,hb,hc⟩:=HA.o.get (AG HNX.o);subst ea;have hck:=hc k (AG HNX.o);by_cases h0:xs.getD k 0<0
   ·have HS:AO (IG xs=false):=Ic (λh=>by have:=(h k (by have:=HNX.o;omega)).1;omega);clear hc hb hno;generalize xs.getD k 0=x at *;go_wp2_with fail
    go_quiet (fail)
    go_wp2
    go_ret
    exact⟨by rw[HS.o];rfl,q+nq,dN _ _ _⟩
   ·have h0':decide (xs.getD k 0<0)=false:=Ac h0;by_cases h1:256<=xs.getD k 0
    ·have HS:AO (IG xs=false):=Ic (λh=>by have:=(h k (by have:=HNX.o;omega)).2.1;omega);clear hc hb hno h0;generalize xs.getD k 0=x at *;go_wp2_with fail
     go_quiet (fail)
     go_wp2
     go_ret
     exact⟨by rw[HS.o];rfl,q+nq,dN _ _ _⟩
    ·have h1':decide (256<=xs.getD k 0)=false:=Ac h1;by_cases hk0:0<k
     ·obtain⟨m,rfl⟩:∃ m,k=m+1:=⟨k-1,AJ⟩
      have hck1:=hc m (AG HNX.o);have hk0':(0:Int)<((m+1:Nat):Int):=AJ
      by_cases h2:xs.getD (m+1) 0<=xs.getD m 0
      ·have HS:AO (IG xs=false):=Ic (λh=>by have:=(h (m+1) (by have:=HNX.o;omega)).2.2 AJ;rw[Bz] at this;omega);clear hc hb hno h0 h1 hk0;generalize xs.getD (m+1) 0=x at *;generalize xs.getD m 0=y at *;go_wp2_with fail
       go_quiet (fail)
       go_wp2
       go_ret
       exact⟨by rw[HS.o];rfl,q+nq,dN _ _ _⟩
      ·have h2':=Ac h2;have HN:AO (∀ j,j<m+1+1->Xg xs j):=λj hj=>by
        by_cases hjk:j<m+1
        ·exact hno.o j hjk
        ·have:j=m+1:=AJ
         rw[this];exact⟨AJ,AJ,λ_=>by rw[Bz];omega⟩
       clear hc hb hno h0 h1 hk0 h2;generalize xs.getD (m+1) 0=x at *;generalize xs.getD m 0=y at *;go_wp2_with fail
       go_quiet (fail)
       go_wp2;go_roundw
       case rel=>exact⟨m+1+1,AJ,by go_num,HN,⟨q+nq,rfl⟩⟩
       case measure=>simp[intOf];omega
     ·have hkd:=Ac AJ;have HN:AO (∀ j,j<k+1->Xg xs j):=λj hj=>by
       have:j=k:=AJ
       rw[this];exact⟨AJ,AJ,λh=>AJ⟩
      clear hc hb hno h0 h1 hk0;generalize xs.getD k 0=x at *;go_wp2_with fail
      go_quiet (fail)
      go_wp2;go_roundw
      case rel=>exact⟨k+1,AJ,by go_num,HN,⟨q+nq,rfl⟩⟩
      case measure=>simp[intOf];omega
  ·have hlt':¬ ((k:Int)<n):=AJ
   have HS:=CY <| GL (λi hi=>hno.o i (AG HNX.o))
   go_wp2
   go_ret
   exact⟨by rw[HS.o];rfl,q,rfl⟩
structure Sk (w:aV) (sc:Array aX) (wr:aV):Prop where
 below:Below w.heap.size w wr
 box:wr.heap[w.heap.size]?=aR (aa sc 26 (0,0))
theorem Sk.lt {w wr:aV} {sc:Array aX} (h:Sk w sc wr):w.heap.size<wr.heap.size:=(AR.1 h.box).1
theorem Sk.call {w wr w':aV} {sc:Array aX} (h:Sk w sc wr) (b:Below wr.heap.size wr w'):Sk w sc w':=⟨h.below.trans (b.mono h.below.size),by rw[b.block _ h.lt];exact h.box⟩
theorem Sk.drew {w wr:aV} {sc:Array aX} (h:Sk w sc wr) (q:Nat):Sk w sc (wr.drewN q):=⟨Fu h.below q,h.box⟩
theorem Hs (aD aU aT:Option Addr) (nD cD nU cU nT cT:Nat) (D U:List Int) (k:Int) (T:List Int) (w:aV) (hD:D.length=nD) (hU:U.length=nU) (hT:T.length=nT*2) (mD:nD<=1048576) (mU:nU<=1048576) (mT:nT<=1048576)
  (haD:At aZ w aD D) (haU:At aZ w aU U) (haT:At aZ w aT T) (hk0:-9223372036854775808<=k) (hk1:k<9223372036854775808) :
  Calls tP 8 #[af #[aM aD nD cD,aM aU nU cU,aO aZ k,aM aT nT cT]] w λe w'=>e=aQ (ae (Ep D U k T nT))/\Below w.heap.size w w':=by
 have HE0:AO (Sk w #[aM aD nD cD,aM aU nU cU,aO aZ k,aM aT nT cT] (w.alloc (aa #[aM aD nD cD,aM aU nU cU,aO aZ k,aM aT nT cT] 26))):=⟨Cf.alloc Ch _,AS w _⟩
 have HAD:=CY <| haD
 have HAU:=CY <| haU
 have HAT:=CY <| haT
 have HLT:=CY <| hT
 have HLN:AO (D.length=nD/\U.length=nU):=⟨hD,hU⟩
 have HKB:AO (-9223372036854775808<=k/\k<9223372036854775808):=⟨hk0,hk1⟩
 go_enter func8,ntmps8;go_wp2_with fail;generalize (w.alloc (aa #[aM aD nD cD,aM aU nU cU,aO aZ k,aM aT nT cT] 26))=w0 at *;refine(JP aD nD cD D _ HLN.o.1 mD (HAD.o.below HE0.o.below)).mono ?_;rintro e w1' ⟨rfl,q1,rfl⟩;have HE1:=CY <| HE0.o.drew q1
 generalize w0.drewN q1=w1 at *;have HB:=CY <| HE1.o.below
 have c0:w1.cell? ⟨w.heap.size,0,aS⟩=aR (aM aD nD cD):=by rw[AA HE1.o.box 0];rfl
 have c1:w1.cell? ⟨w.heap.size,1,aS⟩=aR (aM aU nU cU):=by rw[AA HE1.o.box 1];rfl
 cases hsD:IG D with
 |false=>
  have HPD:AO (¬ DO D):=λh=>by rw[GL h] at hsD;cases hsD
  have HFB:AO (Ep D U k T nT=false):=EW (λh=>HPD.o h.1);go_wp2
  go_ret
  exact⟨by rw[HFB.o];rfl,HB.o⟩
 |true=>
 have HPD:=CY <| (Ib D).1 hsD
 by_cases h16:nD<=16
 ·have h16':decide ((16:Int)<(nD:Int))=false:=Ac AJ;go_wp2_with fail;refine(JP aU nU cU U _ HLN.o.2 mU (HAU.o.below HE1.o.below)).mono ?_;rintro e w2' ⟨rfl,q2,rfl⟩;have HE2:AO (Sk w #[aM aD nD cD,aM aU nU cU,aO aZ k,aM aT nT cT] (w1.drewN q2)):=HE1.o.drew q2;generalize w1.drewN q2=w2 at *;have HB:=CY <| HE2.o.below
  have c1:w2.cell? ⟨w.heap.size,1,aS⟩=aR (aM aU nU cU):=by rw[AA HE2.o.box 1];rfl
  have c2:w2.cell? ⟨w.heap.size,2,aS⟩=aR (aO aZ k):=by rw[AA HE2.o.box 2];rfl
  have c3:w2.cell? ⟨w.heap.size,3,aS⟩=aR (aM aT nT cT):=by rw[AA HE2.o.box 3];rfl
  cases hsU:IG U with
  |false=>
   have HPU:AO (¬ DO U):=λh=>by rw[GL h] at hsU;cases hsU
   have HFB:AO (Ep D U k T nT=false):=EW (λh=>HPU.o h.2.2.1);go_wp2
   go_ret
   exact⟨by rw[HFB.o];rfl,HB.o⟩
  |true=>
  have HPU:=CY <| (Ib U).1 hsU
  by_cases hk:k<0
  ·have HK9:=CY <| hk
   have hkb:decide (k<0)=true:=Aj hk;have HFB:AO (Ep D U k T nT=false):=EW (λh=>AH h.2.2.2.1 HK9.o);go_wp2
   go_ret
   exact⟨by rw[HFB.o];rfl,HB.o⟩
  ·have HK9:AO (0<=k):=by show _<=_;omega
   have hkb:=Ac hk;by_cases hka:k+(nT:Int)=nU
   ·have HKA:AO (k+nT=U.length):=by show _=_;rw[HLN.o.2];exact hka
    have hwr:IntKind.i64.wrap (k+(nT:Int))=(nU:Int):=by rw[Ak];omega
    have hwr2:wrap64 (k+(nT:Int))=(nU:Int):=by unfold wrap64;omega
    go_wp2_with fail
    go_loopw [3] (λi wr=>∃ m:Nat,m<=nT/\i=aO aZ m/\Sk w #[aM aD nD cD,aM aU nU cU,aO aZ k,aM aT nT cT] wr/\AO (∀ j,j<m->Lh U T j)) (λi _=>nT-(intOf i).toNat)
    case atStart=>exact⟨0,Aw _,rfl,HE2.o,λj hj=>AJ⟩
    case round=>
     clear HE2;obtain⟨m,hm,rfl,hE,hno⟩:=hrel;have c1:wr.cell? ⟨w.heap.size,1,aS⟩=aR (aM aU nU cU):=by rw[AA hE.box 1];rfl
     have c3:wr.cell? ⟨w.heap.size,3,aS⟩=aR (aM aT nT cT):=by rw[AA hE.box 3];rfl
     have HE:=CY <| hE
     clear hE;by_cases hlt:m<nT
     ·have hlt':(m:Int)<nT:=AJ
      obtain⟨b,off,ea,hb,hc⟩:=(HAT.o.below HE.o.below).get (AG HLT.o);have t0:=hc (m*2) (AG HLT.o);have t1:=hc (m*2+1) (AG HLT.o);rw[<-A7] at t1;subst ea;have HCT:AO (∀ j,j<nT->wr.cell? ⟨b,off+j*2,aS⟩=aR (aO aZ (T.getD (j*2) 0))):=λj hj=>hc (j*2) (AG HLT.o)
      have HBL:=CY <| hb
      have HTI:AO (Lh U T m↔(T.getD (m*2) 0∈U/\(0<=T.getD (m*2+1) 0/\T.getD (m*2+1) 0<=4294967295)/\∀ j,j<m->T.getD (j*2) 0≠T.getD (m*2) 0)):=Iff.rfl;generalize T.getD (m*2) 0=s at *;generalize T.getD (m*2+1) 0=nw at *;have b1:Below wr.heap.size wr (wr.alloc (aa #[aO aZ s,aO aZ nw] 70)):=Cf.alloc Ch _;have HEW:=CY <| HE.o.call b1
      have HBW:=CY <| HEW.o.below
      have HRT:AO ((wr.alloc (aa #[aO aZ s,aO aZ nw] 70)).heap[wr.heap.size]?=aR (aa #[aO aZ s,aO aZ nw] 70 (0,0))):=AS wr _;have HCW:AO (∀ j,j<nT->(wr.alloc (aa #[aO aZ s,aO aZ nw] 70)).cell? ⟨b,off+j*2,aS⟩=aR (aO aZ (T.getD (j*2) 0))):=λj hj=>by rw[b1.cell (p:=⟨b,off+j*2,aS⟩) HBL.o];exact HCT.o j hj
      have d1:(wr.alloc (aa #[aO aZ s,aO aZ nw] 70)).cell? ⟨w.heap.size,1,aS⟩=aR (aM aU nU cU):=by rw[AA HEW.o.box 1];rfl
      have d3:(wr.alloc (aa #[aO aZ s,aO aZ nw] 70)).cell? ⟨w.heap.size,3,aS⟩=aR (aM (aR ⟨b,off,aS⟩) nT cT):=by rw[AA HEW.o.box 3];rfl
      clear hc hb b1 HCT;by_cases hn0:nw<0
      ·have hn0':=Aj hn0;have HX:=CY <| hn0
       clear hn0;have HFB:AO (Ep D U k T nT=false):=EW (λh=>AH (HTI.o.1 (h.2.2.2.2.2 m hlt)).2.1.1 HX.o);go_wp2
       go_ret
       exact⟨by rw[HFB.o];rfl,HBW.o⟩
      ·have hn0':=Ac hn0;by_cases hn1:4294967295<nw
       ·have hn1':=Aj hn1;have HX:=CY <| hn1
        clear hn1 hn0;have HFB:AO (Ep D U k T nT=false):=EW (λh=>AH (HTI.o.1 (h.2.2.2.2.2 m hlt)).2.1.2 HX.o);go_wp2
        go_ret
        exact⟨by rw[HFB.o];rfl,HBW.o⟩
       ·have hn1':=Ac hn1;have HNW:AO (0<=nw/\nw<=4294967295):=⟨AJ,AJ⟩
        clear hn0 hn1;go_wp2_with fail;refine(C3 aU nU cU U s _ HLN.o.2 mU (HAU.o.below HBW.o)).mono ?_;rintro e w5 ⟨rfl,rfl⟩;by_cases hin:s∈U
        ·rw[EO hin];have HIN:=CY <| hin
         have d0:(wr.alloc (aa #[aO aZ s,aO aZ nw] 70)).cell? ⟨wr.heap.size,0,aS⟩=aR (aO aZ s):=by rw[AA HRT.o 0];rfl
         have t0':=HCW.o m hlt;go_wp2_with fail;generalize wr.alloc (aa #[aO aZ s,aO aZ nw] 70)=W at *
         go_loopw [5] (λi wq=>∃ j:Nat,j<=m/\i=aO aZ j/\AO (∃ p,wq=W.drewN p)/\AO (∀ l,l<j->T.getD (l*2) 0≠s)) (λi _=>m-(intOf i).toNat)
         case atStart=>exact⟨0,Aw _,rfl,⟨0,rfl⟩,λl hl=>AJ⟩
         case round=>
          obtain⟨j,hj,rfl,hwp,hne⟩:=hrel;obtain⟨p,rfl⟩:=hwp.o;by_cases hjm:j<m
          ·have hjm':(j:Int)<m:=AJ
           have hjn:(j:Int)<nT:=AJ
           have tj:=HCW.o j AJ;by_cases hes:T.getD (j*2) 0=s
           ·have HX:=CY <| hes
            have HBQ:AO (∀ n,Below w.heap.size w ((W.drewN p).drewN n)):=λn=>Fu (Fu HBW.o p) n
            rw[hes] at tj;have HFB:AO (Ep D U k T nT=false):=EW (λh=>(HTI.o.1 (h.2.2.2.2.2 m hlt)).2.2 j hjm HX.o);go_wp2_with fail
            go_quiet (fail)
            go_wp2
            go_ret
            exact⟨by rw[HFB.o];rfl,by first|exact HBQ.o _|exact Fu HBW.o _⟩
           ·have HN:AO (∀ l,l<j+1->T.getD (l*2) 0≠s):=λl hl=>by
             by_cases hlj:l<j
             ·exact hne.o l hlj
             ·have:l=j:=AJ
              rw[this];exact hes
            have hes':(T.getD (j*2) 0 == s)=false:=by simpa using hes
            generalize T.getD (j*2) 0=y at *;go_wp2_with fail
            go_quiet (fail)
            go_wp2;go_roundw
            case rel=>exact⟨j+1,AJ,by go_num,by first|exact⟨_,rfl⟩|exact⟨_,dN _ _ _⟩,HN⟩
            case measure=>simp[intOf];omega
          ·have hjm':¬ ((j:Int)<m):=AJ
           have HN:AO (∀ l,l<m+1->Lh U T l):=λl hl=>by
            by_cases hlm:l<m
            ·exact hno.o l hlm
            ·have e:l=m:=AJ
             subst e;exact HTI.o.2 ⟨HIN.o,HNW.o,λl' hl'=>hne.o l' AJ⟩
           have HEQ:=CY <| HEW.o.drew p
           go_wp2;go_roundw
           case rel=>exact⟨m+1,AJ,by go_num,HEQ.o,HN⟩
           case measure=>simp[intOf];omega
        ·rw[Fc hin];have HIN:=CY <| hin
         have HFB:AO (Ep D U k T nT=false):=EW (λh=>HIN.o (HTI.o.1 (h.2.2.2.2.2 m hlt)).1);go_wp2
         go_ret
         exact⟨by rw[HFB.o];rfl,HBW.o⟩
     ·have hlt':¬ ((m:Int)<nT):=AJ
      have HYE:=CY <| Lx ⟨HPD.o,by rw[HLN.o.1];exact h16,HPU.o,HK9.o,HKA.o,λi hi=>hno.o i AJ⟩
      have HBW:=CY <| HE.o.below
      go_wp2
      go_ret
      exact⟨by rw[HYE.o];rfl,HBW.o⟩
   ·have HKN:=CY <| hka
    have hwr:(IntKind.i64.wrap (k+(nT:Int)) == (nU:Int))=false:=by
     have:=HKB.o;simp only[beq_eq_false_iff_ne,ne_eq];rw[Ak];omega
    have hwr2:(wrap64 (k+(nT:Int)) == (nU:Int))=false:=by
     have:=HKB.o;simp only[beq_eq_false_iff_ne,ne_eq];unfold wrap64;omega
    have HFB:AO (Ep D U k T nT=false):=EW (λh=>by have:=h.2.2.2.2.1;rw[HLN.o.2] at this;exact HKN.o this);go_wp2
    go_ret
    exact⟨by rw[HFB.o];rfl,HB.o⟩
 ·have h16':=Aj AJ;have HFB:AO (Ep D U k T nT=false):=EW (λh=>by have:=h.2.1;rw[HLN.o.1] at this;omega);go_wp2
  go_ret
  exact⟨by rw[HFB.o];rfl,HB.o⟩
def YV (xs:List Int):Prop:=xs.Pairwise (·<·)
theorem Uw:∀(xs ys:List Int),YV xs->YV ys->(∀ z,z∈xs↔z∈ys)->xs=ys:=by
 intro xs
 induction xs with
 |nil=>
  intro ys _ _ h;cases ys with
  |nil=>rfl
  |cons y ys=>exact absurd ((h y).2 AL) AL
 |cons x xs ih=>
  intro ys hx hy h;cases ys with
  |nil=>exact absurd ((h x).1 AL) AL
  |cons y ys=>
   have hx':=List.pairwise_cons.1 hx;have hy':=List.pairwise_cons.1 hy;have e:x=y:=by
    rcases Au.1 ((h x).1 AL) with h1|h1
    ·exact h1
    ·rcases Au.1 ((h y).2 AL) with h2|h2
     {exact h2.symm};{have:=hy'.1 x h1;have:=hx'.1 y h2;omega}
   subst e;rw[ih ys hx'.2 hy'.2 (λz=>?_)];constructor
   ·intro hz;rcases Au.1 ((h z).1 (List.mem_cons_of_mem _ hz)) with h1|h1
    {have:=hx'.1 z hz;omega};{exact h1}
   ·intro hz;rcases Au.1 ((h z).2 (List.mem_cons_of_mem _ hz)) with h1|h1
    {have:=hy'.1 z hz;omega};{exact h1}
theorem Gh {xs:List Int} {i:Nat} (h:i<xs.length):xs.getD i 0=xs[i]:=by simp[List.getD,h]
theorem DO.asc {xs:List Int} (h:DO xs):YV xs:=by
 have q:∀ d i,i+d+1<xs.length->xs.getD i 0<xs.getD (i+d+1) 0:=by
  intro d
  induction d with
  |zero=>intro i hi;exact(h (i+0+1) hi).2.2 AJ
  |succ d ih=>
   intro i hi;have h1:=ih i AJ;have h2:=(h (i+(d+1)+1) hi).2.2 AJ;rw[show i+(d+1)+1-1=i+d+1 by omega] at h2;omega
 refine List.pairwise_iff_getElem.2 (λi j hi hj hij=>?_);have:=q (j-i-1) i AJ;rw[show i+(j-i-1)+1=j by omega,Gh hi,Gh hj] at this;exact this
theorem DO.range {xs:List Int} (h:DO xs) {z:Int} (hz:z∈xs):0<=z/\z<256:=by
 obtain⟨i,hi,rfl⟩:=Bn hz;have:=h i hi;unfold Xg at this;rw[Gh hi] at this;exact⟨this.1,this.2.1⟩
theorem DO.of_asc {xs:List Int} (h:YV xs) (hr:∀ z∈xs,0<=z/\z<256):DO xs:=by
 intro i hi;have:=hr _ (BL hi);refine⟨by rw[Gh hi];exact this.1,by rw[Gh hi];exact this.2,λh0=>?_⟩;rw[Gh hi,Gh (by omega:i-1<xs.length)];exact List.pairwise_iff_getElem.1 h (i-1) i AJ hi AJ
def DT (P:Nat->Bool) (k:Nat):List Int:=((List.range k).filter P).map Int.ofNat
theorem Du (P:Nat->Bool) (k:Nat):DT P (k+1)=if P k=true then DT P k++[(k:Int)] else DT P k:=by
 unfold DT;rw[CD,List.filter_append,BI];by_cases h:P k=true
 ·rw[AP h];simp[h]
 ·rw[AQ h];simp[h]
theorem In {P:Nat->Bool} {k:Nat} {z:Int}:z∈DT P k↔∃ v:Nat,v<k/\P v=true/\z=v:=by
 unfold DT;simp only[List.mem_map,List.mem_filter,List.mem_range];constructor
 ·rintro⟨v,⟨h1,h2⟩,rfl⟩;exact⟨v,h1,h2,rfl⟩
 ·rintro⟨v,h1,h2,rfl⟩;exact⟨v,⟨h1,h2⟩,rfl⟩
theorem Mw (P:Nat->Bool) (k:Nat):YV (DT P k):=by
 induction k with
 |zero=>exact List.Pairwise.nil
 |succ k ih=>
  rw[Du];split
  {refine List.pairwise_append.2 ⟨ih,List.pairwise_singleton _ _,λa ha b hb=>?_⟩;obtain⟨v,hv,_,rfl⟩:=In.1 ha;rw[List.mem_singleton.1 hb];omega};{exact ih}
theorem Io (P:Nat->Bool) (k:Nat):(DT P k).length<=k:=by
 unfold DT;rw[Bh];exact Ai (List.length_filter_le _ _) (by rw[List.length_range];exact Aa _)
theorem Sl (P:Nat->Bool):DO (DT P 256):=DO.of_asc (Mw P 256) (λz hz=>by
 obtain⟨v,hv,_,rfl⟩:=In.1 hz;omega)
theorem DO.eq_upTo {xs:List Int} (h:DO xs) (P:Nat->Bool) (hP:∀ v,v<256->(P v=true↔(v:Int)∈xs)):DT P 256=xs:=by
 refine Uw _ _ (Mw P 256) h.asc (λz=>?_);rw[In];constructor
 ·rintro⟨v,hv,hp,rfl⟩;exact(hP v hv).1 hp
 ·intro hz;have hr:=h.range hz;obtain⟨v,rfl⟩:=Ab hr.1;exact⟨v,AJ,(hP v AJ).2 hz,rfl⟩
def JZ (x:Nat):Nat:=((List.range 8).filter (λj=>x/2^j%2 == 1)).length
def GB (bs:List Int) (k:Nat):Nat:=((List.range k).map (λi=>JZ (bs.getD i 0).toNat)).sum
theorem K8 (bs:List Int) (k:Nat):GB bs (k+1)=GB bs k+JZ (bs.getD k 0).toNat:=by
 unfold GB;rw[CD,BI,List.sum_append];simp
theorem Sm (P:Nat->Bool) (k n:Nat):(DT P (k+n)).length=(DT P k).length+((List.range n).filter (λj=>P (k+j))).length:=by
 induction n with
 |zero=>simp
 |succ n ih=>
  rw[<-A7,Du,CD,List.filter_append,Ae,<-A7,<-ih];by_cases h:P (k+n)=true
  {rw[AP h];simp[h]};{rw[AQ h];simp[h]}
theorem Qg {bs:List Int} {Q:Nat->Prop} (hs:DM bs Q) (P:Nat->Bool) (hP:∀ v,v<256->(P v=true↔Q v)) (k:Nat) (hk:k<=32):GB bs k=(DT P (k*8)).length:=by
 induction k with
 |zero=>rfl
 |succ k ih=>
  rw[K8,ih AJ,show(k+1)*8=k*8+8 by omega,Sm]
  congr 1
  unfold JZ
  congr 1
  refine List.filter_congr (λj hj=>?_);have hj':=BG.1 hj;have h3:=hs.2.2 (k*8+j) AJ;rw[show(k*8+j)/8=k by omega,show(k*8+j)%8=j by omega] at h3;have h0:=(hs.2.1.get k).1;obtain⟨x,hx⟩:=Ab h0;rw[hx] at h3;rw[hx,Bm];have e:((x:Int)/2^j%2=1)↔(x/2^j%2=1):=by
   rw[show((2:Int)^j)=((2^j:Nat):Int) by simp,<-Int.natCast_ediv];omega
  rw[e] at h3;have:=h3.trans (hP (k*8+j) AJ).symm;by_cases hp:P (k*8+j)=true
  ·rw[hp];simpa using this.2 hp
  ·have h4:¬ (x/2^j%2=1):=λh=>hp (this.1 h)
   rw[Bool.not_eq_true] at hp;rw[hp];simpa using h4
theorem Lz {bs D:List Int} (hs:DM bs (λv=>(v:Int)∈D)) (hD:DO D):GB bs 32=D.length:=by
 have h:=Qg hs (λv=>decide ((v:Int)∈D)) (λv _=>AL) 32 AJ;rw[h,hD.eq_upTo _ (λv _=>AL)]
theorem JQ {D:List Int} (hD:DO D) (x:Int):DO (D.filter (λz=>z != x)):=
 DO.of_asc (List.Pairwise.filter _ hD.asc) (λz hz=>hD.range (BS.1 hz).1)
theorem Tryz.infoI64q:(tP.info? 2).map (λi=>(i.zero,i.size,i.bytes))=aR (aR (aO aZ 0),1,8):=AM
def Iow (B:Nat) (w:aV) (v:aX) (xs:List Int):Prop:=w.ownsRow B 2 1 v xs.length (xs.map (Value.int aZ))
theorem Iow.nil (B:Nat) (w:aV):Iow B w (aM aS 0 0) []:=⟨AL,.inl ⟨rfl,rfl⟩⟩
theorem Iow.ownBlock {B:Nat} {w:aV} {v:aX} {xs:List Int} (h:Iow B w v xs):∀ k,v.ownBlock=aR k->B<=k:=λk hk=>by
 rcases h.2 with⟨h',_⟩|⟨g,c,cur,h',hb,_⟩
 ·rw[h'] at hk;simp[Value.ownBlock] at hk
 ·rw[h'] at hk;simp[Value.ownBlock] at hk;omega
theorem F7 (w:aV) {ops:Array Oper} {rest:List Oper} {o:Oper} {a:Act} {Q:Exit->Act->aV->Prop} (hg:o.guard=aS) (sx x:Operand)
  (hop:o.op=Op.call { callee:=Callee.builtin Builtin.append,args:=#[sx,x],argTypes:=#[23,23] }) (B:Nat) (v:aX) (xs:List Int) (hs:a.eval sx=v) (hown:Iow B w v xs)
  (wb:aV) (z:Int) (hw:w=wb.alloc (aa #[aO aZ z] 2)) (hx:a.eval x=aM (aR ⟨wb.heap.size,0,aS⟩) 1 1) (hm:xs.length<=1048576) (hB:B<=w.heap.size)
  (hK:∀ v' w',Iow B w' v' (xs++[z])->Below B w w'->wpList tP ops Q rest (a.put o.dst v') w') :
  wpList tP ops Q (o::rest) a w:=by
 obtain⟨i0,hi,hz0,hz1,hz2⟩:=BZ Tryz.infoI64q;refine wpList_append_own_at w hg sx x 23 hop B 2 i0 (aO aZ 0) 1 8 underlying23 hi hz0 hz1 hz2 rfl AK v xs.length _ hs hown ⟨wb.heap.size,0,aS⟩ 1 1 [aO aZ z] hx rfl (by rw[hw];exact cell_one_new wb _ _) (by simp[Value.oneCell']) (by unfold maxLen;omega) AJ hB ?_;intro v' w' h1 h2 _ _;refine hK v' w' ?_ (Cf.grown h2 hB hown.ownBlock);unfold Iow;rw[BI,Ae];exact h1
theorem Iow.alloc {B:Nat} {w:aV} {v:aX} {xs:List Int} (h:Iow B w v xs) (o:Obj):Iow B (w.alloc o) v xs:=World.ownsRow.alloc h _
structure Tv (w:aV) (P:Nat->Bool) (k:Nat) (v:aX) (wr:aV):Prop where
 own:Iow w.heap.size wr v (DT P k)
 below:Below w.heap.size w wr
theorem Mx (g o:Nat) (bs:List Int) (P:Nat->Bool) (w:aV) (hb:∀ w',Below w.heap.size w w'->Q2 w' g o bs) (hs:DM bs (λv=>P v=true)) :
  Calls tP 51 #[aY (aR ⟨g,o,aS⟩)] w λe w'=>∃ v,e=aQ v/\Iow w.heap.size w' v (DT P 256)/\Below w.heap.size w w':=by
 have HB:=CY <| hb
 have HS:=CY <| hs
 have H0:AO (Tv w P 0 (aM aS 0 0) w):=⟨Iow.nil _ _,A8 _ _⟩
 clear hb hs;go_enter func51,ntmps51;go_wp2_with fail
 go_loopw [3,5] (λl i wr=>∃(k:Nat) (v:aX),k<=256/\i=aO aZ k/\v=l/\Tv w P k v wr) (λ_ i _=>256-(intOf i).toNat)
 case atStart=>exact⟨0,_,AJ,rfl,rfl,H0.o⟩
 case round=>
  clear H0;obtain⟨k,l,hk,rfl,rfl,hst⟩:=hrel;by_cases hlt:k<256
  ·have hlt':(k:Int)<256:=AJ
   have HST:=CY <| hst
   have HQ:AO (P k=true↔(0<=(k:Int)/\(k:Int)<256/\P (k:Int).toNat=true)):=by
    show _↔_
    rw[Bm];exact⟨λh=>⟨AJ,AJ,h⟩,λh=>h.2.2⟩
   clear hst;go_wp2_with fail;refine(GK g o k bs _ (P k) _ (HB.o _ HST.o.below) HS.o HQ.o).mono ?_;rintro e w2 ⟨rfl,rfl⟩;by_cases hp:P k=true
   ·have HN:AO (DT P (k+1)=DT P k++[(k:Int)]):=by show _=_;rw[Du,AP hp]
    rw[hp];have HL:AO ((DT P k).length<=1048576):=Ai (Io P k) AJ;have HO:AO (Iow w.heap.size (w2.alloc (aa #[aO aZ (k:Int)] 2)) l (DT P k)):=HST.o.own.alloc _;have HZ:AO (w.heap.size<=(w2.alloc (aa #[aO aZ (k:Int)] 2)).heap.size):=by
     show _<=_
     have:=HST.o.below.size;simp;omega
    clear hp HQ;go_wp2_with (first
     |(refine F7 _ rfl (ah 11) (ah 13) rfl w.heap.size _ (DT P k) rfl HO.o w2 k rfl rfl HL.o HZ.o ?_)
     |fail)
    intro v' w3 h1 h2;have HF:AO (Tv w P (k+1) v' w3):=⟨by rw[HN.o];exact h1,(HST.o.below.alloc HST.o.below.size _).trans h2⟩
    clear h1 h2 HO HZ HL;go_wp2;go_roundw
    case rel=>exact⟨k+1,_,AJ,by go_num,rfl,HF.o⟩
    case measure=>simp[intOf];omega
   ·have HF:AO (Tv w P (k+1) l w2):=⟨by rw[Du,AQ hp];exact HST.o.own,HST.o.below⟩
    rw[Bool.not_eq_true] at hp;rw[hp];clear hp HQ;go_wp2;go_roundw
    case rel=>exact⟨k+1,_,AJ,by go_num,rfl,HF.o⟩
    case measure=>simp[intOf];omega
  ·have hke:k=256:=AJ
   subst hke;have HF:AO (∃ v,aQ l=aQ v/\Iow w.heap.size wr v (DT P 256)/\Below w.heap.size w wr):=⟨l,rfl,hst.own,hst.below⟩
   clear hst;go_wp2
   go_ret
   exact HF.o
theorem PT (x:Nat):JZ x<=8:=by
 unfold JZ;exact Ai (List.length_filter_le _ _) AL
theorem Ux (T:ByteArray) (h:∀ y:Fin T.size,(T[y.val]).toNat=JZ y.val) (x:Nat) (hx:x<T.size):wrap64 ((T[x]).toNat:Int)=JZ x:=by
 have e:(T[x]).toNat=JZ x:=h ⟨x,hx⟩;rw[e];have:=PT x;unfold wrap64;omega
theorem Qh (x:Nat) (hx:x<256) (w:aV):Calls tP 116 #[aO aP x] w λe w'=>e=aQ (aO aZ (JZ x))/\w'=w:=by
 have hx':(x:Int)<256:=AJ
 go_enter func116,ntmps116;go_wp2
 go_ret
 exact⟨congrArg (λz=>aQ (aO aZ z)) (Ux _ (by decide +kernel) x _),rfl⟩
theorem Sn (g o:Nat) (bs:List Int) (w:aV) (hb:Q2 w g o bs) :
  Calls tP 94 #[aY (aR ⟨g,o,aS⟩)] w λe w'=>e=aQ (aO aZ (GB bs 32))/\w'=w:=by
 have HB:AO (Q2 w g o bs):=hb;clear hb;go_enter func94,ntmps94;go_wp2_with fail
 go_loopw [3,7] (λs i wr=>∃ k:Nat,k<=32/\i=aO aZ k/\s=aO aZ (GB bs k)/\GB bs k<=8*k/\wr=w) (λ_ i _=>32-(intOf i).toNat)
 case atStart=>exact⟨0,AJ,rfl,rfl,Aa _,rfl⟩
 case round=>
  obtain⟨k,hk,rfl,rfl,hle,rfl⟩:=hrel;by_cases hlt:k<32
  ·have hlt':(k:Int)<32:=AJ
   obtain⟨h1,h2,h3⟩:=HB.o;obtain⟨c0,f0⟩:=h3 k hlt;obtain⟨x0,x1⟩:=h2.get k;have HS:AO (GB bs (k+1)=GB bs k+JZ (bs.getD k 0).toNat):=K8 bs k;obtain⟨x,hx⟩:=Ab x0;rw[hx] at c0 x1;have HX:AO ((bs.getD k 0).toNat=x):=by show _=_;rw[hx];exact Bm x
   have hx256:x<256:=AJ
   have hp8:JZ x<=8:=PT x;rw[HX.o] at HS;clear h1 h2 h3 hx x0 HX f0 x1;generalize GB bs k=s at *;go_wp2_with fail;refine(Qh x hx256 _).mono ?_;rintro e w2 ⟨rfl,rfl⟩;generalize JZ x=p at *;go_wp2;go_roundw
   case rel=>exact⟨k+1,AJ,by go_num,by rw[HS.o,Int.natCast_add],AG HS.o,trivial⟩
   case measure=>simp[intOf];omega
  ·have hke:k=32:=AJ
   subst hke;go_wp2
   go_ret
   exact⟨rfl,rfl⟩
theorem Jl (d u:List Int) (k:Int) (v:aX) (i:Nat):(F9 d u k v)[i]?=(d.map (Value.int aP)++u.map (Value.int aP)++[aO aZ k,v])[i]?:=by unfold F9;simp
theorem YW {d u:List Int} (hd:d.length=32) (hu:u.length=32) (k:Int) (v:aX) (i:Nat) (hi:i<32):(F9 d u k v)[i]?=aR (aO aP (d.getD i 0)):=by
 rw[Jl,CB,BJ (by simp[hd,hi])];simp[hd,hi]
theorem YX {d u:List Int} (hd:d.length=32) (hu:u.length=32) (k:Int) (v:aX) (i:Nat) (hi:i<32):(F9 d u k v)[32+i]?=aR (aO aP (u.getD i 0)):=by
 rw[Jl,BJ (by simp[hd,hu];omega),BA (by simp[hd])];simp[hd,hu,hi]
theorem YZ {d u:List Int} (hd:d.length=32) (hu:u.length=32) (k:Int) (v:aX):(F9 d u k v)[64]?=aR (aO aZ k):=by
 rw[Jl,BA (by simp[hd,hu])];simp[hd,hu]
theorem Ya {d u:List Int} (hd:d.length=32) (hu:u.length=32) (k:Int) (v:aX):(F9 d u k v)[65]?=aR v:=by
 rw[Jl,BA (by simp[hd,hu])];simp[hd,hu]
theorem K9 {d u:List Int} (hd:d.length=32) (k:Int) (v:aX) (i:Nat) (hi:i<32) (x:Int):(F9 d u k v).setIfInBounds i (aO aP x)=F9 (d.set i x) u k v:=by
 unfold F9;rw[Bv,CB,List.set_append_left _ _ (by simp[hd,hi]),<-CB,<-List.map_set]
theorem Qi {d u:List Int} (hd:d.length=32) (hu:u.length=32) (k:Int) (v:aX) (i:Nat) (hi:i<32) (x:Int):(F9 d u k v).setIfInBounds (32+i) (aO aP x)=F9 d (u.set i x) k v:=by
 unfold F9;rw[Bv,List.set_append_left _ _ (by simp[hd,hu];omega),List.set_append_right _ _ (by simp[hd]),Bh,hd,Nat.add_sub_cancel_left,<-List.map_set]
theorem Qj {d u:List Int} (hd:d.length=32) (hu:u.length=32) (k:Int) (v:aX) (k':Int):(F9 d u k v).setIfInBounds 64 (aO aZ k')=F9 d u k' v:=by
 unfold F9;rw[Bv,List.set_append_right _ _ (by simp[hd,hu])];simp[hd,hu]
theorem Qk {d u:List Int} (hd:d.length=32) (hu:u.length=32) (k:Int) (v v':aX):(F9 d u k v).setIfInBounds 65 v'=F9 d u k v':=by
 unfold F9;rw[Bv,List.set_append_right _ _ (by simp[hd,hu])];simp[hd,hu]
structure Bk (w:aV) (g:Nat) (d u:List Int) (k:Int) (v:aX):Prop where
 row:w.heap[g]?=aR (aa (F9 d u k v) 61 (0,0))
 ld:d.length=32
 lu:u.length=32
 bd:Cb d
 bu:Cb u
variable {w w':aV} {g:Nat} {d u:List Int} {k:Int} {v:aX}
theorem Bk.lt (h:Bk w g d u k v):g<w.heap.size:=(AR.1 h.row).1
theorem Bk.batd (h:Bk w g d u k v):Q2 w g 0 d:=⟨h.ld,h.bd,λi hi=>by
 rw[Ar];exact⟨(AA h.row _).trans (YW h.ld h.lu k v i hi),An _ _ _ _ _ h.row⟩⟩
theorem Bk.batu (h:Bk w g d u k v):Q2 w g 32 u:=⟨h.lu,h.bu,λi hi=>⟨(AA h.row _).trans (YX h.ld h.lu k v i hi),An _ _ _ _ _ h.row⟩⟩
theorem Bk.ck (h:Bk w g d u k v):w.cell? ⟨g,64,aS⟩=aR (aO aZ k):=(AA h.row _).trans (YZ h.ld h.lu k v)
theorem Bk.cv (h:Bk w g d u k v):w.cell? ⟨g,65,aS⟩=aR v:=(AA h.row _).trans (Ya h.ld h.lu k v)
theorem Bk.fz (h:Bk w g d u k v) (i:Nat):w.frozen? ⟨g,i,aS⟩=false:=An _ _ _ _ _ h.row
theorem Bk.below (h:Bk w g d u k v) {B:Nat} (b:Below B w w') (hg:g<B):Bk w' g d u k v:=⟨by rw[b.block g hg];exact h.row,h.ld,h.lu,h.bd,h.bu⟩
theorem Bk.drew (h:Bk w g d u k v) (q:Nat):Bk (w.drewN q) g d u k v:=⟨h.row,h.ld,h.lu,h.bd,h.bu⟩
theorem My (bs:List Int) (i:Nat):(Do bs i).length=bs.length:=by unfold Do;simp
theorem So (bs:List Int) (i:Nat):(Eq bs i).length=bs.length:=by unfold Eq;simp
theorem LA {bs:List Int} (h:Cb bs) (i:Nat):Cb (Do bs i):=by
 have hx:=h.get (i/8);obtain⟨a,b,c⟩:=Kv _ (i%8) hx.1 hx.2 AJ;exact IZ h _ _ a b
theorem Ql {bs:List Int} (h:Cb bs) (i:Nat):Cb (Eq bs i):=by
 have hx:=h.get (i/8);obtain⟨a,b,c⟩:=Jy _ (i%8) hx.1 hx.2 AJ;exact IZ h _ _ a b
theorem LB (bs:List Int) (i:Nat) (h:i/8<bs.length):bs.set (i/8) ((Do bs i).getD (i/8) 0)=Do bs i:=by
 unfold Do;rw[EZ _ _ _ _ h,AP rfl]
theorem Qm (bs:List Int) (i:Nat) (h:i/8<bs.length):bs.set (i/8) ((Eq bs i).getD (i/8) 0)=Eq bs i:=by
 unfold Eq;rw[EZ _ _ _ _ h,AP rfl]
theorem Bk.addD (h:Bk w g d u k v) (i:Nat) (hi:i<256):Bk (w.setCell ⟨g,0+i/8,aS⟩ (aO aP ((Do d i).getD (i/8) 0))) g (Do d i) u k v:=
 ⟨by rw[Ar,Ao _ _ _ _ _ _ h.row,K9 h.ld _ _ _ AJ,LB _ _ (AG h.ld)],by rw[My];exact h.ld,h.lu,LA h.bd i,h.bu⟩
theorem Bk.remD (h:Bk w g d u k v) (i:Nat) (hi:i<256):Bk (w.setCell ⟨g,0+i/8,aS⟩ (aO aP ((Eq d i).getD (i/8) 0))) g (Eq d i) u k v:=
 ⟨by rw[Ar,Ao _ _ _ _ _ _ h.row,K9 h.ld _ _ _ AJ,Qm _ _ (AG h.ld)],by rw[So];exact h.ld,h.lu,Ql h.bd i,h.bu⟩
theorem Bk.addU (h:Bk w g d u k v) (i:Nat) (hi:i<256):Bk (w.setCell ⟨g,32+i/8,aS⟩ (aO aP ((Do u i).getD (i/8) 0))) g d (Do u i) k v:=
 ⟨by rw[Ao _ _ _ _ _ _ h.row,Qi h.ld h.lu _ _ _ AJ,LB _ _ (AG h.lu)],h.ld,by rw[My];exact h.lu,h.bd,LA h.bu i⟩
theorem Bk.setK (h:Bk w g d u k v) (k':Int):Bk (w.setCell ⟨g,64,aS⟩ (aO aZ k')) g d u k' v:=
 ⟨by rw[Ao _ _ _ _ _ _ h.row,Qj h.ld h.lu],h.ld,h.lu,h.bd,h.bu⟩
theorem Bk.setV (h:Bk w g d u k v) (v':aX):Bk (w.setCell ⟨g,65,aS⟩ v') g d u k v':=
 ⟨by rw[Ao _ _ _ _ _ _ h.row,Qk h.ld h.lu],h.ld,h.lu,h.bd,h.bu⟩
theorem Ip (a:Option Addr) (n c:Nat) (hb:Bk w g d u k (aM a n c)) (h0:0<=k) (h1:k<=1048576) (hn:n<=1048576) :
  Calls tP 78 #[aY (aR ⟨g,0,aS⟩)] w λe w'=>e=aQ (aO aZ (k+n))/\∃ q,w'=w.drewN q:=by
 have c0:=hb.ck;have c1:=hb.cv;clear hb;go_enter func78,ntmps78;go_wp2_with fail
 go_region
 go_wp2
 go_ret
 exact⟨rfl,1,rfl⟩
theorem Iq (hb:Bk w g d u k v) :
  Calls tP 77 #[aY (aR ⟨g,0,aS⟩)] w λe w'=>e=aQ (ae (decide (GB d 32=16)))/\w'=w:=by
 have HB:=CY <| hb.batd
 clear hb;go_enter func77,ntmps77;go_wp2_with fail;refine(Sn g 0 d _ HB.o).mono ?_;rintro e w2 ⟨rfl,rfl⟩;clear HB;by_cases hs:GB d 32=16
 ·have HD:=CY <| Aj hs
  rw[hs];go_wp2
  go_ret
  exact⟨by rw[HD.o];rfl,rfl⟩
 ·have HD:=CY <| Ac hs
  have HE:AO ((((GB d 32:Nat):Int) == 16)=false):=by
   show _=_
   have:¬ (((GB d 32:Nat):Int)=16):=AJ
   simpa using this
  clear hs;go_wp2
  go_ret
  exact⟨by rw[HD.o,<-HE.o];rfl,rfl⟩
variable {w w':aV} {g:Nat} {d u:List Int} {k:Int} {v:aX}
theorem Sp (hb:Bk w g d u k (aM aS 0 0)) (h0:0<=k) (h1:k<=1048576) :
  Calls tP 79 #[aY (aR ⟨g,0,aS⟩),aO aZ k] w λe w'=>e=aQ (.tuple #[])/\∃ q,w'=(((w.setCell ⟨g,65,aS⟩ (aM aS 0 0)).drewN q).setCell ⟨g,64,aS⟩ (aO aZ k)):=by
 have c0:=hb.ck;have c1:=hb.cv;have f0:=hb.fz 64;have f1:=hb.fz 65;have hb2:=hb.setV (aM aS 0 0);have c2:=hb2.ck;have f2:=hb2.fz 64;clear hb hb2;go_enter func79,ntmps79;go_wp2_with fail
 go_region
 go_wp2
 go_end0
 exact⟨rfl,1,rfl⟩
def OH (t o n c m:Nat):aX:=aM (if c=m then aR ⟨t,o,aS⟩ else aR ⟨t,o+m*2,aS⟩) (n-m:Nat) (c-m:Nat)
theorem Sq (t o n c m:Nat) (hb:Bk w g d u k (aM (aR ⟨t,o,aS⟩) n c)) (h0:0<=k) (h1:k<=1048576) (hm:m<=n) (hc:n<=c) (hn:n<=1048576) (hcm:c<=9223372036854775807) :
  Calls tP 79 #[aY (aR ⟨g,0,aS⟩),aO aZ (k+m)] w λe w'=>e=aQ (.tuple #[])/\∃ q,w'=(((w.setCell ⟨g,65,aS⟩ (OH t o n c m)).drewN q).setCell ⟨g,64,aS⟩ (aO aZ (k+m))):=by
 have c0:=hb.ck;have c1:=hb.cv;have f0:=hb.fz 64;have f1:=hb.fz 65;have hb2:=hb.setV (OH t o n c m);have c2:=hb2.ck;have f2:=hb2.fz 64;have HK:AO ((k+(m:Int)-k).toNat=m):=by show _=_;omega
 have HV:AO (aM (if c=m then aR ⟨t,o,aS⟩ else aR ⟨t,o+m*2,aS⟩) (n-m:Nat) (c-m:Nat)=OH t o n c m):=rfl;clear hb hb2;go_enter func79,ntmps79;go_wp2_with fail
 go_region
 rw[HK.o,HV.o];clear HK HV;go_wp2
 go_end0
 exact⟨rfl,1,rfl⟩
end Go.Proofs.YtncomnkdlpoelaaGreatDoor
