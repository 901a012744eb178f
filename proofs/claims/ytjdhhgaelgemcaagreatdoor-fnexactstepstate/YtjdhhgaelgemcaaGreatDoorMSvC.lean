import Derived.Test.YtjdhhgaelgemcaaGreatDoorMSvP
open Go.Proofs.Tryz renaming prog->tP
open Go.Proofs.Tryz
open Go.Value renaming slice->Z7,int->Z8,pointer->aF,bool->aG,agg->aH
open Go.IntKind renaming i64->aI,u8->Z9
open Go.Obj renaming cells->aJ
open Go.Ending renaming returned->aK
open Go.Operand renaming tmp->aM
open Option renaming some->aE,none->aA
open Go renaming World->aC,Value->aB
set_option maxHeartbeats 8000000
set_option maxRecDepth 100000
namespace Go.Proofs.YtjdhhgaelgemcaaGreatDoor
open Go.ChangeShapes Go.WideShapes Go.ChangeAt Go.RowKit
set_option linter.unusedVariables false
def C7 (B:Nat) (w:aC) (v:aB) (T:List Int) (n:Nat):Prop:=w.ownsRow B 77 2 v n (T.map (Value.int aI))
theorem MC (w:aC) (a:Option Addr) (n c:Nat):(binOp .eql 31 (Z7 a n c) (Z7 aA 0 0)).run tP w=.ok (aG a.isNone) w:=by
 have h:∀ d,(Op.equalIn (d+1) 31 (Z7 a n c) (Z7 aA 0 0)).run tP w=.ok a.isNone w:=λd=>by
  cases a<;>simp[Op.equalIn,run_underlying underlying31]
 have h':(Op.equal 31 (Z7 a n c) (Z7 aA 0 0)).run tP w=.ok a.isNone w:=h 9999;simp only[binOp];simp[h']
def Yz (w:aC) (T:List Int) (n:Nat) (e:Ending) (w':aC):Prop:=∃ v,e=aK v/\C7 w.heap.size w' v T n/\v.oneCell'=true/\Below w.heap.size w w'
theorem ME (w:aC) {ops:Array Oper} {rest:List Oper} {o:Oper} {a:Act} {Q:Exit->Act->aC->Prop} (hg:o.guard=aA) (sx x:Operand)
  (hop:o.op=Op.call { callee:=Callee.builtin Builtin.append,args:=#[sx,x],argTypes:=#[31,31] }) (B:Nat) (v:aB) (xs:List aB) (hs:a.eval sx=v) (hown:w.ownsRow B 77 2 v 0 xs)
  (ad:Addr) (n c:Nat) (T:List Int) (hx:a.eval x=Z7 (aE ad) n c) (hl:(T.map (Value.int aI)).length=n*2) (hnews:∀ j u,(T.map (Value.int aI))[j]?=aE u->w.cell? (ad.add j)=aE u) (hm:n<=1048576) (hB:B<=w.heap.size)
  (hK:∀ v' w',w'.ownsRow B 77 2 v' n (xs++T.map (Value.int aI))->w.grownBy w' v.ownBlock->wpList tP ops Q rest (a.put o.dst v') w') :
  wpList tP ops Q (o::rest) a w:=by
 obtain⟨i0,hi,hz0,hz1,hz2⟩:=Bh Tryz.infoTap;refine wpList_append_own_at w hg sx x 31 hop B 77 i0 (aH #[Z8 aI 0,Z8 aI 0]) 2 16 underlying31 hi hz0 hz1 hz2 rfl AK v 0 xs hs hown ad n c (T.map (Value.int aI)) hx hl hnews (Aw _ _) (by unfold maxLen;omega) AJ hB ?_;intro v' w' h1 h2 _ _;rw[Aq] at h1;exact hK v' w' h1 h2
theorem RA (a:Option Addr) (n cap:Nat) (T:List Int) (w:aC) (hn:T.length=n*2) (hm:n<=1048576) (ha:At aI w a T) (hnil:a=aA->n=0/\cap=0) :
  Calls tP 47 #[Z7 a n cap] w (Yz w T n):=by
 cases a with
 |none=>
  obtain⟨rfl,rfl⟩:=hnil rfl;have hT:T=[]:=BP AJ;subst hT;have HP:AO (Yz w [] 0 (aK (Z7 aA 0 0)) w):=⟨_,rfl,⟨AL,.inl ⟨rfl,rfl⟩⟩,rfl,A9 _ _⟩
  have E:=MC w aA 0 0;clear hn ha hnil hm;go_enter func47,ntmps47;go_wp2
  go_ret
  exact HP.o
 |some ad=>
  have HNW:AO (∀ j u,(T.map (Value.int aI))[j]?=aE u->(w.alloc (aJ #[] 77)).cell? (ad.add j)=aE u):=by
   intro j u hu;have hj:j<T.length:=by have:=(Ao.1 hu).1;simpa using this
   obtain⟨b,off,e,hb,hc⟩:=ha.get AJ;cases e;rw[Az,World.cell?_alloc_old _ _ _ (by show b≠w.heap.size;omega),hc j hj];simp[hj] at hu;simp[hj,hu]
  have HO:AO ((w.alloc (aJ #[] 77)).ownsRow w.heap.size 77 2 (Z7 (aE ⟨w.heap.size,0,aA⟩) 0 0) 0 []):=
   ⟨AL,.inr ⟨w.heap.size,0,#[],rfl,Ac _,AX w _,Ac _,by simp[maxLen],rfl,rfl⟩⟩
  have HL:AO ((T.map (Value.int aI)).length=n*2/\n<=1048576):=⟨by simp[hn],hm⟩
  have E:=MC w (aE ad) n cap;clear hn ha hnil hm;go_enter func47,ntmps47;go_wp2_with (first
   |(refine ME _ rfl (aM 5) (aM 6) rfl w.heap.size _ [] rfl HO.o ad n cap T rfl HL.o.1 HNW.o HL.o.2 AL ?_)
   |fail)
  intro v' w3 ho hgr;have HF:AO (Yz w T n (aK v') w3):=by
   have hB:Below w.heap.size (w.alloc (aJ #[] 77)) w3:=Cg.grown hgr AL (λk hk=>by simp[Value.ownBlock] at hk;omega);refine⟨v',rfl,by unfold C7;simpa using ho,?_,(Cg.alloc Cl _).trans hB⟩;rcases ho.2 with⟨h,_⟩|⟨g,c,cur,h,_⟩
   ·rw[h];rfl
   ·rw[h];rfl
  clear ho hgr HNW HO HL;go_wp2
  go_ret
  exact HF.o
theorem Pm (off:Nat) (vs:List aB) (n:Nat) (cs:Array aB):((vs.zipIdx n).foldl (λcs (x:aB×Nat)=>cs.setIfInBounds (off+x.2) x.1) cs).size=cs.size:=by
 induction vs generalizing n cs with
 |nil=>rfl
 |cons v vs ih=>rw[List.zipIdx_cons,List.foldl_cons,ih];simp
theorem RB (off:Nat) (vs:List aB) (n:Nat) (cs:Array aB) (h:off+n+vs.length<=cs.size) (i:Nat) :
  ((vs.zipIdx n).foldl (λcs (x:aB×Nat)=>cs.setIfInBounds (off+x.2) x.1) cs)[i]?=if off+n<=i/\i<off+n+vs.length then vs[i-(off+n)]? else cs[i]?:=by
 induction vs generalizing n cs with
 |nil=>rw[AQ AL];rfl
 |cons v vs ih=>
  simp only[List.length_cons] at h;rw[List.zipIdx_cons,List.foldl_cons,ih (n+1) _ (by simp;omega)];by_cases h1:off+(n+1)<=i/\i<off+(n+1)+vs.length
  ·rw[AP h1,AP (by simp only[List.length_cons];omega),show i-(off+n)=(i-(off+(n+1)))+1 by omega,List.getElem?_cons_succ]
  ·rw[AQ h1];by_cases h2:i=off+n
   ·subst h2;rw[AP (by simp only[List.length_cons];omega),Nat.sub_self,List.getElem?_cons_zero,BW AJ]
   ·rw[AQ (by simp only[List.length_cons];omega),BM AJ]
def Fn (d u:List Int) (k:Int) (v:aB):Array aB:=(d.map (Value.int Z9)++u.map (Value.int Z9)++[Z8 aI k,v]).toArray
theorem IM {d u:List Int} (hd:d.length=32) (hu:u.length=32) (k:Int) (v:aB):(Fn d u k v).size=66:=by unfold Fn;simp[hd,hu]
theorem Od (d u:List Int) (k:Int) {v:aB} (hv:v.oneCell'=true):(Fn d u k v).all (λx=>x.oneCell')=true:=by
 unfold Fn;rw[List.all_toArray];simp only[List.all_append,List.all_map,List.all_cons,List.all_nil,hv];simp[Function.comp_def,Value.oneCell']
def KA (off:Nat) (vs cs:Array aB):Array aB:=vs.zipIdx.foldl (λcs (x:aB×Nat)=>cs.setIfInBounds (off+x.2) x.1) cs
theorem RC (off:Nat) (vs cs:Array aB):KA off vs cs=((vs.toList.zipIdx 0).foldl (λcs (x:aB×Nat)=>cs.setIfInBounds (off+x.2) x.1) cs):=by
 unfold KA;rw[<-Array.foldl_toList];simp
theorem JY (off:Nat) (vs cs:Array aB):(KA off vs cs).size=cs.size:=by rw[RC];exact Pm _ _ _ _
theorem JB (off:Nat) (vs cs:Array aB) (h:off+vs.size<=cs.size) (i:Nat):(KA off vs cs)[i]?=if off<=i/\i<off+vs.size then vs[i-off]? else cs[i]?:=by
 rw[RC,RB off vs.toList 0 cs (by simpa using h) i];simp
theorem Hb (places:Nat->Option (Nat×Nat)) (cs:Array aB) (i off size:Nat) (v:aB) (rest:List (Nat×aB)) (hp:places i=aE (off,size)) (hs:v.cells.size=size) (hc:off+size<=cs.size) :
  Instr.fill places cs ((i,v)::rest)=Instr.fill places (KA off v.cells cs) rest:=by
 rw[Instr.fill,hp];simp only[];rw[AQ (by simp[hs];omega)];rfl
theorem Xh (places:Nat->Option (Nat×Nat)) (p0:places 0=aE (0,32)) (p1:places 1=aE (32,32)) (p2:places 2=aE (64,1)) (p3:places 3=aE (65,1)) (z:Array aB) (hz:z.size=66) (d u:List Int) (hd:d.length=32) (hu:u.length=32) (k:Int) (v:aB) (hv:v.cells=#[v]) :
  Instr.fill places z [(0,aH (d.map (Value.int Z9)).toArray),(1,aH (u.map (Value.int Z9)).toArray),(2,Z8 aI k),(3,v)]=aE (Fn d u k v):=by
 have sd:((d.map (Value.int Z9)).toArray).size=32:=by simp[hd]
 have su:((u.map (Value.int Z9)).toArray).size=32:=by simp[hu]
 have s1:(KA 0 (d.map (Value.int Z9)).toArray z).size=66:=by rw[JY];exact hz
 have s2:(KA 32 (u.map (Value.int Z9)).toArray (KA 0 (d.map (Value.int Z9)).toArray z)).size=66:=by rw[JY];exact s1
 have s3:(KA 64 #[Z8 aI k] (KA 32 (u.map (Value.int Z9)).toArray (KA 0 (d.map (Value.int Z9)).toArray z))).size=66:=by rw[JY];exact s2
 have key:KA 65 #[v] (KA 64 #[Z8 aI k] (KA 32 (u.map (Value.int Z9)).toArray (KA 0 (d.map (Value.int Z9)).toArray z)))=Fn d u k v:=by
  apply Array.ext_getElem?;intro i;rw[JB _ _ _ (by rw[s3];simp),JB _ _ _ (by rw[s2];simp),JB _ _ _ (by rw[s1,su];omega),JB _ _ _ (by rw[hz,sd];omega),sd,su];have e:(Fn d u k v)[i]?=(d.map (Value.int Z9)++u.map (Value.int Z9)++[Z8 aI k,v])[i]?:=by unfold Fn;simp
  rw[e];simp only[List.size_toArray,List.length_cons,List.length_nil];by_cases h0:i<32
  ·rw[AQ AJ,AQ AJ,AQ AJ,AP AJ];rw[BQ (by simp[hd,hu];omega),BQ (by simp[hd];omega)];simp
  ·by_cases h1:i<64
   ·rw[AQ AJ,AQ AJ,AP AJ];rw[BQ (by simp[hd,hu];omega),BO (by simp[hd];omega)];simp[hd]
   ·by_cases h2:i=64
    ·subst h2;rw[AQ AJ,AP AJ,BO (by simp[hd,hu])];simp[hd,hu]
    ·by_cases h3:i=65
     ·subst h3;rw[AP AJ,BO (by simp[hd,hu])];simp[hd,hu]
     ·rw[AQ AJ,AQ AJ,AQ AJ,AQ AJ,Array.getElem?_eq_none AJ,BX (by simp[hd,hu];omega)]
 rw[Hb places z 0 0 32 (aH (d.map (Value.int Z9)).toArray) _ p0 sd AJ];rw[Hb places _ 1 32 32 (aH (u.map (Value.int Z9)).toArray) _ p1 su (by show _<=(KA 0 (d.map (Value.int Z9)).toArray z).size;omega)];rw[Hb places _ 2 64 1 (Z8 aI k) _ p2 rfl (by show _<=(KA 32 (u.map (Value.int Z9)).toArray (KA 0 (d.map (Value.int Z9)).toArray z)).size;omega)];rw[Hb places _ 3 65 1 v _ p3 (by rw[hv];rfl) (by show _<=(KA 64 #[Z8 aI k] (KA 32 (u.map (Value.int Z9)).toArray (KA 0 (d.map (Value.int Z9)).toArray z))).size;omega)];rw[hv,Instr.fill];exact congrArg aE key
def Y5:Array aB:=#[Z8 Z9 0,Z8 Z9 0,Z8 Z9 0,Z8 Z9 0,Z8 Z9 0,Z8 Z9 0,Z8 Z9 0,Z8 Z9 0,Z8 Z9 0,Z8 Z9 0,Z8 Z9 0,Z8 Z9 0,Z8 Z9 0,Z8 Z9 0,Z8 Z9 0,Z8 Z9 0,Z8 Z9 0,Z8 Z9 0,Z8 Z9 0,Z8 Z9 0,Z8 Z9 0,Z8 Z9 0,Z8 Z9 0,Z8 Z9 0,Z8 Z9 0,Z8 Z9 0,Z8 Z9 0,Z8 Z9 0,Z8 Z9 0,Z8 Z9 0,Z8 Z9 0,Z8 Z9 0,Z8 Z9 0,Z8 Z9 0,Z8 Z9 0,Z8 Z9 0,Z8 Z9 0,Z8 Z9 0,Z8 Z9 0,Z8 Z9 0,Z8 Z9 0,Z8 Z9 0,Z8 Z9 0,Z8 Z9 0,Z8 Z9 0,Z8 Z9 0,Z8 Z9 0,Z8 Z9 0,Z8 Z9 0,Z8 Z9 0,Z8 Z9 0,Z8 Z9 0,Z8 Z9 0,Z8 Z9 0,Z8 Z9 0,Z8 Z9 0,Z8 Z9 0,Z8 Z9 0,Z8 Z9 0,Z8 Z9 0,Z8 Z9 0,Z8 Z9 0,Z8 Z9 0,Z8 Z9 0,Z8 aI 0,Z7 aA 0 0]
theorem Tryz.infoBook:(tP.info? 67).map (λi=>i.zero)=aE (aE (aH Y5)):=AM
theorem Tryz.sizeBook:(tP.info? 67).map (·.size)=aE 66:=AM
theorem Tryz.placesBook:((tP.underlying 67).bind λd=>match d with|.struct fs=>fs.toList.mapM (λf=>(tP.info? f.type).map λi=>(f.offset,i.size))|_=>aA)=aE [(0,32),(32,32),(64,1),(65,1)]:=AM
theorem WH (d u:List Int) (hd:d.length=32) (hu:u.length=32) (k:Int) (v:aB) (hv:v.cells=#[v]) :
  tP.built 67 [(0,aH (d.map (Value.int Z9)).toArray),(1,aH (u.map (Value.int Z9)).toArray),(2,Z8 aI k),(3,v)]=aE (Fn d u k v):=by
 have hb:∃ places z,(places 0=aE (0,32)/\places 1=aE (32,32)/\places 2=aE (64,1)/\places 3=aE (65,1))/\z.size=66/\∀ parts,tP.built 67 parts=Instr.fill places z parts:=by
  have h1:=Tryz.infoBook;have h2:=Tryz.placesBook;obtain⟨F,hF⟩:∃ F,tP.underlying 67=aE (.struct F):=⟨_,underlying67⟩
  rw[hF] at h2;have h2':F.toList.mapM (λf=>(tP.info? f.type).map λi=>(f.offset,i.size))=aE [(0,32),(32,32),(64,1),(65,1)]:=h2;cases hi:tP.info? 67 with
  |none=>rw[hi] at h1;cases h1
  |some it=>
   rw[hi] at h1;have hz:it.zero=aE (aH Y5):=by simpa using h1
   refine⟨λi=>[(0,32),(32,32),(64,1),(65,1)].toArray[i]?,Y5,⟨rfl,rfl,rfl,rfl⟩,rfl,λparts=>?_⟩;simp only[Program.built,hi,hF,hz,h2'];rfl
 obtain⟨places,z,⟨p0,p1,p2,p3⟩,hz,h⟩:=hb;rw[h];exact Xh places p0 p1 p2 p3 z hz d u hd hu k v hv
def WI (D U:List Int) (k:Int) (T:List Int) (n:Nat):Prop:=Dk D/\D.length<=16/\Dk U/\0<=k/\k+n=U.length/\Lt U T n
open Classical in
noncomputable def FL (D U:List Int) (k:Int) (T:List Int) (n:Nat):Bool:=decide (WI D U k T n)
theorem EQ {D U:List Int} {k:Int} {T:List Int} {n:Nat} (h:¬ WI D U k T n):FL D U k T n=false:=by unfold FL;simp[h]
theorem Oe {D U:List Int} {k:Int} {T:List Int} {n:Nat} (h:WI D U k T n):FL D U k T n=true:=by unfold FL;simp[h]
theorem Fj:(Tryz.zeroCells67).size=66:=AM
theorem EK:(Tryz.zeroCells67).all (λx=>x.oneCell')=true:=AM
theorem ER {fn:Func} {p u:Tmp} (h:fn.results=#[.cell p 67,.tmp u]) (tmps:Array aB) (w:aC) (g:Nat) (cs:Array aB) (v:aB) (hv:tmps.getD u undef=v)
  (hp:tmps.getD p undef=aF (aE ⟨g,0,aA⟩)) (hr:w.heap[g]?=aE (aJ cs 67 (0,0))) (hs:(tP.info? 67).map (·.size)=aE cs.size) :
  (results fn tmps).run tP w=.ok (.tuple #[aH cs,v]) w:=by
 have hp':tmps[p]?.getD undef=aF (aE ⟨g,0,aA⟩):=by simpa using hp
 have hv':tmps[u]?.getD undef=v:=by simpa using hv
 have hl:=run_loadVar_row (P:=tP) w g 67 67 cs (0,0) _ hr underlying67 rfl hs;simp[results,h,hp',hv',asAddr,hl]
def Ze (w:aC) (D U:List Int) (k:Int) (T:List Int) (n:Nat) (e:Ending) (w':aC):Prop:=
 ∃ bk:Array aB,e=aK (.tuple #[aH bk,aG (FL D U k T n)])/\bk.size=66/\bk.all (λx=>x.oneCell')=true/\Below w.heap.size w w'/\
  (FL D U k T n=true->∃ db ub v,bk=Fn db ub k v/\Dg db (λv=>(v:Int)∈D)/\Dg ub (λv=>(v:Int)∈U)/\C7 w.heap.size w' v T n)
structure NT (w:aC) (sc:Array aB) (wr:aC):Prop where
 below:Below w.heap.size w wr
 box:wr.heap[w.heap.size]?=aE (aJ sc 33 (0,0))
 res:wr.heap[w.heap.size+1]?=aE (aJ Tryz.zeroCells67 67 (0,0))
theorem NT.lt {w wr:aC} {sc:Array aB} (h:NT w sc wr):w.heap.size<wr.heap.size:=(AR.1 h.box).1
theorem NT.lt2 {w wr:aC} {sc:Array aB} (h:NT w sc wr):w.heap.size+1<wr.heap.size:=(AR.1 h.res).1
theorem NT.call {w wr w':aC} {sc:Array aB} (h:NT w sc wr) (b:Below wr.heap.size wr w'):NT w sc w':=
 ⟨h.below.trans (b.mono h.below.size),by rw[b.block _ h.lt];exact h.box,by rw[b.block _ h.lt2];exact h.res⟩
theorem IN {w:aC} {ops:Array Oper} {rest:List Oper} {o:Oper} {a:Act} {Q:Exit->Act->aC->Prop} (hgd:o.guard=aA) (x y:Operand) (ho:o.op=.store 65 x y)
  (bs:List Int) (hx:a.eval x=aF (aE ⟨w.heap.size,0,aA⟩)) (hy:a.eval y=aH (bs.map (Value.int Z9)).toArray) (hl:bs.length=32)
  {wa:aC} (hwa:wa=w.alloc (aJ Ca 65)) (hK:∀ w',EF w' w.heap.size 65 bs->Below w.heap.size w w'->wpList tP ops Q rest (a.put o.dst undef) w') :
  wpList tP ops Q (o::rest) a wa:=by
 subst hwa;exact CB hgd 65 x y ho w.heap.size ((bs.map (Value.int Z9)).toArray) hx hy 65 _ (AX w _) (by rw[Tryz.sizeSS];simp[hl]) (by simp[hl]) (all_oneCell_toArray (Aw _ _))
  (hK _ (AB (AX w _)) ((Cg.alloc Cl _).trans ((Wr.setRow _ _ _).below Cl)))
theorem K7 {w:aC} {ops:Array Oper} {rest:List Oper} {o:Oper} {a:Act} {Q:Exit->Act->aC->Prop} (x:Operand) (ho:o.op=.load 65 x) (hw:Region.wanted o (yielded ops a.tmps)=true)
  (g:Nat) (bs:List Int) (hx:a.eval x=aF (aE ⟨g,0,aA⟩)) (hr:EF w g 65 bs) (hl:bs.length=32) (hK:wpList tP ops Q rest (a.put o.dst (aH (bs.map (Value.int Z9)).toArray)) w) :
  wpList tP ops Q (o::rest) a w:=
 wpList_step λK hK'=>by
  rw[AP hw];exact BR 65 x ho g hx 65 _ (0,0) _ hr underlying65 rfl (by rw[Tryz.sizeSS];simp[hl]) (hK' _ _ hK)
theorem EA {w:aC} {ops:Array Oper} {rest:List Oper} {o:Oper} {a:Act} {Q:Exit->Act->aC->Prop} (x:Operand) (ho:o.op=.load 65 x) (hw:Region.wanted o (yielded ops a.tmps)=false)
  (hK:wpList tP ops Q rest (a.put o.dst undef) w):wpList tP ops Q (o::rest) a w:=by
 unfold wpList;rw[AQ (by rw[hw];simp)];exact hK
theorem RD {w:aC} {o:Oper} {a:Act} {K:Act->aC->Prop} {Q:Exit->Act->aC->Prop} (ho:o.op=.build 67 #[(0,.tmp 56),(1,.tmp 57),(2,.tmp 59),(3,.tmp 62)]) {db ub:List Int} {k:Int} {v:aB}
  (h0:a.eval (aM 56)=aH (db.map (Value.int Z9)).toArray) (h1:a.eval (aM 57)=aH (ub.map (Value.int Z9)).toArray) (h3:a.eval (aM 59)=Z8 aI k) (h6:a.eval (aM 62)=v) (hd:db.length=32) (hu:ub.length=32) (hv:v.cells=#[v])
  (hK:K (a.put o.dst (aH (Fn db ub k v))) w):o.wp tP a w K Q:=by
 have e:((#[(0,.tmp 56),(1,.tmp 57),(2,.tmp 59),(3,.tmp 62)]:Array (Nat×Operand)).map λ(x:Nat×Operand)=>(x.1,a.eval x.2)).toList=[(0,aH (db.map (Value.int Z9)).toArray),(1,aH (ub.map (Value.int Z9)).toArray),(2,Z8 aI k),(3,v)]:=by
  simp only[List.map_toArray,List.map_cons,List.map_nil,h0,h1,h3,h6]
 have hb:=WH db ub hd hu k v hv;rw[<-e] at hb;refine wp_build 67 _ ho ?_ ?_
 ·exact(congrArg Option.isSome hb).trans rfl
 ·have e2:((tP.built 67 ((#[(0,.tmp 56),(1,.tmp 57),(2,.tmp 59),(3,.tmp 62)]:Array (Nat×Operand)).map λ(x:Nat×Operand)=>(x.1,a.eval x.2)).toList).getD #[])=Fn db ub k v:=by rw[hb];rfl
  exact e2 ▸ hK
theorem C7.mono {B B':Nat} {w:aC} {v:aB} {T:List Int} {n:Nat} (h:C7 B' w v T n) (hB:B<=B'):C7 B w v T n:=by
 obtain⟨h1,h2⟩:=h;refine⟨h1,?_⟩;rcases h2 with h|⟨g,c,cur,h4,h5,h6⟩
 ·exact .inl h
 ·exact .inr ⟨g,c,cur,h4,AJ,h6⟩
theorem C7.wrh {B R:Nat} {w w':aC} {v:aB} {T:List Int} {n:Nat} (h:C7 B w v T n) (hR:R<B) (hw:EN R w w'):C7 B w' v T n:=by
 obtain⟨h1,h2⟩:=h;refine⟨h1,?_⟩;rcases h2 with h|⟨g,c,cur,h4,h5,h6,h7⟩
 ·exact .inl h
 ·exact .inr ⟨g,c,cur,h4,h5,by rw[hw.block g (AR.1 h6).1 AJ];exact h6,h7⟩
theorem Pn {B:Nat} {w:aC} {v:aB} {T:List Int} {n:Nat} (h:C7 B w v T n):v.cells=#[v]:=by
 rcases h.2 with⟨h,_⟩|⟨g,c,cur,h,_⟩
 ·rw[h];rfl
 ·rw[h];rfl
def T9 (H:Nat) (w:aC) (v:aB) (T:List Int) (n:Nat):Prop:=∃ B,H+1<B/\C7 B w v T n/\v.oneCell'=true
theorem T9.wrh {H:Nat} {w w':aC} {v:aB} {T:List Int} {n:Nat} (h:T9 H w v T n) (hw:EN (H+1) w w'):T9 H w' v T n:=by
 obtain⟨B,a,b,c⟩:=h;exact⟨B,a,b.wrh a hw,c⟩
def Xi (H:Nat) (w:aC) (v:aB) (d u:List Int) (k:Int) (T:List Int) (n:Nat):Prop:=∃ v6,v=aH (Fn d u k v6)/\T9 H w v6 T n
theorem Xi.wrh {H:Nat} {w w':aC} {v:aB} {d u:List Int} {k:Int} {T:List Int} {n:Nat} (h:Xi H w v d u k T n) (hw:EN (H+1) w w'):Xi H w' v d u k T n:=by
 obtain⟨v6,a,b⟩:=h;exact⟨v6,a,b.wrh hw⟩
def Th (w W:aC) (d u:List Int) (k:Int) (T:List Int) (n:Nat) (L:Nat->Bool) (w':aC):Prop:=
 EN (w.heap.size+1) W w'/\(L 8=false->w'.heap[w.heap.size+1]?=aE (aJ Tryz.zeroCells67 67 (0,0)))/\
  (L 8=true->∃ v6,w'.heap[w.heap.size+1]?=aE (aJ (Fn d u k v6) 67 (0,0))/\T9 w.heap.size w' v6 T n)
section
variable {w W w' ww:aC} {d u:List Int} {k:Int} {T:List Int} {n:Nat} {L:Nat->Bool}
theorem Th.ref (h:Th w W d u k T n L w') (i:Nat) (hi:i≠8):Th w W d u k T n (Cf L i) w':=
 ⟨h.1,by unfold Cf;simpa[Ne.symm hi] using h.2.1,by unfold Cf;simpa[Ne.symm hi] using h.2.2⟩
theorem Th.low {sc:Array aB} (h:Th w W d u k T n L w') (i:Nat) (hi:i≠8) (hE:NT w sc W) (b:Below w'.heap.size w' ww):Th w W d u k T n (Cf L i) ww:=by
 have hlt:w.heap.size+1<w'.heap.size:=As hE.lt2 h.1.size;refine⟨h.1.trans (EN.of_below b),?_,?_⟩
 ·unfold Cf;simp only[Ne.symm hi,if_false];intro q;rw[b.block _ hlt];exact h.2.1 (by simpa using q)
 ·unfold Cf;simp only[Ne.symm hi,if_false];intro q;obtain⟨v6,a,c⟩:=h.2.2 (by simpa using q);exact⟨v6,by rw[b.block _ hlt];exact a,c.wrh (EN.of_below b)⟩
theorem Th.put {v6:aB} (h:Th w W d u k T n L w') (hr:ww.heap[w.heap.size+1]?=aE (aJ (Fn d u k v6) 67 (0,0))) (hw:Wr (w.heap.size+1) w' ww) (hc:T9 w.heap.size w' v6 T n):Th w W d u k T n (Cf L 8) ww:=
 ⟨h.1.trans hw.wrH,λq=>by unfold Cf at q;simp at q,λ_=>⟨v6,hr,hc.wrh hw.wrH⟩⟩
end
theorem EN.row8 {R g:Nat} {w w':aC} {t:TypeId} {bs:List Int} (h:EN R w w') (hr:EF w g t bs) (hg:g≠R):EF w' g t bs:=by
 unfold EF;rw[h.block g hr.lt hg];exact hr
theorem At.wrh9 {w W w':aC} {a:Option Addr} {T:List Int} (h:At aI w a T) (hb:Below w.heap.size w W) (hw:EN (w.heap.size+1) W w'):At aI w' a T:=by
 rcases h with h|⟨b,off,rfl,hl,hc⟩
 ·exact .inl h
 ·refine .inr ⟨b,off,rfl,AH hb.size hw.size,λi hi=>?_⟩;rw[Ai (a:=⟨b,off+i,aA⟩) (w:=W) (hw.block b (AG hb.size) AJ),hb.cell (p:=⟨b,off+i,aA⟩) hl];exact hc i hi
theorem K8 (aD aU aT:Option Addr) (nD cD nU cU nT cT:Nat) (D U:List Int) (k:Int) (T:List Int) (w:aC) (hD:D.length=nD) (hU:U.length=nU) (hT:T.length=nT*2) (mD:nD<=1048576) (mU:nU<=1048576) (mT:nT<=1048576)
  (haD:At aI w aD D) (haU:At aI w aU U) (haT:At aI w aT T) (hnil:aT=aA->nT=0/\cT=0) (hk0:-9223372036854775808<=k) (hk1:k<9223372036854775808) :
  Calls tP 29 #[aH #[Z7 aD nD cD,Z7 aU nU cU,Z8 aI k,Z7 aT nT cT]] w (Ze w D U k T nT):=by
 have HE0:AO (NT w #[Z7 aD nD cD,Z7 aU nU cU,Z8 aI k,Z7 aT nT cT] ((w.alloc (aJ #[Z7 aD nD cD,Z7 aU nU cU,Z8 aI k,Z7 aT nT cT] 33)).alloc (aJ Tryz.zeroCells67 67))):=by
  refine⟨(Cg.alloc Cl _).alloc AL _,?_,?_⟩
  ·rw[A5 _ _ w.heap.size AL];exact AX w _
  ·have:=AX (w.alloc (aJ #[Z7 aD nD cD,Z7 aU nU cU,Z8 aI k,Z7 aT nT cT] 33)) (aJ Tryz.zeroCells67 67)
   rwa [show(w.alloc (aJ #[Z7 aD nD cD,Z7 aU nU cU,Z8 aI k,Z7 aT nT cT] 33)).heap.size=w.heap.size+1 by simp] at this
 have HAD:AO (At aI w aD D):=haD;have HAU:AO (At aI w aU U):=haU;have HAT:AO (At aI w aT T):=haT;have HNT:AO (T.length=nT*2/\nT<=1048576/\(aT=aA->nT=0/\cT=0)):=⟨hT,mT,hnil⟩
 have HLN:AO (D.length=nD/\U.length=nU):=⟨hD,hU⟩
 clear haD haU haT hT hnil hD hU;go_enter func29,ntmps29;go_wp2_with fail;generalize ((w.alloc (aJ #[Z7 aD nD cD,Z7 aU nU cU,Z8 aI k,Z7 aT nT cT] 33)).alloc (aJ Tryz.zeroCells67 67))=w0 at *;refine(KN aD nD cD D _ HLN.o.1 mD (HAD.o.below HE0.o.below)).mono ?_;rintro e w1 ⟨db,rfl,dl,dby,dset,b1⟩;have HE1:AO (NT w #[Z7 aD nD cD,Z7 aU nU cU,Z8 aI k,Z7 aT nT cT] w1):=HE0.o.call b1;clear b1 HE0;go_wp2_with (first
  |(refine IN rfl (aM 4) (aM 12) rfl db rfl rfl dl rfl ?_)
  |fail)
 intro w2 hr2 hb2;have HE2:AO (NT w #[Z7 aD nD cD,Z7 aU nU cU,Z8 aI k,Z7 aT nT cT] w2):=HE1.o.call hb2;have HRD2:AO (EF w2 w1.heap.size 65 db):=hr2;have hGd:w.heap.size+1<w1.heap.size:=HE1.o.lt2;have c1:w2.cell? ⟨w.heap.size,1,aA⟩=aE (Z7 aU nU cU):=by rw[AA HE2.o.box 1];rfl
 clear hr2 hb2 HE1;generalize w1.heap.size=Gd at *;go_wp2_with fail;refine(KN aU nU cU U _ HLN.o.2 mU (HAU.o.below HE2.o.below)).mono ?_;rintro e w3 ⟨ub,rfl,ul,uby,uset,b3⟩;have HE3:AO (NT w #[Z7 aD nD cD,Z7 aU nU cU,Z8 aI k,Z7 aT nT cT] w3):=HE2.o.call b3;have HRD3:AO (EF w3 Gd 65 db):=HRD2.o.low b3 HRD2.o.lt;clear b3 HE2 HRD2 c1;go_wp2_with (first
  |(refine IN rfl (aM 6) (aM 18) rfl ub rfl rfl ul rfl ?_)
  |fail)
 intro W hr4 hb4;have HEV:AO (NT w #[Z7 aD nD cD,Z7 aU nU cU,Z8 aI k,Z7 aT nT cT] W):=HE3.o.call hb4;have HRD:AO (EF W Gd 65 db):=HRD3.o.low hb4 HRD3.o.lt;have HRU:AO (EF W w3.heap.size 65 ub):=hr4;have hGu:w.heap.size+1<w3.heap.size:=HE3.o.lt2;have c0:W.cell? ⟨w.heap.size,0,aA⟩=aE (Z7 aD nD cD):=by rw[AA HEV.o.box 0];rfl
 have c1:W.cell? ⟨w.heap.size,1,aA⟩=aE (Z7 aU nU cU):=by rw[AA HEV.o.box 1];rfl
 have c2:W.cell? ⟨w.heap.size,2,aA⟩=aE (Z8 aI k):=by rw[AA HEV.o.box 2];rfl
 have c3:W.cell? ⟨w.heap.size,3,aA⟩=aE (Z7 aT nT cT):=by rw[AA HEV.o.box 3];rfl
 clear hr4 hb4 HE3 HRD3;generalize w3.heap.size=Gu at *;have HLD:AO (db.length=32/\ub.length=32):=⟨dl,ul⟩
 have HDS:AO (Dk D->Dg db (λv=>(v:Int)∈D)):=dset;have HUS:AO (Dk U->Dg ub (λv=>(v:Int)∈U)):=uset;have HGD:AO (Gd≠w.heap.size+1):=by show _≠_;omega
 have HGU:AO (Gu≠w.heap.size+1):=by show _≠_;omega
 have HSZd:AO ((tP.info? 65).map (·.size)=aE ((db.map (Value.int Z9)).toArray).size):=by show _=_;rw[Tryz.sizeSS];simp[dl]
 have HSZu:AO ((tP.info? 65).map (·.size)=aE ((ub.map (Value.int Z9)).toArray).size):=by show _=_;rw[Tryz.sizeSS];simp[ul]
 clear dl ul dset uset dby uby;cases hsD:Hl D with
 |false=>
  have HPD:AO (¬ Dk D):=λh=>by rw[Fv h] at hsD;cases hsD
  have HRS:AO (W.heap[w.heap.size+1]?=aE (aJ Tryz.zeroCells67 67 (0,0))):=HEV.o.res;have HFB:AO (FL D U k T nT=false):=EQ (λh=>HPD.o h.1)
  go_upto_region 4 with fail
  go_wp2_with (first
   |(refine EA (aM 6) rfl (by simp[Region.wanted,yielded]) ?_)
   |(refine AE 67 (aM 2) (aM 32) (w.heap.size+1) Tryz.zeroCells67 67 HRS.o Tryz.sizeBook rfl EK ?_)
   |fail)
  refine Ab (v:=.tuple #[aH Tryz.zeroCells67,aG false]) (ER rfl _ _ (w.heap.size+1) _ _ rfl rfl (AB HRS.o) Tryz.sizeBook) rfl ?_;exact⟨Tryz.zeroCells67,by rw[HFB.o],Fj,EK,HEV.o.below.trans ((Wr.setRow _ _ _).below AJ),λh=>by rw[HFB.o] at h;cases h⟩
 |true=>
 cases hsU:Hl U with
 |false=>
  have HPU:AO (¬ Dk U):=λh=>by rw[Fv h] at hsU;cases hsU
  have HRS:AO (W.heap[w.heap.size+1]?=aE (aJ Tryz.zeroCells67 67 (0,0))):=HEV.o.res;have HFB:AO (FL D U k T nT=false):=EQ (λh=>HPU.o h.2.2.1)
  go_upto_region 4 with fail
  go_wp2_with (first
   |(refine EA (aM 6) rfl (by simp[Region.wanted,yielded]) ?_)
   |(refine AE 67 (aM 2) (aM 32) (w.heap.size+1) Tryz.zeroCells67 67 HRS.o Tryz.sizeBook rfl EK ?_)
   |fail)
  refine Ab (v:=.tuple #[aH Tryz.zeroCells67,aG false]) (ER rfl _ _ (w.heap.size+1) _ _ rfl rfl (AB HRS.o) Tryz.sizeBook) rfl ?_;exact⟨Tryz.zeroCells67,by rw[HFB.o],Fj,EK,HEV.o.below.trans ((Wr.setRow _ _ _).below AJ),λh=>by rw[HFB.o] at h;cases h⟩
 |true=>
 have HPD:AO (Dk D):=(IJ D).1 hsD;have HPU:AO (Dk U):=(IJ U).1 hsU;by_cases h16:nD<=16
 ·have h16':(nD:Int)<=16:=AJ
  by_cases hk:k<0
  ·have HK9:AO (k<0):=hk;have hkb:decide (k<0)=true:=Al hk;clear hk hk0 hk1 c1 c3;have HRS:AO (W.heap[w.heap.size+1]?=aE (aJ Tryz.zeroCells67 67 (0,0))):=HEV.o.res;have HFB:AO (FL D U k T nT=false):=EQ (λh=>AH h.2.2.2.1 HK9.o)
   go_upto_region 6 with fail
   go_wp2_with (first
    |(refine EA (aM 6) rfl (by simp[Region.wanted,yielded]) ?_)
    |(refine AE 67 (aM 2) (aM 55) (w.heap.size+1) Tryz.zeroCells67 67 HRS.o Tryz.sizeBook rfl EK ?_)
    |fail)
   refine Ab (v:=.tuple #[aH Tryz.zeroCells67,aG false]) (ER rfl _ _ (w.heap.size+1) _ _ rfl rfl (AB HRS.o) Tryz.sizeBook) rfl ?_;exact⟨Tryz.zeroCells67,by rw[HFB.o],Fj,EK,HEV.o.below.trans ((Wr.setRow _ _ _).below AJ),λh=>by rw[HFB.o] at h;cases h⟩
  ·by_cases hka:k=(nU:Int)-nT
   ·have HKA:AO (k+nT=U.length):=by show _=_;rw[HLN.o.2];omega
    have hka':(k == (nU:Int)-nT)=true:=by simpa using hka
    have HK9:AO (0<=k):=by show _<=_;omega
    have HKE:AO (k=(nU:Int)-nT):=hka;have hkb:decide (k<0)=false:=Af hk;clear hka hk hk0 hk1;have HCT:=Lv aT nT cT U T ub W HNT.o.1 HNT.o.2.1 (HAT.o.below HEV.o.below) HPU.o (HUS.o HPU.o);go_wp2_with (first
     |(refine K7 (aM 6) rfl (by first|(simp[Region.wanted,yielded];done)|(simp[Region.wanted,yielded];exact HKE.o)) Gu ub rfl HRU.o HLD.o.2 ?_)
     |fail)
    refine HCT.mono ?_;rintro e W2 ⟨rfl,hb7⟩;cases htb:K2 U T nT with
    |false=>
     have HPT:AO (¬ Lt U T nT):=λh=>by rw[Lu h] at htb;cases htb
     have HEV2:AO (NT w #[Z7 aD nD cD,Z7 aU nU cU,Z8 aI k,Z7 aT nT cT] W2):=HEV.o.call hb7;clear HEV hb7 HCT;have HRS:AO (W2.heap[w.heap.size+1]?=aE (aJ Tryz.zeroCells67 67 (0,0))):=HEV2.o.res;have HFB:AO (FL D U k T nT=false):=EQ (λh=>HPT.o h.2.2.2.2.2)
     go_upto_region 6 with fail
     go_wp2_with (first
      |(refine EA (aM 6) rfl (by simp[Region.wanted,yielded]) ?_)
      |(refine AE 67 (aM 2) (aM 55) (w.heap.size+1) Tryz.zeroCells67 67 HRS.o Tryz.sizeBook rfl EK ?_)
      |fail)
     refine Ab (v:=.tuple #[aH Tryz.zeroCells67,aG false]) (ER rfl _ _ (w.heap.size+1) _ _ rfl rfl (AB HRS.o) Tryz.sizeBook) rfl ?_;exact⟨Tryz.zeroCells67,by rw[HFB.o],Fj,EK,HEV2.o.below.trans ((Wr.setRow _ _ _).below AJ),λh=>by rw[HFB.o] at h;cases h⟩
    |true=>
     have HPT:AO (Lt U T nT):=by
      show Lt U T nT
      by_cases h:Lt U T nT
      ·exact h
      ·rw[K3 h] at htb;cases htb
     have HYE:AO (FL D U k T nT=true):=Oe ⟨HPD.o,by rw[HLN.o.1];exact h16,HPU.o,HK9.o,HKA.o,HPT.o⟩;have HSD:AO (Dg db (λv=>(v:Int)∈D)):=HDS.o HPD.o;have HSU:AO (Dg ub (λv=>(v:Int)∈U)):=HUS.o HPU.o;have HEV2:AO (NT w #[Z7 aD nD cD,Z7 aU nU cU,Z8 aI k,Z7 aT nT cT] W2):=HEV.o.call hb7;have HRD2:AO (EF W2 Gd 65 db):=HRD.o.low hb7 HRD.o.lt;have HRU2:AO (EF W2 Gu 65 ub):=HRU.o.low hb7 HRU.o.lt;clear HEV hb7 HCT HRD HRU c0 c1 c2 c3 hka' hkb;go_wp2_with fail;refine Ag AM ?_;refine DE (λ_ a b=>EN (w.heap.size+1) a b) (frame:=(λ(a b c d e f g h i j k l m n o p q r s u v w x y z A B C D E F G H I J K L M N O P Q R S T U V W X Y Z a0 a1 a2 a3:aB)=>λ(t:Nat->aB)=>({ tmps:=List.toArray [a,b,c,t 9,d,e,f,g,h,i,j,k,l,m,n,o,p,q,r,s,u,v,w,x,y,z,A,B,C,D,E,F,G,H,I,J,K,L,M,N,O,P,Q,R,S,T,U,V,W,X,Y,Z,a0,a1,a2,a3,t 0,t 1,t 2,t 3,t 4,t 5,t 6,t 7],defers:=[] }:Act)) _ _ _ _ _ _ _ _ _ _ _ _ _ _ _ _ _ _ _ _ _ _ _ _ _ _ _ _ _ _ _ _ _ _ _ _ _ _ _ _ _ _ _ _ _ _ _ _ _ _ _ _ _ _ _)
      (Ext:=Th w W2 db ub k T nT) (Good:=λi L w' v=>if i=0 then v=aH (db.map (Value.int Z9)).toArray else if i=1 then v=aH (ub.map (Value.int Z9)).toArray else if i=2 then v=aF (aE ⟨w.heap.size,2,aA⟩) else if i=3 then v=Z8 aI k else if i=4 then v=aF (aE ⟨w.heap.size,3,aA⟩) else if i=5 then v=Z7 aT nT cT else if i=6 then T9 w.heap.size w' v T nT else if i=7 then Xi w.heap.size w' v db ub k T nT else if i=8 then L 8=true else if i=9 then v=aG true else True) ?hstab AM ?hop ?hdone _ _ ((λ(x0 x1 x2 x3 x4 x5 x6 x7 x9:aB)=>λ(i:Nat)=>if i=0 then x0 else if i=1 then x1 else if i=2 then x2 else if i=3 then x3 else if i=4 then x4 else if i=5 then x5 else if i=6 then x6 else if i=7 then x7 else if i=9 then x9 else undef) _ _ _ _ _ _ _ _ _) _ AL ?ext ?start AL
     case start=>intro i hi h;exact absurd h Et
     case ext=>exact⟨⟨rfl,rfl,rfl,Ac _,λ_ _ _=>rfl⟩,λ_=>HEV2.o.res,λh=>by simp at h⟩
     case hstab=>
      intro j L w9 w' i v hM _ _ h;by_cases h6:j=6
      ·subst h6;simp at h |-;exact h.wrh hM
      by_cases h7:j=7
      ·subst h7;simp at h |-;exact h.wrh hM
      by_cases h8:j=8
      ·subst h8;simp at h |-;unfold Cf;simp[h]
      simp only[if_neg h6,if_neg h7,if_neg h8] at h |-;exact h
     case hop=>
      intro i o L t w' ho hLi hx hdep K hK;have hi:i<10:=(AR.1 ho).1;obtain rfl|rfl|rfl|rfl|rfl|rfl|rfl|rfl|rfl|rfl:i=0\/i=1\/i=2\/i=3\/i=4\/i=5\/i=6\/i=7\/i=8\/i=9:=AJ
      all_goals(simp at ho;subst ho)
      ·clear hdep;have hK':=hK w' (aH (db.map (Value.int Z9)).toArray) AL (hx.ref 0 AK) (EN.refl _ _);have hr:=hx.1.row8 HRD2.o HGD.o;clear hK;rw[AP AN];refine BR 65 (aM 4) rfl Gd rfl 65 _ (0,0) _ hr underlying65 rfl HSZd.o ?_;go_simp;simpa[Ce] using hK'
      ·clear hdep;have hK':=hK w' (aH (ub.map (Value.int Z9)).toArray) AL (hx.ref 1 AK) (EN.refl _ _);have hr:=hx.1.row8 HRU2.o HGU.o;clear hK;rw[AP AN];refine BR 65 (aM 6) rfl Gu rfl 65 _ (0,0) _ hr underlying65 rfl HSZu.o ?_;go_simp;simpa[Ce] using hK'
      ·clear hdep;have hK':=hK w' (aF (aE ⟨w.heap.size,2,aA⟩)) AL (hx.ref 2 AK) (EN.refl _ _);clear hK;rw[AP AN];go_simp;simpa[Ce] using hK'
      ·have d2:t 2=aF (aE ⟨w.heap.size,2,aA⟩):=by simpa using hdep ⟨2,.data⟩ AL rfl
       clear hdep;have cc:w'.cell? ⟨w.heap.size,2,aA⟩=aE (Z8 aI k):=by rw[Ai (a:=⟨w.heap.size,2,aA⟩) (w:=W2) (hx.1.block _ HEV2.o.lt (by show w.heap.size≠w.heap.size+1;omega)),AA HEV2.o.box 2];rfl
       have hK':=hK w' (Z8 aI k) AL (hx.ref 3 AK) (EN.refl _ _);clear hK;rw[AP AN];go_simp;rw[HKE.o] at hK';simpa[Ce,d2] using hK'
      ·clear hdep;have hK':=hK w' (aF (aE ⟨w.heap.size,3,aA⟩)) AL (hx.ref 4 AK) (EN.refl _ _);clear hK;rw[AP AN];go_simp;simpa[Ce] using hK'
      ·have d4:t 4=aF (aE ⟨w.heap.size,3,aA⟩):=by simpa using hdep ⟨4,.data⟩ AL rfl
       clear hdep;have cc:w'.cell? ⟨w.heap.size,3,aA⟩=aE (Z7 aT nT cT):=by rw[Ai (a:=⟨w.heap.size,3,aA⟩) (w:=W2) (hx.1.block _ HEV2.o.lt (by show w.heap.size≠w.heap.size+1;omega)),AA HEV2.o.box 3];rfl
       have hK':=hK w' (Z7 aT nT cT) AL (hx.ref 5 AK) (EN.refl _ _);clear hK;rw[AP AN];go_simp;simpa[Ce,d4] using hK'
      ·have d5:t 5=Z7 aT nT cT:=by simpa using hdep ⟨5,.data⟩ AL rfl
       clear hdep;have A:=RA aT nT cT T w' HNT.o.1 HNT.o.2.1 (HAT.o.wrh9 (HEV2.o.below) hx.1) HNT.o.2.2;have hK':∀ ww v,T9 w.heap.size ww v T nT->Below w'.heap.size w' ww->K _ ww:=λww v hv hb=>hK ww v (by simpa using hv) (hx.low 6 AK HEV2.o hb) (EN.of_below hb)
       clear hK;rw[AP AN];go_simp;try simp only[d5]
       refine A.mono ?_;rintro e w9 ⟨v9,rfl,hv9,ho9,hb9⟩;have hK2:=hK' w9 v9 ⟨w'.heap.size,AH hx.1.size HEV2.o.lt2,hv9,ho9⟩ hb9;clear hK' A hv9 ho9 hb9;go_simp;simpa[Ce,d5] using hK2
      ·have d0:t 0=aH (db.map (Value.int Z9)).toArray:=by simpa using hdep ⟨0,.data⟩ AL rfl
       have d1:t 1=aH (ub.map (Value.int Z9)).toArray:=by simpa using hdep ⟨1,.data⟩ AL rfl
       have d3:t 3=Z8 aI k:=by simpa using hdep ⟨3,.data⟩ AL rfl
       have f6:T9 w.heap.size w' (t 6) T nT:=by simpa using hdep ⟨6,.data⟩ AL rfl
       clear hdep;obtain⟨B9,hB9,hv9,ho9⟩:=f6;have hK':=hK w' (aH (Fn db ub k (t 6))) (by simpa using⟨t 6,rfl,B9,hB9,hv9,ho9⟩) (hx.ref 7 AK) (EN.refl _ _);clear hK;rw[AP AN];refine RD rfl d0 d1 d3 (show _=t 6 from rfl) HLD.o.1 HLD.o.2 (Pn hv9) ?_;simpa[Ce,Act.put] using hK'
      ·have f7:Xi w.heap.size w' (t 7) db ub k T nT:=by simpa using hdep ⟨7,.data⟩ AL rfl
       clear hdep;obtain⟨v9,e9,B9,hB9,hv9,ho9⟩:=f7;have hrs:=hx.2.1 hLi;have hK':∀ ww,ww.heap[w.heap.size+1]?=aE (aJ (Fn db ub k v9) 67 (0,0))->Wr (w.heap.size+1) w' ww->K _ ww:=λww hr hw=>hK ww undef (by simp[Cf]) (hx.put hr hw ⟨B9,hB9,hv9,ho9⟩) hw.wrH
       clear hK;rw[AP AN];refine Bt 67 (aM 2) (aM 63) rfl (w.heap.size+1) (Fn db ub k v9) rfl e9 67 _ hrs (by rw[IM HLD.o.1 HLD.o.2];exact Tryz.sizeBook) (by rw[IM HLD.o.1 HLD.o.2];exact Fj) (Od _ _ _ ho9) ?_;have hK2:=hK' _ (AB hrs) (Wr.setRow _ _ _);clear hK';simpa[Ce,Act.put] using hK2
      ·clear hdep;have hK':=hK w' (aG true) AL (hx.ref 9 AK) (EN.refl _ _);clear hK;rw[AP AN];go_simp;simpa[Ce] using hK'
     case hdone=>
      intro L t w9 hx hg;have l8:L 8=true:=by simpa using hg 8 AK
      have d9:t 9=aG true:=by simpa using hg 9 AK
      clear hg;obtain⟨v9,hr9,B9,hB9,hv9,ho9⟩:=hx.2.2 l8;have HF:AO (Ze w D U k T nT (aK (.tuple #[aH (Fn db ub k v9),aG true])) w9):=
       ⟨Fn db ub k v9,by rw[HYE.o],IM HLD.o.1 HLD.o.2 _ _,Od _ _ _ ho9,(HEV2.o.below).trans (hx.1.below w.heap.size AJ HEV2.o.below.size),λ_=>⟨db,ub,v9,rfl,HSD.o,HSU.o,hv9.mono AJ⟩⟩
      have HR9:AO (w9.heap[w.heap.size+1]?=aE (aJ (Fn db ub k v9) 67 (0,0))):=hr9;have HZ9:AO ((tP.info? 67).map (·.size)=aE (Fn db ub k v9).size):=by show _=_;rw[IM HLD.o.1 HLD.o.2];exact Tryz.sizeBook
      simp only[d9];clear hx hr9 hv9 ho9 d9;go_wp2_with fail;exact Ab (v:=.tuple #[aH (Fn db ub k v9),aG true]) (ER rfl _ _ (w.heap.size+1) _ _ rfl rfl HR9.o HZ9.o) rfl HF.o
   ·have hka':(k == (nU:Int)-nT)=false:=by simpa using hka
    have HKN:AO (¬ k=(nU:Int)-nT):=hka;have hkb:decide (k<0)=false:=Af hk;clear hka hk hk0 hk1;have HRS:AO (W.heap[w.heap.size+1]?=aE (aJ Tryz.zeroCells67 67 (0,0))):=HEV.o.res;have HFB:AO (FL D U k T nT=false):=EQ (λh=>by have:=h.2.2.2.2.1;rw[HLN.o.2] at this;exact HKN.o AJ)
    go_upto_region 6 with fail
    go_wp2_with (first
     |(refine EA (aM 6) rfl (by simp[Region.wanted,yielded]) ?_)
     |(refine AE 67 (aM 2) (aM 55) (w.heap.size+1) Tryz.zeroCells67 67 HRS.o Tryz.sizeBook rfl EK ?_)
     |fail)
    refine Ab (v:=.tuple #[aH Tryz.zeroCells67,aG false]) (ER rfl _ _ (w.heap.size+1) _ _ rfl rfl (AB HRS.o) Tryz.sizeBook) rfl ?_;exact⟨Tryz.zeroCells67,by rw[HFB.o],Fj,EK,HEV.o.below.trans ((Wr.setRow _ _ _).below AJ),λh=>by rw[HFB.o] at h;cases h⟩
 ·have h16':16<(nD:Int):=AJ
  have HRS:AO (W.heap[w.heap.size+1]?=aE (aJ Tryz.zeroCells67 67 (0,0))):=HEV.o.res;have HFB:AO (FL D U k T nT=false):=EQ (λh=>by have:=h.2.1;rw[HLN.o.1] at this;omega)
  go_upto_region 4 with fail
  go_wp2_with (first
   |(refine EA (aM 6) rfl (by simp[Region.wanted,yielded]) ?_)
   |(refine AE 67 (aM 2) (aM 32) (w.heap.size+1) Tryz.zeroCells67 67 HRS.o Tryz.sizeBook rfl EK ?_)
   |fail)
  refine Ab (v:=.tuple #[aH Tryz.zeroCells67,aG false]) (ER rfl _ _ (w.heap.size+1) _ _ rfl rfl (AB HRS.o) Tryz.sizeBook) rfl ?_;exact⟨Tryz.zeroCells67,by rw[HFB.o],Fj,EK,HEV.o.below.trans ((Wr.setRow _ _ _).below AJ),λh=>by rw[HFB.o] at h;cases h⟩
open Classical in
noncomputable def DO (v:Int) (xs:List Int):Bool:=decide (v∈xs)
theorem Hc {v:Int} {xs:List Int} (h:¬ v∈xs):DO v xs=false:=by unfold DO;simp[h]
theorem Fb {v:Int} {xs:List Int} (h:v∈xs):DO v xs=true:=by unfold DO;simp[h]
theorem RE {xs:List Int} {k:Nat} (h:k<xs.length):xs.getD k 0∈xs:=by
 rw[AS,Av h];exact Bl h
theorem Dd (a:Option Addr) (n cap:Nat) (xs:List Int) (v:Int) (w:aC) (hn:xs.length=n) (hm:n<=1048576) (ha:At aI w a xs) :
  Calls tP 39 #[Z7 a n cap,Z8 aI v] w λe w'=>e=aK (aG (DO v xs))/\w'=w:=by
 have HNX:AO (xs.length=n):=hn;have HA:AO (At aI w a xs):=ha;clear hn ha;go_enter func39,ntmps39;go_wp2
 go_loop [5] (λi=>∃ k:Nat,k<=n/\i=Z8 aI k/\AO (∀ j,j<k->xs.getD j 0≠v)) (λi=>n-(intOf i).toNat)
 case atStart=>exact⟨0,Au _,rfl,λj hj=>AJ⟩
 case round=>
  obtain⟨k,hk,rfl,hno⟩:=hrel;by_cases hlt:k<n
  ·have hlt':(k:Int)<n:=AJ
   obtain⟨b,off,ea,hb,hc⟩:=HA.o.get (AG HNX.o);subst ea;have hck:=hc k (AG HNX.o);by_cases he:xs.getD k 0=v
   ·have HM:AO (DO v xs=true):=Fb (by rw[<-he];exact RE (AG HNX.o));rw[he] at hck;clear hc he hb;go_wp2
    go_ret
    exact⟨by rw[HM.o];rfl,rfl⟩
   ·have HN:AO (∀ j,j<k+1->xs.getD j 0≠v):=λj hj=>by
     by_cases hjk:j<k
     ·exact hno.o j hjk
     ·have:j=k:=AJ
      rw[this];exact he
    have he':(xs.getD k 0 == v)=false:=by simpa using he
    clear hc hb hno he;generalize xs.getD k 0=x at *;go_wp2
    go_round
    case rel=>exact⟨k+1,AJ,by go_num,HN⟩
    case measure=>simp[intOf];omega
  ·have hlt':¬ ((k:Int)<n):=AJ
   have HM:AO (DO v xs=false):=Hc (λh=>by
    obtain⟨i,hi,rfl⟩:=Br h;have:=hno.o i (AG HNX.o);rw[AS,Av hi] at this;exact this rfl)
   go_wp2
   go_ret
   exact⟨by rw[HM.o];rfl,rfl⟩
theorem It (a:Option Addr) (n cap:Nat) (xs:List Int) (w:aC) (hn:xs.length=n) (hm:n<=1048576) (ha:At aI w a xs) :
  Calls tP 38 #[Z7 a n cap] w λe w'=>e=aK (aG (Hl xs))/\∃ q,w'=w.drewN q:=by
 have HNX:AO (xs.length=n):=hn;have HA:AO (At aI w a xs):=ha;clear hn ha;go_enter func38,ntmps38;go_wp2
 go_loopw [3] (λi wr=>∃ k:Nat,k<=n/\i=Z8 aI k/\AO (∀ j,j<k->XW xs j)/\AO (∃ q,wr=w.drewN q)) (λi _=>n-(intOf i).toNat)
 case atStart=>exact⟨0,Au _,rfl,λj hj=>AJ,⟨0,rfl⟩⟩
 case round=>
  obtain⟨k,hk,rfl,hno,hwq⟩:=hrel;obtain⟨q,rfl⟩:=hwq.o;clear hwq;by_cases hlt:k<n
  ·have hlt':(k:Int)<n:=AJ
   obtain⟨b,off,ea,hb,hc⟩:=HA.o.get (AG HNX.o);subst ea;have hck:=hc k (AG HNX.o);by_cases h0:xs.getD k 0<0
   ·have HS:AO (Hl xs=false):=IK (λh=>by have:=(h k (by have:=HNX.o;omega)).1;omega);clear hc hb hno;generalize xs.getD k 0=x at *;go_wp2_with fail
    go_quiet (fail)
    go_wp2
    go_ret
    exact⟨by rw[HS.o];rfl,q+nq,dN _ _ _⟩
   ·have h0':decide (xs.getD k 0<0)=false:=Af h0;by_cases h1:256<=xs.getD k 0
    ·have HS:AO (Hl xs=false):=IK (λh=>by have:=(h k (by have:=HNX.o;omega)).2.1;omega);clear hc hb hno h0;generalize xs.getD k 0=x at *;go_wp2_with fail
     go_quiet (fail)
     go_wp2
     go_ret
     exact⟨by rw[HS.o];rfl,q+nq,dN _ _ _⟩
    ·have h1':decide (256<=xs.getD k 0)=false:=Af h1;by_cases hk0:0<k
     ·obtain⟨m,rfl⟩:∃ m,k=m+1:=⟨k-1,AJ⟩
      have hck1:=hc m (AG HNX.o);have hk0':(0:Int)<((m+1:Nat):Int):=AJ
      by_cases h2:xs.getD (m+1) 0<=xs.getD m 0
      ·have HS:AO (Hl xs=false):=IK (λh=>by have:=(h (m+1) (by have:=HNX.o;omega)).2.2 AJ;rw[CF] at this;omega);clear hc hb hno h0 h1 hk0;generalize xs.getD (m+1) 0=x at *;generalize xs.getD m 0=y at *;go_wp2_with fail
       go_quiet (fail)
       go_wp2
       go_ret
       exact⟨by rw[HS.o];rfl,q+nq,dN _ _ _⟩
      ·have h2':decide (xs.getD (m+1) 0<=xs.getD m 0)=false:=Af h2;have HN:AO (∀ j,j<m+1+1->XW xs j):=λj hj=>by
        by_cases hjk:j<m+1
        ·exact hno.o j hjk
        ·have:j=m+1:=AJ
         rw[this];exact⟨AJ,AJ,λ_=>by rw[CF];omega⟩
       clear hc hb hno h0 h1 hk0 h2;generalize xs.getD (m+1) 0=x at *;generalize xs.getD m 0=y at *;go_wp2_with fail
       go_quiet (fail)
       go_wp2;go_roundw
       case rel=>exact⟨m+1+1,AJ,by go_num,HN,⟨q+nq,rfl⟩⟩
       case measure=>simp[intOf];omega
     ·have hkd:decide (0<k)=false:=Af AJ;have HN:AO (∀ j,j<k+1->XW xs j):=λj hj=>by
       have:j=k:=AJ
       rw[this];exact⟨AJ,AJ,λh=>AJ⟩
      clear hc hb hno h0 h1 hk0;generalize xs.getD k 0=x at *;go_wp2_with fail
      go_quiet (fail)
      go_wp2;go_roundw
      case rel=>exact⟨k+1,AJ,by go_num,HN,⟨q+nq,rfl⟩⟩
      case measure=>simp[intOf];omega
  ·have hlt':¬ ((k:Int)<n):=AJ
   have HS:AO (Hl xs=true):=Fv (λi hi=>hno.o i (AG HNX.o));go_wp2
   go_ret
   exact⟨by rw[HS.o];rfl,q,rfl⟩
theorem Tryz.infoI64q:(tP.info? 2).map (λi=>(i.zero,i.size,i.bytes))=aE (aE (Z8 aI 0),1,8):=AM
def Iow (B:Nat) (w:aC) (v:aB) (xs:List Int):Prop:=w.ownsRow B 2 1 v xs.length (xs.map (Value.int aI))
theorem Iow.nil (B:Nat) (w:aC):Iow B w (Z7 aA 0 0) []:=⟨AL,.inl ⟨rfl,rfl⟩⟩
theorem Iow.ownBlock {B:Nat} {w:aC} {v:aB} {xs:List Int} (h:Iow B w v xs):∀ k,v.ownBlock=aE k->B<=k:=λk hk=>by
 rcases h.2 with⟨h',_⟩|⟨g,c,cur,h',hb,_⟩
 ·rw[h'] at hk;simp[Value.ownBlock] at hk
 ·rw[h'] at hk;simp[Value.ownBlock] at hk;omega
theorem Fk (w:aC) {ops:Array Oper} {rest:List Oper} {o:Oper} {a:Act} {Q:Exit->Act->aC->Prop} (hg:o.guard=aA) (sx x:Operand)
  (hop:o.op=Op.call { callee:=Callee.builtin Builtin.append,args:=#[sx,x],argTypes:=#[22,22] }) (B:Nat) (v:aB) (xs:List Int) (hs:a.eval sx=v) (hown:Iow B w v xs)
  (wb:aC) (z:Int) (hw:w=wb.alloc (aJ #[Z8 aI z] 2)) (hx:a.eval x=Z7 (aE ⟨wb.heap.size,0,aA⟩) 1 1) (hm:xs.length<=1048576) (hB:B<=w.heap.size)
  (hK:∀ v' w',Iow B w' v' (xs++[z])->Below B w w'->wpList tP ops Q rest (a.put o.dst v') w') :
  wpList tP ops Q (o::rest) a w:=by
 obtain⟨i0,hi,hz0,hz1,hz2⟩:=Bh Tryz.infoI64q;refine wpList_append_own_at w hg sx x 22 hop B 2 i0 (Z8 aI 0) 1 8 underlying22 hi hz0 hz1 hz2 rfl AK v xs.length _ hs hown ⟨wb.heap.size,0,aA⟩ 1 1 [Z8 aI z] hx rfl (by rw[hw];exact cell_one_new wb _ _) (by simp[Value.oneCell']) (by unfold maxLen;omega) AJ hB ?_;intro v' w' h1 h2 _ _;refine hK v' w' ?_ (Cg.grown h2 hB hown.ownBlock);unfold Iow;rw[BS,Ak];exact h1
theorem Iow.alloc {B:Nat} {w:aC} {v:aB} {xs:List Int} (h:Iow B w v xs) (o:Obj):Iow B (w.alloc o) v xs:=World.ownsRow.alloc h _
structure RG (w:aC) (P:Nat->Bool) (k:Nat) (v:aB) (wr:aC):Prop where
 own:Iow w.heap.size wr v (De P k)
 below:Below w.heap.size w wr
theorem MF (g o:Nat) (bs:List Int) (P:Nat->Bool) (w:aC) (hb:∀ w',Below w.heap.size w w'->NP w' g o bs) (hs:Dg bs (λv=>P v=true)) :
  Calls tP 53 #[aF (aE ⟨g,o,aA⟩)] w λe w'=>∃ v,e=aK v/\Iow w.heap.size w' v (De P 256)/\Below w.heap.size w w':=by
 have HB:AO (∀ w',Below w.heap.size w w'->NP w' g o bs):=hb;have HS:AO (Dg bs (λv=>P v=true)):=hs;have H0:AO (RG w P 0 (Z7 aA 0 0) w):=⟨Iow.nil _ _,A9 _ _⟩
 clear hb hs;go_enter func53,ntmps53;go_wp2_with fail
 go_loopw [3,5] (λl i wr=>∃(k:Nat) (v:aB),k<=256/\i=Z8 aI k/\v=l/\RG w P k v wr) (λ_ i _=>256-(intOf i).toNat)
 case atStart=>exact⟨0,_,AJ,rfl,rfl,H0.o⟩
 case round=>
  clear H0;obtain⟨k,l,hk,rfl,rfl,hst⟩:=hrel;by_cases hlt:k<256
  ·have hlt':(k:Int)<256:=AJ
   have HST:AO (RG w P k l wr):=hst;have HQ:AO (P k=true↔(0<=(k:Int)/\(k:Int)<256/\P (k:Int).toNat=true)):=by
    show _↔_
    rw[Bq];exact⟨λh=>⟨AJ,AJ,h⟩,λh=>h.2.2⟩
   clear hst;go_wp2_with fail;refine(Fu g o k bs _ (P k) _ (HB.o _ HST.o.below) HS.o HQ.o).mono ?_;rintro e w2 ⟨rfl,rfl⟩;by_cases hp:P k=true
   ·have HN:AO (De P (k+1)=De P k++[(k:Int)]):=by show _=_;rw[FQ,AP hp]
    rw[hp];have HL:AO ((De P k).length<=1048576):=BG (JW P k) AJ;have HO:AO (Iow w.heap.size (w2.alloc (aJ #[Z8 aI (k:Int)] 2)) l (De P k)):=HST.o.own.alloc _;have HZ:AO (w.heap.size<=(w2.alloc (aJ #[Z8 aI (k:Int)] 2)).heap.size):=by
     show _<=_
     have:=HST.o.below.size;simp;omega
    clear hp HQ;go_wp2_with (first
     |(refine Fk _ rfl (aM 11) (aM 13) rfl w.heap.size _ (De P k) rfl HO.o w2 k rfl rfl HL.o HZ.o ?_)
     |fail)
    intro v' w3 h1 h2;have HF:AO (RG w P (k+1) v' w3):=⟨by rw[HN.o];exact h1,(HST.o.below.alloc HST.o.below.size _).trans h2⟩
    clear h1 h2 HO HZ HL;go_wp2;go_roundw
    case rel=>exact⟨k+1,_,AJ,by go_num,rfl,HF.o⟩
    case measure=>simp[intOf];omega
   ·have HF:AO (RG w P (k+1) l w2):=⟨by rw[FQ,AQ hp];exact HST.o.own,HST.o.below⟩
    rw[Bool.not_eq_true] at hp;rw[hp];clear hp HQ;go_wp2;go_roundw
    case rel=>exact⟨k+1,_,AJ,by go_num,rfl,HF.o⟩
    case measure=>simp[intOf];omega
  ·have hke:k=256:=AJ
   subst hke;have HF:AO (∃ v,aK l=aK v/\Iow w.heap.size wr v (De P 256)/\Below w.heap.size w wr):=⟨l,rfl,hst.own,hst.below⟩
   clear hst;go_wp2
   go_ret
   exact HF.o
theorem Of (x:Nat):I3 x<=8:=by
 unfold I3;exact BG (List.length_filter_le _ _) AL
theorem UA (T:ByteArray) (h:∀ y:Fin T.size,(T[y.val]).toNat=I3 y.val) (x:Nat) (hx:x<T.size):wrap64 ((T[x]).toNat:Int)=I3 x:=by
 have e:(T[x]).toNat=I3 x:=h ⟨x,hx⟩;rw[e];have:=Of x;unfold wrap64;omega
theorem Po (x:Nat) (hx:x<256) (w:aC):Calls tP 115 #[Z8 Z9 x] w λe w'=>e=aK (Z8 aI (I3 x))/\w'=w:=by
 have hx':(x:Int)<256:=AJ
 go_enter func115,ntmps115;go_wp2
 go_ret
 exact⟨congrArg (λz=>aK (Z8 aI z)) (UA _ (by decide +kernel) x _),rfl⟩
theorem RH (g o:Nat) (bs:List Int) (w:aC) (hb:NP w g o bs) :
  Calls tP 83 #[aF (aE ⟨g,o,aA⟩)] w λe w'=>e=aK (Z8 aI (GB bs 32))/\w'=w:=by
 have HB:AO (NP w g o bs):=hb;clear hb;go_enter func83,ntmps83;go_wp2_with fail
 go_loopw [3,7] (λs i wr=>∃ k:Nat,k<=32/\i=Z8 aI k/\s=Z8 aI (GB bs k)/\GB bs k<=8*k/\wr=w) (λ_ i _=>32-(intOf i).toNat)
 case atStart=>exact⟨0,AJ,rfl,rfl,Ac _,rfl⟩
 case round=>
  obtain⟨k,hk,rfl,rfl,hle,rfl⟩:=hrel;by_cases hlt:k<32
  ·have hlt':(k:Int)<32:=AJ
   obtain⟨h1,h2,h3⟩:=HB.o;obtain⟨c0,f0⟩:=h3 k hlt;obtain⟨x0,x1⟩:=h2.get k;have HS:AO (GB bs (k+1)=GB bs k+I3 (bs.getD k 0).toNat):=KQ bs k;obtain⟨x,hx⟩:=Aj x0;rw[hx] at c0 x1;have HX:AO ((bs.getD k 0).toNat=x):=by show _=_;rw[hx];exact Bq x
   have hx256:x<256:=AJ
   have hp8:I3 x<=8:=Of x;rw[HX.o] at HS;clear h1 h2 h3 hx x0 HX f0 x1;generalize GB bs k=s at *;go_wp2_with fail;refine(Po x hx256 _).mono ?_;rintro e w2 ⟨rfl,rfl⟩;generalize I3 x=p at *;go_wp2;go_roundw
   case rel=>exact⟨k+1,AJ,by go_num,by rw[HS.o,Int.natCast_add],AG HS.o,trivial⟩
   case measure=>simp[intOf];omega
  ·have hke:k=32:=AJ
   subst hke;go_wp2
   go_ret
   exact⟨rfl,rfl⟩
def K9 (w:aC) (v:Int) (e:Ending) (w':aC):Prop:=
 ∃ ms:List Int,ms.length=4/\G4 ms/\val 18446744073709551616 ms=v/\e=aK (aH (ms.map (Value.int .u64)).toArray)/\Below w.heap.size w w'
structure NO (w:aC) (zs:List Int) (k:Nat) (wr:aC):Prop where
 res:Ch wr w.heap.size 143 [0,0,0,0]
 row:∃ ns,ns.length=4/\Ch wr (w.heap.size+1) 143 ns/\G4 ns/\val 18446744073709551616 ns=val 256 (zs.take k)
 below:Below w.heap.size w wr
theorem EU (a b:Int) (k:Nat) (ha:0<=a) (ha':a<18446744073709551616) (hb:0<=b) (hb':b<2^k) (hb'':b<18446744073709551616) (q:Int) (hd:a=q*2^k):bits .or .u64 b a=b+a:=by
 have:=FX a b k ha ha' hb hb' hb'' q hd;obtain⟨a,rfl⟩:=Aj ha;obtain⟨b,rfl⟩:=Aj hb;rw[u64_or_nat a b AJ AJ] at this;rw[u64_or_nat b a AJ AJ,Nat.or_comm];omega
theorem RJ (V y x:Int) (j:Nat) (hj:j<32) (hV0:0<=V) (hV:V<256^j) (hy:V/18446744073709551616^(j/8)%18446744073709551616=y) (hx0:0<=x) (hx1:x<256) :
  bits .or .u64 y (IntKind.u64.wrap (x*2^(8*(j%8))))=y+x*256^(j%8)/\0<=y+x*256^(j%8)/\y+x*256^(j%8)<18446744073709551616/\x*256^(j%8)*18446744073709551616^(j/8)=x*256^j:=by
 have e1:(256:Int)^j=18446744073709551616^(j/8)*256^(j%8):=by
  rw[show(18446744073709551616:Int)=256^8 from by decide,<-Int.pow_mul,<-Int.pow_add]
  congr 1;omega
 have hp:(0:Int)<18446744073709551616^(j/8):=Int.pow_pos AK;have a0:0<=V/18446744073709551616^(j/8):=Int.ediv_nonneg hV0 AJ;have a1:V/18446744073709551616^(j/8)<256^(j%8):=Int.ediv_lt_of_lt_mul hp (by rw[Int.mul_comm,<-e1];exact hV);have e2:(2:Int)^(8*(j%8))=256^(j%8):=(Q5 _).symm;have e3:x*256^(j%8)*18446744073709551616^(j/8)=x*256^j:=by rw[e1];grind
 have hr:j%8<8:=Nat.mod_lt _ AK;have hle:(256:Int)^(j%8)<=256^7:=by
  have:j%8=0\/j%8=1\/j%8=2\/j%8=3\/j%8=4\/j%8=5\/j%8=6\/j%8=7:=AJ
  rcases this with h|h|h|h|h|h|h|h<;>rw[h]<;>decide
 have hP0:(0:Int)<256^(j%8):=Int.pow_pos AK;have e7:(256:Int)^7=72057594037927936:=AK
 rw[e7] at hle;refine⟨?_,?_,?_,e3⟩;all_goals
  generalize V/18446744073709551616^(j/8)=z at *;have hzy:z=y:=by rw[<-hy];exact(Int.emod_eq_of_lt a0 AJ).symm
  subst hzy;have m0:0<=x*256^(j%8):=Int.mul_nonneg hx0 AJ;have m1:x*256^(j%8)<=255*256^(j%8):=Int.mul_le_mul_of_nonneg_right AJ AJ
 ·rw[e2,IntKind.wrap_u64,Int.emod_eq_of_lt m0 AJ];exact EU _ _ (8*(j%8)) m0 AJ a0 (by rw[e2];exact a1) AJ x (by rw[e2])
 ·omega
 ·omega
theorem LA (a:Option Addr) (n cap:Nat) (zs:List Int) (w:aC) (hn:zs.length=n) (hm:32<=n) (hm':n<=1048576) (ha:At Z9 w a zs) (hz:Ci zs) :
  Calls tP 105 #[Z7 a n cap] w (K9 w (val 256 (zs.take 32))):=by
 have HS:AO (NO w zs 0 ((w.alloc (aJ CV 143)).alloc (aJ CV 143))):=
  ⟨heap_alloc2_old _ _ _,⟨[0,0,0,0],rfl,heap_alloc2_new _ _ _,by unfold G4;decide,by rw[List.take_zero];decide⟩,(Cg.alloc Cl _).alloc AL _⟩
 go_enter func105,ntmps105;go_wp2
 go_loopw [5] (λi wr=>∃(j:Nat),j<=32/\i=Z8 aI j/\NO w zs j wr) (λi _=>32-(intOf i).toNat)
 case atStart=>exact⟨0,Au _,rfl,HS.o⟩
 case round=>
  clear HS;obtain⟨j,hj,rfl,hres,⟨ns,hl,hrow,hw,hv⟩,hbel⟩:=hrel;by_cases hj0:j<32
  ·obtain⟨b0,off,rfl,hb0,hc⟩:=(ha.below hbel).get AJ;have c0:=hc j AJ;have hx:=hz.get j;have hV:=DN 256 zs j AJ;have ht0:0<=val 256 (zs.take j):=C0 AK (λz hz'=>hz z (Ay hz'));have ht1:val 256 (zs.take j)<256^j:=by
    have:=EZ (B:=256) AK (xs:=zs.take j) (λz hz'=>hz z (Ay hz'))
    rwa [Ap,Nat.min_eq_left AJ] at this
   have hdg:=Em (B:=18446744073709551616) AK hw (j/8);rw[hv] at hdg;obtain⟨n1,n2,n3,n4⟩:=RJ _ _ _ j hj0 ht0 ht1 hdg hx.1 hx.2;have S1:=hrow.set (j/8) (ns.getD (j/8) 0+zs.getD j 0*256^(j%8));have S2:=hw.set (j/8) _ n2 n3;have S3:=FJ 18446744073709551616 ns (j/8) (ns.getD (j/8) 0+zs.getD j 0*256^(j%8)) AJ;rw[show ns.getD (j/8) 0+zs.getD j 0*256^(j%8)-ns.getD (j/8) 0=zs.getD j 0*256^(j%8) by omega,n4,hv,<-hV] at S3;have c1:=hrow.cell (j/8) AJ;have f1:=hrow.frozen (j/8);have HS:AO (NO w zs (j+1) (wr.setCell ⟨w.heap.size+1,j/8,aA⟩ (Z8 .u64 (ns.getD (j/8) 0+zs.getD j 0*256^(j%8))))):=
    ⟨((Wr.refl _ _).setCell (j/8) _).rowW hres AJ,⟨_,by rw[List.length_set];exact hl,S1,S2,S3⟩,hbel.setCell AL _⟩
   have HN1:AO (bits .or .u64 (ns.getD (j/8) 0) (IntKind.u64.wrap (zs.getD j 0*2^(8*(j%8))))=ns.getD (j/8) 0+zs.getD j 0*256^(j%8)):=n1;clear hV ht0 ht1 hdg n1 n2 n3 n4 S1 S2 S3 hv hrow hres hbel hw;generalize zs.getD j 0=x at *;obtain⟨hx0,hx1⟩:=hx;clear hc;have hlt:(j:Int)<n:=AJ
   have hlt2:(j:Int)/8<4:=AJ
   generalize ns.getD (j/8) 0=y at *;go_wp2
   go_region
   rw[HN1.o];have HS2:AO (NO w zs (j+1) ((wr.setCell ⟨w.heap.size+1,j/8,aA⟩ (Z8 .u64 (y+x*256^(j%8)))).drew)):=
    ⟨HS.o.res,HS.o.row,⟨HS.o.below.os,HS.o.below.tape,HS.o.below.output,HS.o.below.size,HS.o.below.block⟩⟩
   clear HS c0 c1 f1;generalize (wr.setCell ⟨w.heap.size+1,j/8,aA⟩ (Z8 .u64 (y+x*256^(j%8)))).drew=w2 at *;go_wp2;go_roundw
   case rel=>exact⟨j+1,AJ,by go_num,HS2.o⟩
   case measure=>simp[intOf];omega
  ·have hj32:j=32:=AJ
   subst hj32;have HSZ:AO ((tP.info? 143).map (·.size)=aE ((ns.map (Value.int .u64)).toArray).size):=sizeNum hl;have HZ4:AO (([0,0,0,0].map (Value.int .u64)).toArray.size=((ns.map (Value.int .u64)).toArray).size):=by show _=_;simp[hl]
   have HRS:AO (Ch wr w.heap.size 143 [0,0,0,0]):=hres;have HRO:AO (Ch wr (w.heap.size+1) 143 ns):=hrow;have HBE:AO (Below w.heap.size w wr):=hbel;have HV:AO (val 18446744073709551616 ns=val 256 (zs.take 32)):=hv;clear hres hrow hbel hv;go_wp2_with (first
    |(refine Ae rfl 143 (aM 3) rfl (w.heap.size+1) rfl 143 _ (0,0) _ HRO.o underlying143 rfl HSZ.o ?_)
    |(refine AE 143 (aM 2) (aM 24) w.heap.size ((ns.map (Value.int .u64)).toArray) 143 HRS.o HSZ.o HZ4.o (all_oneCell_toArray (Aw _ _)) ?_))
   refine Ab (v:=aH (ns.map (Value.int .u64)).toArray) (Ah rfl _ _ w.heap.size 143 _ (0,0) _ rfl (AB HRS.o) underlying143 rfl HSZ.o) rfl ⟨ns,hl,hw,HV.o,rfl,?_⟩;exact HBE.o.trans ((Wr.setRow _ _ _).below Cl)
end Go.Proofs.YtjdhhgaelgemcaaGreatDoor
