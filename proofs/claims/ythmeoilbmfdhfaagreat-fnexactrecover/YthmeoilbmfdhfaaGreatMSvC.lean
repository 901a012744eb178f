import Derived.Test.YthmeoilbmfdhfaaGreatMVal
import Derived.Test.YthmeoilbmfdhfaaGreatMOpn
open Go.Value renaming slice->UD,int->UE,pointer->UM,bool->UF,agg->UN
open Go.IntKind renaming i64->UO,u8->UH
open Go.Obj renaming cells->UP
open Go.Operand renaming tmp->UT
open Option renaming some->UI,none->UJ
open Go renaming World->UK,Value->UL
namespace Go.Proofs.YthmeoilbmfdhfaaGreat
set_option maxHeartbeats 8000000
set_option maxRecDepth 100000
open Go.ChangeShapes Go.WideShapes Go.ChangeAt Go.RowKit
set_option linter.unusedVariables false
def DN (B:Nat) (w:UK) (v:UL) (T:List Int) (n:Nat):Prop:=w.ownsRow B 133 2 v n (T.map (Value.int UO))
theorem Ki (w:UK) (a:Option Addr) (n c:Nat):(binOp .eql 32 (UD a n c) (UD UJ 0 0)).run Tryz.prog w=.ok (UF a.isNone) w:=by
 have h:∀ d,(Op.equalIn (d+1) 32 (UD a n c) (UD UJ 0 0)).run Tryz.prog w=.ok a.isNone w:=λd=>by
  cases a<;>simp[Op.equalIn,run_underlying Tryz.underlying32]
 have h':(Op.equal 32 (UD a n c) (UD UJ 0 0)).run Tryz.prog w=.ok a.isNone w:=h 9999;simp only[binOp];simp[h']
def Tc (w:UK) (T:List Int) (n:Nat) (e:Ending) (w':UK):Prop:=∃ v,e=.returned v/\DN w.heap.size w' v T n/\v.oneCell'=true/\Below w.heap.size w w'
theorem Kj (w:UK) {ops:Array Oper} {rest:List Oper} {o:Oper} {a:Act} {Q:Exit->Act->UK->Prop} (hg:o.guard=UJ) (sx x:Operand)
  (hop:o.op=Op.call { callee:=Callee.builtin Builtin.append,args:=#[sx,x],argTypes:=#[32,32] }) (B:Nat) (v:UL) (xs:List UL) (hs:a.eval sx=v) (hown:w.ownsRow B 133 2 v 0 xs)
  (ad:Addr) (n c:Nat) (T:List Int) (hx:a.eval x=UD (UI ad) n c) (hl:(T.map (Value.int UO)).length=n*2) (hnews:∀ j u,(T.map (Value.int UO))[j]?=UI u->w.cell? (ad.add j)=UI u) (hm:n<=1048576) (hB:B<=w.heap.size)
  (hK:∀ v' w',w'.ownsRow B 133 2 v' n (xs++T.map (Value.int UO))->w.grownBy w' v.ownBlock->wpList Tryz.prog ops Q rest (a.put o.dst v') w') :
  wpList Tryz.prog ops Q (o::rest) a w:=by
 obtain⟨i0,hi,hz0,hz1,hz2⟩:=Be Tryz.infoTap;refine wpList_append_own_at w hg sx x 32 hop B 133 i0 (UN #[UE UO 0,UE UO 0]) 2 16 Tryz.underlying32 hi hz0 hz1 hz2 rfl AL v 0 xs hs hown ad n c (T.map (Value.int UO)) hx hl hnews (Bb _ _) (by unfold maxLen;omega) AK hB ?_;intro v' w' h1 h2 _ _;rw[Ak] at h1;exact hK v' w' h1 h2
theorem OT (a:Option Addr) (n cap:Nat) (T:List Int) (w:UK) (hn:T.length=n*2) (hm:n<=1048576) (ha:At UO w a T) (hnil:a=UJ->n=0/\cap=0) :
  Calls Tryz.prog 85 #[UD a n cap] w (Tc w T n):=by
 cases a with
 |none=>
  obtain⟨rfl,rfl⟩:=hnil rfl;have hT:T=[]:=Aq AK;subst hT;have HP:AP (Tc w [] 0 (.returned (UD UJ 0 0)) w):=⟨_,rfl,⟨AM,.inl ⟨rfl,rfl⟩⟩,rfl,Ad _ _⟩
  have E:=Ki w UJ 0 0;clear hn ha hnil hm;go_enter Tryz.func85,Tryz.ntmps85;go_wp2
  go_ret
  exact HP.o
 |some ad=>
  have HNW:AP (∀ j u,(T.map (Value.int UO))[j]?=UI u->(w.alloc (UP #[] 133)).cell? (ad.add j)=UI u):=by
   intro j u hu;have hj:j<T.length:=by have:=(Af.1 hu).1;simpa using this
   obtain⟨b,off,e,hb,hc⟩:=ha.get AK;cases e;rw[Ay,World.cell?_alloc_old _ _ _ (by show b≠w.heap.size;omega),hc j hj];simp[hj] at hu;simp[hj,hu]
  have HO:AP ((w.alloc (UP #[] 133)).ownsRow w.heap.size 133 2 (UD (UI ⟨w.heap.size,0,UJ⟩) 0 0) 0 []):=
   ⟨AM,.inr ⟨w.heap.size,0,#[],rfl,AY _,AV w _,AY _,by simp[maxLen],rfl,rfl⟩⟩
  have HL:AP ((T.map (Value.int UO)).length=n*2/\n<=1048576):=⟨by simp[hn],hm⟩
  have E:=Ki w (UI ad) n cap;clear hn ha hnil hm;go_enter Tryz.func85,Tryz.ntmps85;go_wp2_with (first
   |(refine Kj _ rfl (UT 5) (UT 6) rfl w.heap.size _ [] rfl HO.o ad n cap T rfl HL.o.1 HNW.o HL.o.2 AM ?_)
   |fail)
  intro v' w3 ho hgr;have HF:AP (Tc w T n (.returned v') w3):=by
   have hB:Below w.heap.size (w.alloc (UP #[] 133)) w3:=Cs.grown hgr AM (λk hk=>by simp[Value.ownBlock] at hk;omega);refine⟨v',rfl,by unfold DN;simpa using ho,?_,(Cs.alloc Cw _).trans hB⟩;rcases ho.2 with⟨h,_⟩|⟨g,c,cur,h,_⟩
   ·rw[h];rfl
   ·rw[h];rfl
  clear ho hgr HNW HO HL;go_wp2
  go_ret
  exact HF.o
theorem M9 (off:Nat) (vs:List UL) (n:Nat) (cs:Array UL):((vs.zipIdx n).foldl (λcs (x:UL×Nat)=>cs.setIfInBounds (off+x.2) x.1) cs).size=cs.size:=by
 induction vs generalizing n cs with
 |nil=>rfl
 |cons v vs ih=>rw[List.zipIdx_cons,List.foldl_cons,ih];simp
theorem OU (off:Nat) (vs:List UL) (n:Nat) (cs:Array UL) (h:off+n+vs.length<=cs.size) (i:Nat) :
  ((vs.zipIdx n).foldl (λcs (x:UL×Nat)=>cs.setIfInBounds (off+x.2) x.1) cs)[i]?=if off+n<=i/\i<off+n+vs.length then vs[i-(off+n)]? else cs[i]?:=by
 induction vs generalizing n cs with
 |nil=>rw[AS AM];rfl
 |cons v vs ih=>
  simp only[List.length_cons] at h;rw[List.zipIdx_cons,List.foldl_cons,ih (n+1) _ (by simp;omega)];by_cases h1:off+(n+1)<=i/\i<off+(n+1)+vs.length
  ·rw[AR h1,AR (by simp only[List.length_cons];omega),show i-(off+n)=(i-(off+(n+1)))+1 by omega,List.getElem?_cons_succ]
  ·rw[AS h1];by_cases h2:i=off+n
   ·subst h2;rw[AR (by simp only[List.length_cons];omega),Nat.sub_self,List.getElem?_cons_zero,BZ AK]
   ·rw[AS (by simp only[List.length_cons];omega),BB AK]
def Fe (d u:List Int) (k:Int) (v:UL):Array UL:=(d.map (Value.int UH)++u.map (Value.int UH)++[UE UO k,v]).toArray
theorem Hn {d u:List Int} (hd:d.length=32) (hu:u.length=32) (k:Int) (v:UL):(Fe d u k v).size=66:=by unfold Fe;simp[hd,hu]
theorem MR (d u:List Int) (k:Int) {v:UL} (hv:v.oneCell'=true):(Fe d u k v).all (λx=>x.oneCell')=true:=by
 unfold Fe;rw[List.all_toArray];simp only[List.all_append,List.all_map,List.all_cons,List.all_nil,hv];simp[Function.comp_def,Value.oneCell']
def JJ (off:Nat) (vs cs:Array UL):Array UL:=vs.zipIdx.foldl (λcs (x:UL×Nat)=>cs.setIfInBounds (off+x.2) x.1) cs
theorem OV (off:Nat) (vs cs:Array UL):JJ off vs cs=((vs.toList.zipIdx 0).foldl (λcs (x:UL×Nat)=>cs.setIfInBounds (off+x.2) x.1) cs):=by
 unfold JJ;rw[<-Array.foldl_toList];simp
theorem It (off:Nat) (vs cs:Array UL):(JJ off vs cs).size=cs.size:=by rw[OV];exact M9 _ _ _ _
theorem Ie (off:Nat) (vs cs:Array UL) (h:off+vs.size<=cs.size) (i:Nat):(JJ off vs cs)[i]?=if off<=i/\i<off+vs.size then vs[i-off]? else cs[i]?:=by
 rw[OV,OU off vs.toList 0 cs (by simpa using h) i];simp
theorem Gn (places:Nat->Option (Nat×Nat)) (cs:Array UL) (i off size:Nat) (v:UL) (rest:List (Nat×UL)) (hp:places i=UI (off,size)) (hs:v.cells.size=size) (hc:off+size<=cs.size) :
  Instr.fill places cs ((i,v)::rest)=Instr.fill places (JJ off v.cells cs) rest:=by
 rw[Instr.fill,hp];simp only[];rw[AS (by simp[hs];omega)];rfl
theorem Sx (places:Nat->Option (Nat×Nat)) (p0:places 0=UI (0,32)) (p1:places 1=UI (32,32)) (p2:places 2=UI (64,1)) (p3:places 3=UI (65,1)) (z:Array UL) (hz:z.size=66) (d u:List Int) (hd:d.length=32) (hu:u.length=32) (k:Int) (v:UL) (hv:v.cells=#[v]) :
  Instr.fill places z [(0,UN (d.map (Value.int UH)).toArray),(1,UN (u.map (Value.int UH)).toArray),(2,UE UO k),(3,v)]=UI (Fe d u k v):=by
 have sd:((d.map (Value.int UH)).toArray).size=32:=by simp[hd]
 have su:((u.map (Value.int UH)).toArray).size=32:=by simp[hu]
 have s1:(JJ 0 (d.map (Value.int UH)).toArray z).size=66:=by rw[It];exact hz
 have s2:(JJ 32 (u.map (Value.int UH)).toArray (JJ 0 (d.map (Value.int UH)).toArray z)).size=66:=by rw[It];exact s1
 have s3:(JJ 64 #[UE UO k] (JJ 32 (u.map (Value.int UH)).toArray (JJ 0 (d.map (Value.int UH)).toArray z))).size=66:=by rw[It];exact s2
 have key:JJ 65 #[v] (JJ 64 #[UE UO k] (JJ 32 (u.map (Value.int UH)).toArray (JJ 0 (d.map (Value.int UH)).toArray z)))=Fe d u k v:=by
  apply Array.ext_getElem?;intro i;rw[Ie _ _ _ (by rw[s3];simp),Ie _ _ _ (by rw[s2];simp),Ie _ _ _ (by rw[s1,su];omega),Ie _ _ _ (by rw[hz,sd];omega),sd,su];have e:(Fe d u k v)[i]?=(d.map (Value.int UH)++u.map (Value.int UH)++[UE UO k,v])[i]?:=by unfold Fe;simp
  rw[e];simp only[List.size_toArray,List.length_cons,List.length_nil];by_cases h0:i<32
  ·rw[AS AK,AS AK,AS AK,AR AK];rw[A0 (by simp[hd,hu];omega),A0 (by simp[hd];omega)];simp
  ·by_cases h1:i<64
   ·rw[AS AK,AS AK,AR AK];rw[A0 (by simp[hd,hu];omega),Am (by simp[hd];omega)];simp[hd]
   ·by_cases h2:i=64
    ·subst h2;rw[AS AK,AR AK,Am (by simp[hd,hu])];simp[hd,hu]
    ·by_cases h3:i=65
     ·subst h3;rw[AR AK,Am (by simp[hd,hu])];simp[hd,hu]
     ·rw[AS AK,AS AK,AS AK,AS AK,Array.getElem?_eq_none AK,B5 (by simp[hd,hu];omega)]
 rw[Gn places z 0 0 32 (UN (d.map (Value.int UH)).toArray) _ p0 sd AK];rw[Gn places _ 1 32 32 (UN (u.map (Value.int UH)).toArray) _ p1 su (by show _<=(JJ 0 (d.map (Value.int UH)).toArray z).size;omega)];rw[Gn places _ 2 64 1 (UE UO k) _ p2 rfl (by show _<=(JJ 32 (u.map (Value.int UH)).toArray (JJ 0 (d.map (Value.int UH)).toArray z)).size;omega)];rw[Gn places _ 3 65 1 v _ p3 (by rw[hv];rfl) (by show _<=(JJ 64 #[UE UO k] (JJ 32 (u.map (Value.int UH)).toArray (JJ 0 (d.map (Value.int UH)).toArray z))).size;omega)];rw[hv,Instr.fill];exact congrArg UI key
def Td:Array UL:=#[UE UH 0,UE UH 0,UE UH 0,UE UH 0,UE UH 0,UE UH 0,UE UH 0,UE UH 0,UE UH 0,UE UH 0,UE UH 0,UE UH 0,UE UH 0,UE UH 0,UE UH 0,UE UH 0,UE UH 0,UE UH 0,UE UH 0,UE UH 0,UE UH 0,UE UH 0,UE UH 0,UE UH 0,UE UH 0,UE UH 0,UE UH 0,UE UH 0,UE UH 0,UE UH 0,UE UH 0,UE UH 0,UE UH 0,UE UH 0,UE UH 0,UE UH 0,UE UH 0,UE UH 0,UE UH 0,UE UH 0,UE UH 0,UE UH 0,UE UH 0,UE UH 0,UE UH 0,UE UH 0,UE UH 0,UE UH 0,UE UH 0,UE UH 0,UE UH 0,UE UH 0,UE UH 0,UE UH 0,UE UH 0,UE UH 0,UE UH 0,UE UH 0,UE UH 0,UE UH 0,UE UH 0,UE UH 0,UE UH 0,UE UH 0,UE UO 0,UD UJ 0 0]
theorem Tryz.infoBook:(Tryz.prog.info? 77).map (λi=>i.zero)=UI (UI (UN Td)):=AN
theorem Tryz.sizeBook:(Tryz.prog.info? 77).map (·.size)=UI 66:=AN
theorem Tryz.placesBook:((Tryz.prog.underlying 77).bind λd=>match d with|.struct fs=>fs.toList.mapM (λf=>(Tryz.prog.info? f.type).map λi=>(f.offset,i.size))|_=>UJ)=UI [(0,32),(32,32),(64,1),(65,1)]:=AN
theorem R8 (d u:List Int) (hd:d.length=32) (hu:u.length=32) (k:Int) (v:UL) (hv:v.cells=#[v]) :
  Tryz.prog.built 77 [(0,UN (d.map (Value.int UH)).toArray),(1,UN (u.map (Value.int UH)).toArray),(2,UE UO k),(3,v)]=UI (Fe d u k v):=by
 have hb:∃ places z,(places 0=UI (0,32)/\places 1=UI (32,32)/\places 2=UI (64,1)/\places 3=UI (65,1))/\z.size=66/\∀ parts,Tryz.prog.built 77 parts=Instr.fill places z parts:=by
  have h1:=Tryz.infoBook;have h2:=Tryz.placesBook;obtain⟨F,hF⟩:∃ F,Tryz.prog.underlying 77=UI (.struct F):=⟨_,Tryz.underlying77⟩
  rw[hF] at h2;have h2':F.toList.mapM (λf=>(Tryz.prog.info? f.type).map λi=>(f.offset,i.size))=UI [(0,32),(32,32),(64,1),(65,1)]:=h2;cases hi:Tryz.prog.info? 77 with
  |none=>rw[hi] at h1;cases h1
  |some it=>
   rw[hi] at h1;have hz:it.zero=UI (UN Td):=by simpa using h1
   refine⟨λi=>[(0,32),(32,32),(64,1),(65,1)].toArray[i]?,Td,⟨rfl,rfl,rfl,rfl⟩,rfl,λparts=>?_⟩;simp only[Program.built,hi,hF,hz,h2'];rfl
 obtain⟨places,z,⟨p0,p1,p2,p3⟩,hz,h⟩:=hb;rw[h];exact Sx places p0 p1 p2 p3 z hz d u hd hu k v hv
def JE (D U:List Int) (k:Int) (T:List Int) (n:Nat):Prop:=Dj D/\D.length<=16/\Dj U/\0<=k/\k+n=U.length/\KW U T n
open Classical in
noncomputable def GI (D U:List Int) (k:Int) (T:List Int) (n:Nat):Bool:=decide (JE D U k T n)
theorem ES {D U:List Int} {k:Int} {T:List Int} {n:Nat} (h:¬ JE D U k T n):GI D U k T n=false:=by unfold GI;simp[h]
theorem Ho {D U:List Int} {k:Int} {T:List Int} {n:Nat} (h:JE D U k T n):GI D U k T n=true:=by unfold GI;simp[h]
theorem E1:(Tryz.zeroCells77).size=66:=AN
theorem EW:(Tryz.zeroCells77).all (λx=>x.oneCell')=true:=AN
theorem Ec {fn:Func} {p u:Tmp} (h:fn.results=#[.cell p 77,.tmp u]) (tmps:Array UL) (w:UK) (g:Nat) (cs:Array UL) (v:UL) (hv:tmps.getD u undef=v)
  (hp:tmps.getD p undef=UM (UI ⟨g,0,UJ⟩)) (hr:w.heap[g]?=UI (UP cs 77 (0,0))) (hs:(Tryz.prog.info? 77).map (·.size)=UI cs.size) :
  (results fn tmps).run Tryz.prog w=.ok (.tuple #[UN cs,v]) w:=by
 have hp':tmps[p]?.getD undef=UM (UI ⟨g,0,UJ⟩):=by simpa using hp
 have hv':tmps[u]?.getD undef=v:=by simpa using hv
 have hl:=run_loadVar_row (P:=Tryz.prog) w g 77 77 cs (0,0) _ hr Tryz.underlying77 rfl hs;simp[results,h,hp',hv',asAddr,hl]
def Tt (w:UK) (D U:List Int) (k:Int) (T:List Int) (n:Nat) (e:Ending) (w':UK):Prop:=
 ∃ bk:Array UL,e=.returned (.tuple #[UN bk,UF (GI D U k T n)])/\bk.size=66/\bk.all (λx=>x.oneCell')=true/\Below w.heap.size w w'/\
  (GI D U k T n=true->∃ db ub v,bk=Fe db ub k v/\DV db (λv=>(v:Int)∈D)/\DV ub (λv=>(v:Int)∈U)/\DN w.heap.size w' v T n)
structure Lm (w:UK) (sc:Array UL) (wr:UK):Prop where
 below:Below w.heap.size w wr
 box:wr.heap[w.heap.size]?=UI (UP sc 34 (0,0))
 res:wr.heap[w.heap.size+1]?=UI (UP Tryz.zeroCells77 77 (0,0))
theorem Lm.lt {w wr:UK} {sc:Array UL} (h:Lm w sc wr):w.heap.size<wr.heap.size:=(AQ.1 h.box).1
theorem Lm.lt2 {w wr:UK} {sc:Array UL} (h:Lm w sc wr):w.heap.size+1<wr.heap.size:=(AQ.1 h.res).1
theorem Lm.call {w wr w':UK} {sc:Array UL} (h:Lm w sc wr) (b:Below wr.heap.size wr w'):Lm w sc w':=
 ⟨h.below.trans (b.mono h.below.size),by rw[b.block _ h.lt];exact h.box,by rw[b.block _ h.lt2];exact h.res⟩
theorem Hp {w:UK} {ops:Array Oper} {rest:List Oper} {o:Oper} {a:Act} {Q:Exit->Act->UK->Prop} (hgd:o.guard=UJ) (x y:Operand) (ho:o.op=.store 75 x y)
  (bs:List Int) (hx:a.eval x=UM (UI ⟨w.heap.size,0,UJ⟩)) (hy:a.eval y=UN (bs.map (Value.int UH)).toArray) (hl:bs.length=32)
  {wa:UK} (hwa:wa=w.alloc (UP Ck 75)) (hK:∀ w',DP w' w.heap.size 75 bs->Below w.heap.size w w'->wpList Tryz.prog ops Q rest (a.put o.dst undef) w') :
  wpList Tryz.prog ops Q (o::rest) a wa:=by
 subst hwa;exact wpList_store_row hgd 75 x y ho w.heap.size ((bs.map (Value.int UH)).toArray) hx hy 75 _ (AV w _) (by rw[Tryz.sizeSS];simp[hl]) (by simp[hl]) (all_oneCell_toArray (Bb _ _))
  (hK _ (AB (AV w _)) ((Cs.alloc Cw _).trans ((Wr.setRow _ _ _).below Cw)))
theorem Jw {w:UK} {ops:Array Oper} {rest:List Oper} {o:Oper} {a:Act} {Q:Exit->Act->UK->Prop} (x:Operand) (ho:o.op=.load 75 x) (hw:Region.wanted o (yielded ops a.tmps)=true)
  (g:Nat) (bs:List Int) (hx:a.eval x=UM (UI ⟨g,0,UJ⟩)) (hr:DP w g 75 bs) (hl:bs.length=32) (hK:wpList Tryz.prog ops Q rest (a.put o.dst (UN (bs.map (Value.int UH)).toArray)) w) :
  wpList Tryz.prog ops Q (o::rest) a w:=
 wpList_step λK hK'=>by
  rw[AR hw];exact BL 75 x ho g hx 75 _ (0,0) _ hr Tryz.underlying75 rfl (by rw[Tryz.sizeSS];simp[hl]) (hK' _ _ hK)
theorem EP {w:UK} {ops:Array Oper} {rest:List Oper} {o:Oper} {a:Act} {Q:Exit->Act->UK->Prop} (x:Operand) (ho:o.op=.load 75 x) (hw:Region.wanted o (yielded ops a.tmps)=false)
  (hK:wpList Tryz.prog ops Q rest (a.put o.dst undef) w):wpList Tryz.prog ops Q (o::rest) a w:=by
 unfold wpList;rw[AS (by rw[hw];simp)];exact hK
theorem OW {w:UK} {o:Oper} {a:Act} {K:Act->UK->Prop} {Q:Exit->Act->UK->Prop} (ho:o.op=.build 77 #[(0,.tmp 56),(1,.tmp 57),(2,.tmp 59),(3,.tmp 62)]) {db ub:List Int} {k:Int} {v:UL}
  (h0:a.eval (UT 56)=UN (db.map (Value.int UH)).toArray) (h1:a.eval (UT 57)=UN (ub.map (Value.int UH)).toArray) (h3:a.eval (UT 59)=UE UO k) (h6:a.eval (UT 62)=v) (hd:db.length=32) (hu:ub.length=32) (hv:v.cells=#[v])
  (hK:K (a.put o.dst (UN (Fe db ub k v))) w):o.wp Tryz.prog a w K Q:=by
 have e:((#[(0,.tmp 56),(1,.tmp 57),(2,.tmp 59),(3,.tmp 62)]:Array (Nat×Operand)).map λ(x:Nat×Operand)=>(x.1,a.eval x.2)).toList=[(0,UN (db.map (Value.int UH)).toArray),(1,UN (ub.map (Value.int UH)).toArray),(2,UE UO k),(3,v)]:=by
  simp only[List.map_toArray,List.map_cons,List.map_nil,h0,h1,h3,h6]
 have hb:=R8 db ub hd hu k v hv;rw[<-e] at hb;refine wp_build 77 _ ho ?_ ?_
 ·exact(congrArg Option.isSome hb).trans rfl
 ·have e2:((Tryz.prog.built 77 ((#[(0,.tmp 56),(1,.tmp 57),(2,.tmp 59),(3,.tmp 62)]:Array (Nat×Operand)).map λ(x:Nat×Operand)=>(x.1,a.eval x.2)).toList).getD #[])=Fe db ub k v:=by rw[hb];rfl
  exact e2 ▸ hK
theorem DN.mono {B B':Nat} {w:UK} {v:UL} {T:List Int} {n:Nat} (h:DN B' w v T n) (hB:B<=B'):DN B w v T n:=by
 obtain⟨h1,h2⟩:=h;refine⟨h1,?_⟩;rcases h2 with h|⟨g,c,cur,h4,h5,h6⟩
 ·exact .inl h
 ·exact .inr ⟨g,c,cur,h4,AK,h6⟩
theorem DN.wrh {B R:Nat} {w w':UK} {v:UL} {T:List Int} {n:Nat} (h:DN B w v T n) (hR:R<B) (hw:Hc R w w'):DN B w' v T n:=by
 obtain⟨h1,h2⟩:=h;refine⟨h1,?_⟩;rcases h2 with h|⟨g,c,cur,h4,h5,h6,h7⟩
 ·exact .inl h
 ·exact .inr ⟨g,c,cur,h4,h5,by rw[hw.block g (AQ.1 h6).1 AK];exact h6,h7⟩
theorem ND {B:Nat} {w:UK} {v:UL} {T:List Int} {n:Nat} (h:DN B w v T n):v.cells=#[v]:=by
 rcases h.2 with⟨h,_⟩|⟨g,c,cur,h,_⟩
 ·rw[h];rfl
 ·rw[h];rfl
def QX (H:Nat) (w:UK) (v:UL) (T:List Int) (n:Nat):Prop:=∃ B,H+1<B/\DN B w v T n/\v.oneCell'=true
theorem QX.wrh {H:Nat} {w w':UK} {v:UL} {T:List Int} {n:Nat} (h:QX H w v T n) (hw:Hc (H+1) w w'):QX H w' v T n:=by
 obtain⟨B,a,b,c⟩:=h;exact⟨B,a,b.wrh a hw,c⟩
def Sy (H:Nat) (w:UK) (v:UL) (d u:List Int) (k:Int) (T:List Int) (n:Nat):Prop:=∃ v6,v=UN (Fe d u k v6)/\QX H w v6 T n
theorem Sy.wrh {H:Nat} {w w':UK} {v:UL} {d u:List Int} {k:Int} {T:List Int} {n:Nat} (h:Sy H w v d u k T n) (hw:Hc (H+1) w w'):Sy H w' v d u k T n:=by
 obtain⟨v6,a,b⟩:=h;exact⟨v6,a,b.wrh hw⟩
def QA (w W:UK) (d u:List Int) (k:Int) (T:List Int) (n:Nat) (L:Nat->Bool) (w':UK):Prop:=
 Hc (w.heap.size+1) W w'/\(L 8=false->w'.heap[w.heap.size+1]?=UI (UP Tryz.zeroCells77 77 (0,0)))/\
  (L 8=true->∃ v6,w'.heap[w.heap.size+1]?=UI (UP (Fe d u k v6) 77 (0,0))/\QX w.heap.size w' v6 T n)
section
variable {w W w' ww:UK} {d u:List Int} {k:Int} {T:List Int} {n:Nat} {L:Nat->Bool}
theorem QA.ref (h:QA w W d u k T n L w') (i:Nat) (hi:i≠8):QA w W d u k T n (Ct L i) w':=
 ⟨h.1,by unfold Ct;simpa[Ne.symm hi] using h.2.1,by unfold Ct;simpa[Ne.symm hi] using h.2.2⟩
theorem QA.low {sc:Array UL} (h:QA w W d u k T n L w') (i:Nat) (hi:i≠8) (hE:Lm w sc W) (b:Below w'.heap.size w' ww):QA w W d u k T n (Ct L i) ww:=by
 have hlt:w.heap.size+1<w'.heap.size:=Ax hE.lt2 h.1.size;refine⟨h.1.trans (Hc.of_below b),?_,?_⟩
 ·unfold Ct;simp only[Ne.symm hi,if_false];intro q;rw[b.block _ hlt];exact h.2.1 (by simpa using q)
 ·unfold Ct;simp only[Ne.symm hi,if_false];intro q;obtain⟨v6,a,c⟩:=h.2.2 (by simpa using q);exact⟨v6,by rw[b.block _ hlt];exact a,c.wrh (Hc.of_below b)⟩
theorem QA.put {v6:UL} (h:QA w W d u k T n L w') (hr:ww.heap[w.heap.size+1]?=UI (UP (Fe d u k v6) 77 (0,0))) (hw:Wr (w.heap.size+1) w' ww) (hc:QX w.heap.size w' v6 T n):QA w W d u k T n (Ct L 8) ww:=
 ⟨h.1.trans hw.wrH,λq=>by unfold Ct at q;simp at q,λ_=>⟨v6,hr,hc.wrh hw.wrH⟩⟩
end
theorem Hc.row8 {R g:Nat} {w w':UK} {t:TypeId} {bs:List Int} (h:Hc R w w') (hr:DP w g t bs) (hg:g≠R):DP w' g t bs:=by
 unfold DP;rw[h.block g hr.lt hg];exact hr
theorem At.wrh9 {w W w':UK} {a:Option Addr} {T:List Int} (h:At UO w a T) (hb:Below w.heap.size w W) (hw:Hc (w.heap.size+1) W w'):At UO w' a T:=by
 rcases h with h|⟨b,off,rfl,hl,hc⟩
 ·exact .inl h
 ·refine .inr ⟨b,off,rfl,AI hb.size hw.size,λi hi=>?_⟩;rw[Aa (a:=⟨b,off+i,UJ⟩) (w:=W) (hw.block b (AG hb.size) AK),hb.cell (p:=⟨b,off+i,UJ⟩) hl];exact hc i hi
theorem GC (aD aU aT:Option Addr) (nD cD nU cU nT cT:Nat) (D U:List Int) (k:Int) (T:List Int) (w:UK) (hD:D.length=nD) (hU:U.length=nU) (hT:T.length=nT*2) (mD:nD<=1048576) (mU:nU<=1048576) (mT:nT<=1048576)
  (haD:At UO w aD D) (haU:At UO w aU U) (haT:At UO w aT T) (hnil:aT=UJ->nT=0/\cT=0) (hk0:-9223372036854775808<=k) (hk1:k<9223372036854775808) :
  Calls Tryz.prog 37 #[UN #[UD aD nD cD,UD aU nU cU,UE UO k,UD aT nT cT]] w (Tt w D U k T nT):=by
 have HE0:AP (Lm w #[UD aD nD cD,UD aU nU cU,UE UO k,UD aT nT cT] ((w.alloc (UP #[UD aD nD cD,UD aU nU cU,UE UO k,UD aT nT cT] 34)).alloc (UP Tryz.zeroCells77 77))):=by
  refine⟨(Cs.alloc Cw _).alloc AM _,?_,?_⟩
  ·rw[BH _ _ w.heap.size AM];exact AV w _
  ·have:=AV (w.alloc (UP #[UD aD nD cD,UD aU nU cU,UE UO k,UD aT nT cT] 34)) (UP Tryz.zeroCells77 77)
   rwa [show(w.alloc (UP #[UD aD nD cD,UD aU nU cU,UE UO k,UD aT nT cT] 34)).heap.size=w.heap.size+1 by simp] at this
 have HAD:AP (At UO w aD D):=haD;have HAU:AP (At UO w aU U):=haU;have HAT:AP (At UO w aT T):=haT;have HNT:AP (T.length=nT*2/\nT<=1048576/\(aT=UJ->nT=0/\cT=0)):=⟨hT,mT,hnil⟩
 have HLN:AP (D.length=nD/\U.length=nU):=⟨hD,hU⟩
 clear haD haU haT hT hnil hD hU;go_enter Tryz.func37,Tryz.ntmps37;go_wp2_with fail;generalize ((w.alloc (UP #[UD aD nD cD,UD aU nU cU,UE UO k,UD aT nT cT] 34)).alloc (UP Tryz.zeroCells77 77))=w0 at *;refine(II aD nD cD D _ HLN.o.1 mD (HAD.o.below HE0.o.below)).mono ?_;rintro e w1 ⟨db,rfl,dl,dby,dset,b1⟩;have HE1:AP (Lm w #[UD aD nD cD,UD aU nU cU,UE UO k,UD aT nT cT] w1):=HE0.o.call b1;clear b1 HE0;go_wp2_with (first
  |(refine Hp rfl (UT 4) (UT 12) rfl db rfl rfl dl rfl ?_)
  |fail)
 intro w2 hr2 hb2;have HE2:AP (Lm w #[UD aD nD cD,UD aU nU cU,UE UO k,UD aT nT cT] w2):=HE1.o.call hb2;have HRD2:AP (DP w2 w1.heap.size 75 db):=hr2;have hGd:w.heap.size+1<w1.heap.size:=HE1.o.lt2;have c1:w2.cell? ⟨w.heap.size,1,UJ⟩=UI (UD aU nU cU):=by rw[AA HE2.o.box 1];rfl
 clear hr2 hb2 HE1;generalize w1.heap.size=Gd at *;go_wp2_with fail;refine(II aU nU cU U _ HLN.o.2 mU (HAU.o.below HE2.o.below)).mono ?_;rintro e w3 ⟨ub,rfl,ul,uby,uset,b3⟩;have HE3:AP (Lm w #[UD aD nD cD,UD aU nU cU,UE UO k,UD aT nT cT] w3):=HE2.o.call b3;have HRD3:AP (DP w3 Gd 75 db):=HRD2.o.low b3 HRD2.o.lt;clear b3 HE2 HRD2 c1;go_wp2_with (first
  |(refine Hp rfl (UT 6) (UT 18) rfl ub rfl rfl ul rfl ?_)
  |fail)
 intro W hr4 hb4;have HEV:AP (Lm w #[UD aD nD cD,UD aU nU cU,UE UO k,UD aT nT cT] W):=HE3.o.call hb4;have HRD:AP (DP W Gd 75 db):=HRD3.o.low hb4 HRD3.o.lt;have HRU:AP (DP W w3.heap.size 75 ub):=hr4;have hGu:w.heap.size+1<w3.heap.size:=HE3.o.lt2;have c0:W.cell? ⟨w.heap.size,0,UJ⟩=UI (UD aD nD cD):=by rw[AA HEV.o.box 0];rfl
 have c1:W.cell? ⟨w.heap.size,1,UJ⟩=UI (UD aU nU cU):=by rw[AA HEV.o.box 1];rfl
 have c2:W.cell? ⟨w.heap.size,2,UJ⟩=UI (UE UO k):=by rw[AA HEV.o.box 2];rfl
 have c3:W.cell? ⟨w.heap.size,3,UJ⟩=UI (UD aT nT cT):=by rw[AA HEV.o.box 3];rfl
 clear hr4 hb4 HE3 HRD3;generalize w3.heap.size=Gu at *;have HLD:AP (db.length=32/\ub.length=32):=⟨dl,ul⟩
 have HDS:AP (Dj D->DV db (λv=>(v:Int)∈D)):=dset;have HUS:AP (Dj U->DV ub (λv=>(v:Int)∈U)):=uset;have HGD:AP (Gd≠w.heap.size+1):=by show _≠_;omega
 have HGU:AP (Gu≠w.heap.size+1):=by show _≠_;omega
 have HSZd:AP ((Tryz.prog.info? 75).map (·.size)=UI ((db.map (Value.int UH)).toArray).size):=by show _=_;rw[Tryz.sizeSS];simp[dl]
 have HSZu:AP ((Tryz.prog.info? 75).map (·.size)=UI ((ub.map (Value.int UH)).toArray).size):=by show _=_;rw[Tryz.sizeSS];simp[ul]
 clear dl ul dset uset dby uby;cases hsD:Fl D with
 |false=>
  have HPD:AP (¬ Dj D):=λh=>by rw[E6 h] at hsD;cases hsD
  have HRS:AP (W.heap[w.heap.size+1]?=UI (UP Tryz.zeroCells77 77 (0,0))):=HEV.o.res;have HFB:AP (GI D U k T nT=false):=ES (λh=>HPD.o h.1)
  go_upto_region 4 with fail
  go_wp2_with (first
   |(refine EP (UT 6) rfl (by simp[Region.wanted,yielded]) ?_)
   |(refine AC 77 (UT 2) (UT 32) (w.heap.size+1) Tryz.zeroCells77 77 HRS.o Tryz.sizeBook rfl EW ?_)
   |fail)
  refine AZ (v:=.tuple #[UN Tryz.zeroCells77,UF false]) (Ec rfl _ _ (w.heap.size+1) _ _ rfl rfl (AB HRS.o) Tryz.sizeBook) rfl ?_;exact⟨Tryz.zeroCells77,by rw[HFB.o],E1,EW,HEV.o.below.trans ((Wr.setRow _ _ _).below AK),λh=>by rw[HFB.o] at h;cases h⟩
 |true=>
 cases hsU:Fl U with
 |false=>
  have HPU:AP (¬ Dj U):=λh=>by rw[E6 h] at hsU;cases hsU
  have HRS:AP (W.heap[w.heap.size+1]?=UI (UP Tryz.zeroCells77 77 (0,0))):=HEV.o.res;have HFB:AP (GI D U k T nT=false):=ES (λh=>HPU.o h.2.2.1)
  go_upto_region 4 with fail
  go_wp2_with (first
   |(refine EP (UT 6) rfl (by simp[Region.wanted,yielded]) ?_)
   |(refine AC 77 (UT 2) (UT 32) (w.heap.size+1) Tryz.zeroCells77 77 HRS.o Tryz.sizeBook rfl EW ?_)
   |fail)
  refine AZ (v:=.tuple #[UN Tryz.zeroCells77,UF false]) (Ec rfl _ _ (w.heap.size+1) _ _ rfl rfl (AB HRS.o) Tryz.sizeBook) rfl ?_;exact⟨Tryz.zeroCells77,by rw[HFB.o],E1,EW,HEV.o.below.trans ((Wr.setRow _ _ _).below AK),λh=>by rw[HFB.o] at h;cases h⟩
 |true=>
 have HPD:AP (Dj D):=(Hi D).1 hsD;have HPU:AP (Dj U):=(Hi U).1 hsU;by_cases h16:nD<=16
 ·have h16':(nD:Int)<=16:=AK
  by_cases hk:k<0
  ·have HK9:AP (k<0):=hk;have hkb:decide (k<0)=true:=BJ hk;clear hk hk0 hk1 c1 c3;have HRS:AP (W.heap[w.heap.size+1]?=UI (UP Tryz.zeroCells77 77 (0,0))):=HEV.o.res;have HFB:AP (GI D U k T nT=false):=ES (λh=>AI h.2.2.2.1 HK9.o)
   go_upto_region 6 with fail
   go_wp2_with (first
    |(refine EP (UT 6) rfl (by simp[Region.wanted,yielded]) ?_)
    |(refine AC 77 (UT 2) (UT 55) (w.heap.size+1) Tryz.zeroCells77 77 HRS.o Tryz.sizeBook rfl EW ?_)
    |fail)
   refine AZ (v:=.tuple #[UN Tryz.zeroCells77,UF false]) (Ec rfl _ _ (w.heap.size+1) _ _ rfl rfl (AB HRS.o) Tryz.sizeBook) rfl ?_;exact⟨Tryz.zeroCells77,by rw[HFB.o],E1,EW,HEV.o.below.trans ((Wr.setRow _ _ _).below AK),λh=>by rw[HFB.o] at h;cases h⟩
  ·by_cases hka:k=(nU:Int)-nT
   ·have HKA:AP (k+nT=U.length):=by show _=_;rw[HLN.o.2];omega
    have hka':(k == (nU:Int)-nT)=true:=by simpa using hka
    have HK9:AP (0<=k):=by show _<=_;omega
    have HKE:AP (k=(nU:Int)-nT):=hka;have hkb:decide (k<0)=false:=Ar hk;clear hka hk hk0 hk1;have HCT:=KY aT nT cT U T ub W HNT.o.1 HNT.o.2.1 (HAT.o.below HEV.o.below) HPU.o (HUS.o HPU.o);go_wp2_with (first
     |(refine Jw (UT 6) rfl (by first|(simp[Region.wanted,yielded];done)|(simp[Region.wanted,yielded];exact HKE.o)) Gu ub rfl HRU.o HLD.o.2 ?_)
     |fail)
    refine HCT.mono ?_;rintro e W2 ⟨rfl,hb7⟩;cases htb:Jr U T nT with
    |false=>
     have HPT:AP (¬ KW U T nT):=λh=>by rw[KX h] at htb;cases htb
     have HEV2:AP (Lm w #[UD aD nD cD,UD aU nU cU,UE UO k,UD aT nT cT] W2):=HEV.o.call hb7;clear HEV hb7 HCT;have HRS:AP (W2.heap[w.heap.size+1]?=UI (UP Tryz.zeroCells77 77 (0,0))):=HEV2.o.res;have HFB:AP (GI D U k T nT=false):=ES (λh=>HPT.o h.2.2.2.2.2)
     go_upto_region 6 with fail
     go_wp2_with (first
      |(refine EP (UT 6) rfl (by simp[Region.wanted,yielded]) ?_)
      |(refine AC 77 (UT 2) (UT 55) (w.heap.size+1) Tryz.zeroCells77 77 HRS.o Tryz.sizeBook rfl EW ?_)
      |fail)
     refine AZ (v:=.tuple #[UN Tryz.zeroCells77,UF false]) (Ec rfl _ _ (w.heap.size+1) _ _ rfl rfl (AB HRS.o) Tryz.sizeBook) rfl ?_;exact⟨Tryz.zeroCells77,by rw[HFB.o],E1,EW,HEV2.o.below.trans ((Wr.setRow _ _ _).below AK),λh=>by rw[HFB.o] at h;cases h⟩
    |true=>
     have HPT:AP (KW U T nT):=by
      show KW U T nT
      by_cases h:KW U T nT
      ·exact h
      ·rw[Js h] at htb;cases htb
     have HYE:AP (GI D U k T nT=true):=Ho ⟨HPD.o,by rw[HLN.o.1];exact h16,HPU.o,HK9.o,HKA.o,HPT.o⟩;have HSD:AP (DV db (λv=>(v:Int)∈D)):=HDS.o HPD.o;have HSU:AP (DV ub (λv=>(v:Int)∈U)):=HUS.o HPU.o;have HEV2:AP (Lm w #[UD aD nD cD,UD aU nU cU,UE UO k,UD aT nT cT] W2):=HEV.o.call hb7;have HRD2:AP (DP W2 Gd 75 db):=HRD.o.low hb7 HRD.o.lt;have HRU2:AP (DP W2 Gu 75 ub):=HRU.o.low hb7 HRU.o.lt;clear HEV hb7 HCT HRD HRU c0 c1 c2 c3 hka' hkb;go_wp2_with fail;refine Ae AN ?_;refine He (λ_ a b=>Hc (w.heap.size+1) a b) (frame:=(λ(a b c d e f g h i j k l m n o p q r s u v w x y z A B C D E F G H I J K L M N O P Q R S T U V W X Y Z a0 a1 a2 a3:UL)=>λ(t:Nat->UL)=>({ tmps:=List.toArray [a,b,c,t 9,d,e,f,g,h,i,j,k,l,m,n,o,p,q,r,s,u,v,w,x,y,z,A,B,C,D,E,F,G,H,I,J,K,L,M,N,O,P,Q,R,S,T,U,V,W,X,Y,Z,a0,a1,a2,a3,t 0,t 1,t 2,t 3,t 4,t 5,t 6,t 7],defers:=[] }:Act)) _ _ _ _ _ _ _ _ _ _ _ _ _ _ _ _ _ _ _ _ _ _ _ _ _ _ _ _ _ _ _ _ _ _ _ _ _ _ _ _ _ _ _ _ _ _ _ _ _ _ _ _ _ _ _)
      (Ext:=QA w W2 db ub k T nT) (Good:=λi L w' v=>if i=0 then v=UN (db.map (Value.int UH)).toArray else if i=1 then v=UN (ub.map (Value.int UH)).toArray else if i=2 then v=UM (UI ⟨w.heap.size,2,UJ⟩) else if i=3 then v=UE UO k else if i=4 then v=UM (UI ⟨w.heap.size,3,UJ⟩) else if i=5 then v=UD aT nT cT else if i=6 then QX w.heap.size w' v T nT else if i=7 then Sy w.heap.size w' v db ub k T nT else if i=8 then L 8=true else if i=9 then v=UF true else True) ?hstab AN ?hop ?hdone _ _ ((λ(x0 x1 x2 x3 x4 x5 x6 x7 x9:UL)=>λ(i:Nat)=>if i=0 then x0 else if i=1 then x1 else if i=2 then x2 else if i=3 then x3 else if i=4 then x4 else if i=5 then x5 else if i=6 then x6 else if i=7 then x7 else if i=9 then x9 else undef) _ _ _ _ _ _ _ _ _) _ AM ?ext ?start AM
     case start=>intro i hi h;exact absurd h E0
     case ext=>exact⟨⟨rfl,rfl,rfl,AY _,λ_ _ _=>rfl⟩,λ_=>HEV2.o.res,λh=>by simp at h⟩
     case hstab=>
      intro j L w9 w' i v hM _ _ h;by_cases h6:j=6
      ·subst h6;simp at h |-;exact h.wrh hM
      by_cases h7:j=7
      ·subst h7;simp at h |-;exact h.wrh hM
      by_cases h8:j=8
      ·subst h8;simp at h |-;unfold Ct;simp[h]
      simp only[if_neg h6,if_neg h7,if_neg h8] at h |-;exact h
     case hop=>
      intro i o L t w' ho hLi hx hdep K hK;have hi:i<10:=(AQ.1 ho).1;obtain rfl|rfl|rfl|rfl|rfl|rfl|rfl|rfl|rfl|rfl:i=0\/i=1\/i=2\/i=3\/i=4\/i=5\/i=6\/i=7\/i=8\/i=9:=AK
      all_goals(simp at ho;subst ho)
      ·clear hdep;have hK':=hK w' (UN (db.map (Value.int UH)).toArray) AM (hx.ref 0 AL) (Hc.refl _ _);have hr:=hx.1.row8 HRD2.o HGD.o;clear hK;rw[AR AO];refine BL 75 (UT 4) rfl Gd rfl 75 _ (0,0) _ hr Tryz.underlying75 rfl HSZd.o ?_;go_simp;simpa[Cr] using hK'
      ·clear hdep;have hK':=hK w' (UN (ub.map (Value.int UH)).toArray) AM (hx.ref 1 AL) (Hc.refl _ _);have hr:=hx.1.row8 HRU2.o HGU.o;clear hK;rw[AR AO];refine BL 75 (UT 6) rfl Gu rfl 75 _ (0,0) _ hr Tryz.underlying75 rfl HSZu.o ?_;go_simp;simpa[Cr] using hK'
      ·clear hdep;have hK':=hK w' (UM (UI ⟨w.heap.size,2,UJ⟩)) AM (hx.ref 2 AL) (Hc.refl _ _);clear hK;rw[AR AO];go_simp;simpa[Cr] using hK'
      ·have d2:t 2=UM (UI ⟨w.heap.size,2,UJ⟩):=by simpa using hdep ⟨2,.data⟩ AM rfl
       clear hdep;have cc:w'.cell? ⟨w.heap.size,2,UJ⟩=UI (UE UO k):=by rw[Aa (a:=⟨w.heap.size,2,UJ⟩) (w:=W2) (hx.1.block _ HEV2.o.lt (by show w.heap.size≠w.heap.size+1;omega)),AA HEV2.o.box 2];rfl
       have hK':=hK w' (UE UO k) AM (hx.ref 3 AL) (Hc.refl _ _);clear hK;rw[AR AO];go_simp;rw[HKE.o] at hK';simpa[Cr,d2] using hK'
      ·clear hdep;have hK':=hK w' (UM (UI ⟨w.heap.size,3,UJ⟩)) AM (hx.ref 4 AL) (Hc.refl _ _);clear hK;rw[AR AO];go_simp;simpa[Cr] using hK'
      ·have d4:t 4=UM (UI ⟨w.heap.size,3,UJ⟩):=by simpa using hdep ⟨4,.data⟩ AM rfl
       clear hdep;have cc:w'.cell? ⟨w.heap.size,3,UJ⟩=UI (UD aT nT cT):=by rw[Aa (a:=⟨w.heap.size,3,UJ⟩) (w:=W2) (hx.1.block _ HEV2.o.lt (by show w.heap.size≠w.heap.size+1;omega)),AA HEV2.o.box 3];rfl
       have hK':=hK w' (UD aT nT cT) AM (hx.ref 5 AL) (Hc.refl _ _);clear hK;rw[AR AO];go_simp;simpa[Cr,d4] using hK'
      ·have d5:t 5=UD aT nT cT:=by simpa using hdep ⟨5,.data⟩ AM rfl
       clear hdep;have A:=OT aT nT cT T w' HNT.o.1 HNT.o.2.1 (HAT.o.wrh9 (HEV2.o.below) hx.1) HNT.o.2.2;have hK':∀ ww v,QX w.heap.size ww v T nT->Below w'.heap.size w' ww->K _ ww:=λww v hv hb=>hK ww v (by simpa using hv) (hx.low 6 AL HEV2.o hb) (Hc.of_below hb)
       clear hK;rw[AR AO];go_simp;try simp only[d5]
       refine A.mono ?_;rintro e w9 ⟨v9,rfl,hv9,ho9,hb9⟩;have hK2:=hK' w9 v9 ⟨w'.heap.size,AI hx.1.size HEV2.o.lt2,hv9,ho9⟩ hb9;clear hK' A hv9 ho9 hb9;go_simp;simpa[Cr,d5] using hK2
      ·have d0:t 0=UN (db.map (Value.int UH)).toArray:=by simpa using hdep ⟨0,.data⟩ AM rfl
       have d1:t 1=UN (ub.map (Value.int UH)).toArray:=by simpa using hdep ⟨1,.data⟩ AM rfl
       have d3:t 3=UE UO k:=by simpa using hdep ⟨3,.data⟩ AM rfl
       have f6:QX w.heap.size w' (t 6) T nT:=by simpa using hdep ⟨6,.data⟩ AM rfl
       clear hdep;obtain⟨B9,hB9,hv9,ho9⟩:=f6;have hK':=hK w' (UN (Fe db ub k (t 6))) (by simpa using⟨t 6,rfl,B9,hB9,hv9,ho9⟩) (hx.ref 7 AL) (Hc.refl _ _);clear hK;rw[AR AO];refine OW rfl d0 d1 d3 (show _=t 6 from rfl) HLD.o.1 HLD.o.2 (ND hv9) ?_;simpa[Cr,Act.put] using hK'
      ·have f7:Sy w.heap.size w' (t 7) db ub k T nT:=by simpa using hdep ⟨7,.data⟩ AM rfl
       clear hdep;obtain⟨v9,e9,B9,hB9,hv9,ho9⟩:=f7;have hrs:=hx.2.1 hLi;have hK':∀ ww,ww.heap[w.heap.size+1]?=UI (UP (Fe db ub k v9) 77 (0,0))->Wr (w.heap.size+1) w' ww->K _ ww:=λww hr hw=>hK ww undef (by simp[Ct]) (hx.put hr hw ⟨B9,hB9,hv9,ho9⟩) hw.wrH
       clear hK;rw[AR AO];refine A8 77 (UT 2) (UT 63) rfl (w.heap.size+1) (Fe db ub k v9) rfl e9 77 _ hrs (by rw[Hn HLD.o.1 HLD.o.2];exact Tryz.sizeBook) (by rw[Hn HLD.o.1 HLD.o.2];exact E1) (MR _ _ _ ho9) ?_;have hK2:=hK' _ (AB hrs) (Wr.setRow _ _ _);clear hK';simpa[Cr,Act.put] using hK2
      ·clear hdep;have hK':=hK w' (UF true) AM (hx.ref 9 AL) (Hc.refl _ _);clear hK;rw[AR AO];go_simp;simpa[Cr] using hK'
     case hdone=>
      intro L t w9 hx hg;have l8:L 8=true:=by simpa using hg 8 AL
      have d9:t 9=UF true:=by simpa using hg 9 AL
      clear hg;obtain⟨v9,hr9,B9,hB9,hv9,ho9⟩:=hx.2.2 l8;have HF:AP (Tt w D U k T nT (.returned (.tuple #[UN (Fe db ub k v9),UF true])) w9):=
       ⟨Fe db ub k v9,by rw[HYE.o],Hn HLD.o.1 HLD.o.2 _ _,MR _ _ _ ho9,(HEV2.o.below).trans (hx.1.below w.heap.size AK HEV2.o.below.size),λ_=>⟨db,ub,v9,rfl,HSD.o,HSU.o,hv9.mono AK⟩⟩
      have HR9:AP (w9.heap[w.heap.size+1]?=UI (UP (Fe db ub k v9) 77 (0,0))):=hr9;have HZ9:AP ((Tryz.prog.info? 77).map (·.size)=UI (Fe db ub k v9).size):=by show _=_;rw[Hn HLD.o.1 HLD.o.2];exact Tryz.sizeBook
      simp only[d9];clear hx hr9 hv9 ho9 d9;go_wp2_with fail;exact AZ (v:=.tuple #[UN (Fe db ub k v9),UF true]) (Ec rfl _ _ (w.heap.size+1) _ _ rfl rfl HR9.o HZ9.o) rfl HF.o
   ·have hka':(k == (nU:Int)-nT)=false:=by simpa using hka
    have HKN:AP (¬ k=(nU:Int)-nT):=hka;have hkb:decide (k<0)=false:=Ar hk;clear hka hk hk0 hk1;have HRS:AP (W.heap[w.heap.size+1]?=UI (UP Tryz.zeroCells77 77 (0,0))):=HEV.o.res;have HFB:AP (GI D U k T nT=false):=ES (λh=>by have:=h.2.2.2.2.1;rw[HLN.o.2] at this;exact HKN.o AK)
    go_upto_region 6 with fail
    go_wp2_with (first
     |(refine EP (UT 6) rfl (by simp[Region.wanted,yielded]) ?_)
     |(refine AC 77 (UT 2) (UT 55) (w.heap.size+1) Tryz.zeroCells77 77 HRS.o Tryz.sizeBook rfl EW ?_)
     |fail)
    refine AZ (v:=.tuple #[UN Tryz.zeroCells77,UF false]) (Ec rfl _ _ (w.heap.size+1) _ _ rfl rfl (AB HRS.o) Tryz.sizeBook) rfl ?_;exact⟨Tryz.zeroCells77,by rw[HFB.o],E1,EW,HEV.o.below.trans ((Wr.setRow _ _ _).below AK),λh=>by rw[HFB.o] at h;cases h⟩
 ·have h16':16<(nD:Int):=AK
  have HRS:AP (W.heap[w.heap.size+1]?=UI (UP Tryz.zeroCells77 77 (0,0))):=HEV.o.res;have HFB:AP (GI D U k T nT=false):=ES (λh=>by have:=h.2.1;rw[HLN.o.1] at this;omega)
  go_upto_region 4 with fail
  go_wp2_with (first
   |(refine EP (UT 6) rfl (by simp[Region.wanted,yielded]) ?_)
   |(refine AC 77 (UT 2) (UT 32) (w.heap.size+1) Tryz.zeroCells77 77 HRS.o Tryz.sizeBook rfl EW ?_)
   |fail)
  refine AZ (v:=.tuple #[UN Tryz.zeroCells77,UF false]) (Ec rfl _ _ (w.heap.size+1) _ _ rfl rfl (AB HRS.o) Tryz.sizeBook) rfl ?_;exact⟨Tryz.zeroCells77,by rw[HFB.o],E1,EW,HEV.o.below.trans ((Wr.setRow _ _ _).below AK),λh=>by rw[HFB.o] at h;cases h⟩
end Go.Proofs.YthmeoilbmfdhfaaGreat
