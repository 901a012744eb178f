import Derived.Test.YthmeoilbmfdhfaaGreatMSuT
import Derived.Test.YthmeoilbmfdhfaaGreatRcH
namespace Go.Proofs.YthmeoilbmfdhfaaGreat
open Go.ChangeShapes Go.WideShapes Go.ChangeAt Go.RowKit
set_option linter.unusedVariables false
theorem slF_u32 {zs:List Int} {ps:List PD} {i:Nat} (hb:Byte (slZ zs ps i)):0≤(slF zs ps i).g:=by
 unfold slF;split
 ·exact(dkF_u32 hb).1
 ·decide
theorem nwK_g {zs:List Int} {ps:List PD} (hb:∀ i,i<2→Byte (slZ zs ps i)):∀ q,q≤2→0≤(nwK zs ps q).g
 |0,_=>(by decide:(0:Int)≤dkNo.g)
 |q+1,h=>by
  unfold nwK;split
  ·exact slF_u32 (hb q (by omega))
  ·exact nwK_g hb q (by omega)
theorem jrF_seq (zs:List Int) (ps:List PD) (J:Nat):∀ n q k,(jrF zs ps J q n).length=k*4→(∀ i,i<k→(jrF zs ps J q n).getD (i*4) 0=((q+i:Nat):Int))∧(0<k→q+k≤4000000000)
 |0,q,k,h=>by
  have:k=0:=by simp[jrF] at h;omega
  subst this;exact⟨fun i hi=>absurd hi (by omega),fun h=>absurd h (by omega)⟩
 |n+1,q,k,h=>by
  by_cases hc:q<4000000000∧jrOk zs ps J q=true
  ·rw[jrF_yes hc.1 hc.2] at h ⊢;rw[List.length_append,fr4_len] at h;obtain⟨k',rfl⟩:∃ k',k=k'+1:=⟨k-1,by omega⟩
   obtain⟨i1,i2⟩:=jrF_seq zs ps J n (q+1) k' (by omega);refine⟨fun i hi=>?_,fun _=>?_⟩
   ·cases i with
    |zero=>
     have:=hc.2;unfold jrOk at this;simp at this;show num4 (jrT zs ps J q) 0=_
     rw[this.2];simp
    |succ i=>
     rw[show(i+1)*4=i*4+4 by omega,List.getD,List.getElem?_append_right (by rw[fr4_len];omega),fr4_len,Nat.add_sub_cancel];have:=i1 i (by omega);rw[List.getD] at this;rw[this];congr 1;omega
   ·by_cases h0:0<k'
    ·have:=i2 h0;omega
    ·omega
  ·have e:jrF zs ps J q (n+1)=[]:=by show(if _ then _ else _)=_;rw[if_neg hc]
   rw[e] at h ⊢;have:k=0:=by simp at h;omega
   subst this;exact⟨fun i hi=>absurd hi (by omega),fun h=>absurd h (by omega)⟩
structure ImF (zs:List Int) (f:Int) (r:ImR) (n:Nat):Prop where
 v:vBase zs.length 0 f
 ok:r.ok=true
 st:StP r.sD r.sU (r.sU.length:Int) [] 0
 fr:FrB r.F
 len:r.F.length=n*4
 nJ:n≤zs.length/64-4
 seq:∀ i,i<n→r.F.getD (i*4) 0=r.t+i
 nx:r.nx=r.t+n
 top:r.t+n≤4000000000
 t1:1≤r.t
 g0:0≤r.g∧r.g≤4000000000
 ap:(apK ⟨true,r.sD,r.sU,(r.sU.length:Int),[],0⟩ r.F n).ok=true
theorem imF_of {zs:List Int} {f:Int} {r:ImR} (hr:imG zs [] f=r) (hok:r.ok=true) (bz:Byte zs):∃ n,ImF zs f r n:=by
 subst hr;unfold imG at hok ⊢;split at hok
 ·next hv=>
  rw[if_pos hv];have hD:DvF zs.length zs.length 0 f zs []:=⟨rfl,rfl,hv,Nat.le_refl _,bz,by simp[Byte]⟩
  unfold imF at hok ⊢;split at hok
  ·next hn=>
   rw[if_pos hn];have hs:=nwK_snp 2 hn;have hg:=nwK_g (zs:=zs) (ps:=[]) (fun i hi=>(hD.sl i hi).2) 2 (Nat.le_refl _);unfold imR at hok ⊢;split at hok
   ·next ha=>
    rw[if_pos ha];obtain⟨b1,b2,b3,b4⟩:=hD.base;obtain⟨k,hk,hl⟩:=jrF_len zs [] (zs.length/64-4) (zs.length/64-4) (nwK zs [] 2).t.toNat;obtain⟨q1,q2⟩:=jrF_seq zs [] (zs.length/64-4) (zs.length/64-4) (nwK zs [] 2).t.toNat k hl;have ht:(((nwK zs [] 2).t.toNat:Nat):Int)=(nwK zs [] 2).t:=Int.toNat_of_nonneg (by have:=hs.2.1;omega);have h4:(jrF zs [] (zs.length/64-4) (nwK zs [] 2).t.toNat (zs.length/64-4)).length/4=k:=by rw[hl];omega
    refine⟨k,(validB_of hv).1,rfl,hs.st,jrF_frb zs [] _ (fun q=>(hD.jr q).2) _ _,hl,hk,fun i hi=>?_,?_,?_,hs.2.1,⟨hg,hs.1⟩,?_⟩
    ·show(jrF _ _ _ _ _).getD _ _=(nwK zs [] 2).t+(i:Int);rw[q1 i hi];omega
    ·show _+_=_;rw[h4]
    ·by_cases h0:0<k
     ·have:=q2 h0;show(nwK zs [] 2).t+k≤_;omega
     ·have:=hs.2.2.1;show(nwK zs [] 2).t+k≤_;omega
    ·have:=ha;unfold imA at this;rw[h4] at this;exact this
   ·cases hok
  ·cases hok
 ·cases hok
theorem cutR_at {F:List Int} {nF:Nat} {ak nx t:Int} (hs:∀ i,i<nF→F.getD (i*4) 0=t+i) (hn:nx=t+nF):∀ k n,k≤nF→∃ m:Nat,m≤nF∧cutR F nF ak nx k n=t+m
 |0,n,_=>⟨nF,Nat.le_refl _,hn⟩
 |k+1,n,h=>by
  unfold cutR;split
  ·split
   ·exact⟨nF-(k+1),by omega,hs _ (by omega)⟩
   ·exact cutR_at hs hn k _ (by omega)
  ·exact cutR_at hs hn k _ (by omega)
noncomputable def cutI (r:ImR):Int:=cutV r.ok r.sU.length r.F (r.F.length/4) r.k r.nx
theorem ImF.cut {zs:List Int} {f:Int} {r:ImR} {n:Nat} (h:ImF zs f r n):∃ m:Nat,m≤n∧cutI r=r.t+m:=by
 unfold cutI cutV;rw[if_pos h.ok,show r.F.length/4=n by rw[h.len];omega];exact cutR_at h.seq h.nx n _ (Nat.le_refl _)
noncomputable def cmA (r:ImR):ApR:=apK ⟨true,r.sD,r.sU,(r.sU.length:Int),[],0⟩ r.F (cutI r-r.t).toNat
noncomputable def cmL (r:ImR):List Int:=snL (r.g+1) (cutI r) (cmA r).D (cmA r).U
noncomputable def cmT (zs:List Int) (f:Int) (r:ImR):DO:=cmO zs f ((r.g+1)%2*2).toNat ((cmL r).take 64) ((cmL r).drop 64)
theorem ImF.apm {zs:List Int} {f:Int} {r:ImR} {n:Nat} (h:ImF zs f r n) {m:Nat} (hm:m≤n):(apK ⟨true,r.sD,r.sU,(r.sU.length:Int),[],0⟩ r.F m).ok=true:=by
 cases e:(apK ⟨true,r.sD,r.sU,(r.sU.length:Int),[],0⟩ r.F m).ok with
 |true=>rfl
 |false=>
  have:=apK_rest (r:=⟨true,r.sD,r.sU,(r.sU.length:Int),[],0⟩) rfl e hm;have h2:=h.ap;rw[this,e] at h2;cases h2
theorem ImF.snp {zs:List Int} {f:Int} {r:ImR} {n:Nat} (h:ImF zs f r n) (hg:r.g≠4000000000):SnP (r.g+1) (cutI r) (cmA r).D (cmA r).U∧(cmA r).ok=true:=by
 obtain⟨m,hm,hc⟩:=h.cut;have e:cmA r=apK ⟨true,r.sD,r.sU,(r.sU.length:Int),[],0⟩ r.F m:=by unfold cmA;rw[hc,show(r.t+(m:Int)-r.t).toNat=m by omega]
 have hok:=h.apm hm;have hs:=(apK_st (r:=⟨true,r.sD,r.sU,(r.sU.length:Int),[],0⟩) h.fr h.st rfl m (by rw[h.len];omega) hok).1;rw[←e] at hok hs;have:=h.g0;have:=h.t1;have:=h.top;exact⟨⟨by omega,by omega,by omega,hs.1,hs.2.1,hs.2.2.1⟩,hok⟩
theorem Byte.take {zs:List Int} (h:Byte zs) (k:Nat):Byte (zs.take k):=fun x hx=>h x (List.mem_of_mem_take hx)
theorem Byte.drop {zs:List Int} (h:Byte zs) (k:Nat):Byte (zs.drop k):=fun x hx=>h x (List.mem_of_mem_drop hx)
theorem cmO_len {zs:List Int} {f:Int} {s:Nat} {z0 z1:List Int} (h0:z0.length=64) (h1:z1.length=64) (hs:(s+2)*64≤zs.length):(cmO zs f s z0 z1).1.length=zs.length:=by
 have a:=overL_len zs s z0 (by omega);have b:=overL_len (overL zs s z0) (s+1) z1 (by omega);unfold cmO
 (repeat' split)<;>first|rfl|exact a|exact b.trans a
theorem cmO_byte {zs:List Int} {f:Int} {s:Nat} {z0 z1:List Int} (h:Byte zs) (h0:Byte z0) (h1:Byte z1):Byte (cmO zs f s z0 z1).1:=by
 have a:=overL_byte s h h0;have b:=overL_byte (s+1) a h1;unfold cmO
 (repeat' split)<;>first|exact h|exact a|exact b
theorem cmO_nil {zs:List Int} {f:Int} {s:Nat} {z0 z1:List Int}:(cmO zs f s z0 z1).2.2.2=false→(cmO zs f s z0 z1).2.1=[]:=by
 unfold cmO
 (repeat' split)<;>first|(intro h;cases h;done)|(intro _;rfl)
def dW (o:DO) (s:Int) (z:List Int):DO:=(o.1,wrP o.1.length o.2.1 o.2.2.1 o.2.2.2 s z,wrF o.1.length o.2.1 o.2.2.1 o.2.2.2 s z.length,wrD o.1.length o.2.1 o.2.2.1 o.2.2.2 s z.length)
def dY (o:DO):DO:=(syZ o.1 o.2.1 o.2.2.1 o.2.2.2,syP o.1.length o.2.1 o.2.2.1 o.2.2.2,syF o.1.length o.2.1 o.2.2.1 o.2.2.2,syD o.1.length o.2.1 o.2.2.1 o.2.2.2)
section
variable {zs z:List Int} {ps:List PD} {f:Int} {s:Nat}
theorem dW_dead (s:Int):dW (zs,ps,f,true) s z=(zs,ps,f,true):=by
 have e:∀ n,wrOn zs.length ps f true s n=false:=fun n=>by simp[wrOn]
 simp[dW,wrP,wrF,wrD,e]
theorem dY_dead:dY (zs,ps,f,true)=(zs,ps,f,true):=by simp[dY,syZ,syP,syF,syD,syOn]
theorem dW_live (hv:validB zs.length [] f=true) (hs:(s+1)*64≤zs.length) (hz:z.length=64):dW (zs,[],f,false) (s:Int) z=if f=0 then(zs,[],0,true) else(zs,[((s:Int),z)],stF f,false):=by
 have e:wrOn zs.length [] f false (s:Int) 64=true:=by
  unfold wrOn hasS;rw[hv];simp;omega
 unfold dW wrP wrF wrD;simp only[hz,e];by_cases h:f=0<;>simp[h,stF,stD]
theorem dY_live (hv:validB zs.length [((s:Int),z)] f=true) (hz:z.length=64):dY (zs,[((s:Int),z)],f,false)=if f=0 then(zs,[((s:Int),z)],0,true) else(overL zs s z,[],stF f,false):=by
 have e:syL zs [((s:Int),z)] 1=overL zs s z:=syL_succ (zs:=zs) (ps:=[((s:Int),z)]) (k:=0) (s:=s) (by simp) rfl hz;unfold dY syZ syP syF syD syOn;simp only[hv];by_cases h:f=0
 ·simp[h,stF,stD]
 ·simp[h,stD,e]
theorem vb_one (hv:vBase zs.length 0 f) (hs:(s+1)*64≤zs.length) (hz:z.length=64):validB zs.length [((s:Int),z)] f=true:=validB_yes ⟨hv.1,hv.2.1,hv.2.2.1,by simp,hv.2.2.2.2⟩ fun i hi=>by
 obtain rfl:i=0:=by simpa using hi
 exact⟨by simp,by show(s:Int)<((zs.length/64:Nat):Int);omega,by simpa using hz⟩
theorem vb_nil (hv:vBase zs.length 0 f):validB zs.length [] f=true:=validB_yes hv fun i hi=>by simp at hi
theorem vb_st {L:Nat} (hv:vBase L 0 f) (h:f≠0):vBase L 0 (stF f):=by
 obtain⟨a,b,c,d,e,g⟩:=hv;refine⟨a,b,c,d,?_,?_⟩<;>(unfold stF;split<;>omega)
theorem cm_eq {z1:List Int} (hv:vBase zs.length 0 f) (hs:(s+2)*64≤zs.length) (hz:z.length=64) (hz1:z1.length=64):dY (dW (dY (dW (zs,[],f,false) (s:Int) z)) ((s:Int)+1) z1)=cmO zs f s z z1:=by
 have hi:((s:Int)+1)=((s+1:Nat):Int):=by omega
 rw[dW_live (vb_nil hv) (by omega) hz];unfold cmO;by_cases h0:f=0
 ·rw[if_pos h0,if_pos h0,dY_dead,dW_dead,dY_dead]
 rw[if_neg h0,if_neg h0];have v1:=vb_st hv h0;rw[dY_live (vb_one v1 (by omega) hz) hz];by_cases h1:f=1
 ·subst h1;rw[if_pos (by decide),if_pos rfl,dW_dead,dY_dead]
 have h1':stF f≠0:=by unfold stF;split<;>omega
 rw[if_neg h1',if_neg h1];have v2:=vb_st v1 h1';have lo:(overL zs s z).length=zs.length:=overL_len zs s z (by omega);rw[hi,dW_live (by rw[lo];exact vb_nil v2) (by rw[lo];omega) hz1];by_cases h2:f=2
 ·subst h2;rw[if_pos (by decide),if_pos rfl,dY_dead]
 have h2':stF (stF f)≠0:=by unfold stF;(repeat' split)<;>omega
 rw[if_neg h2',if_neg h2];have v3:=vb_st v2 h2';rw[dY_live (vb_one (by rw[lo];exact v3) (by rw[lo];omega) hz1) hz1];by_cases h3:f=3
 ·subst h3;rw[if_pos (by decide),if_pos rfl]
 have h3':stF (stF (stF f))≠0:=by unfold stF;(repeat' split)<;>omega
 rw[if_neg h3',if_neg h3];have:=hv.2.2.2.2.1;have e4:stF (stF (stF (stF f)))=if f=-1 then -1 else f-4:=by
  by_cases hm:f=-1
  ·subst hm;rfl
  rw[if_neg hm];unfold stF;(repeat' split)<;>omega
 rw[e4]
end
structure DOk (L:Nat) (o:DO):Prop where
 len:o.1.length=L
 pl:o.2.1.length≤1
 ps:∀ i,(o.2.1.getD i (0,[])).2.length≤64
 bz:Byte o.1
 bp:∀ i,Byte (o.2.1.getD i (0,[])).2
 f:o.2.2.1≤1000000
theorem getD1 {P:List Int→Prop} {a:Int} {z:List Int} (h0:P []) (h:P z) (i:Nat):P (([(a,z)]:List PD).getD i (0,[])).2:=by
 match i with
 |0=>exact h
 |i+1=>simpa using h0
theorem byte_nil:Byte []:=fun x h=>absurd h (by simp)
theorem DOk.start {zs:List Int} {f:Int} (bz:Byte zs) (hf:f≤1000000):DOk zs.length (zs,[],f,false):=⟨rfl,by simp,by simp,bz,fun i=>by simpa using byte_nil,hf⟩
section
variable {L:Nat} {zs z:List Int} {f:Int} {s:Nat}
theorem DOk.w {o:DO} (h:DOk L o) (h0:o.2.1=[]∨o.2.2.2=true) (s:Int) (hz:z.length=64) (bz:Byte z):DOk L (dW o s z):=by
 obtain⟨zs,ps,f,d⟩:=o;have hF:wrF zs.length ps f d s z.length≤1000000:=by have:=h.f;unfold wrF stF;(repeat' split)<;>simp at this ⊢<;>omega
 rcases h0 with h0|h0
 ·simp at h0;subst h0;by_cases hc:(wrOn zs.length [] f d s z.length && decide (f≠0))=true
  ·have e:wrP zs.length [] f d s z=[(s,z)]:=by unfold wrP;rw[if_pos hc];rfl
   refine⟨h.len,?_,?_,h.bz,?_,hF⟩
   ·show(wrP zs.length [] f d s z).length≤1;rw[e];simp
   ·show ∀ i,((wrP zs.length [] f d s z).getD i (0,[])).2.length≤64;rw[e];exact getD1 (P:=fun z=>z.length≤64) (by simp) (by omega)
   ·show ∀ i,Byte ((wrP zs.length [] f d s z).getD i (0,[])).2;rw[e];exact getD1 (P:=Byte) byte_nil bz
  ·have e:wrP zs.length [] f d s z=[]:=by unfold wrP;rw[if_neg hc]
   refine⟨h.len,?_,?_,h.bz,?_,hF⟩
   ·show(wrP zs.length [] f d s z).length≤1;rw[e];simp
   ·show ∀ i,((wrP zs.length [] f d s z).getD i (0,[])).2.length≤64;rw[e];simp
   ·show ∀ i,Byte ((wrP zs.length [] f d s z).getD i (0,[])).2;rw[e];exact fun i=>by simpa using byte_nil
 ·simp at h0;subst h0;rw[dW_dead];exact h
end
theorem DOk.mid {zs z:List Int} {f:Int} {s:Nat} (hv:vBase zs.length 0 f) (bz:Byte zs) (hs:(s+1)*64≤zs.length) (hz:z.length=64) (b0:Byte z):DOk zs.length (dY (dW (zs,[],f,false) (s:Int) z))∧((dY (dW (zs,[],f,false) (s:Int) z)).2.1=[]∨(dY (dW (zs,[],f,false) (s:Int) z)).2.2.2=true):=by
 have hf:=hv.2.2.2.2.2;rw[dW_live (vb_nil hv) hs hz];by_cases h0:f=0
 ·rw[if_pos h0,dY_dead];exact⟨⟨rfl,by simp,by simp,bz,fun i=>by simpa using byte_nil,by simp⟩,.inr rfl⟩
 rw[if_neg h0];have v1:=vb_st hv h0;rw[dY_live (vb_one v1 hs hz) hz];by_cases h1:stF f=0
 ·rw[if_pos h1];exact⟨⟨rfl,by simp,getD1 (P:=fun z=>z.length≤64) (by simp) (by omega),bz,getD1 (P:=Byte) byte_nil b0,by simp⟩,.inr rfl⟩
 ·rw[if_neg h1];exact⟨⟨overL_len zs s z (by omega),by simp,by simp,overL_byte s bz b0,fun i=>by simpa using byte_nil,(vb_st v1 h1).2.2.2.2.2⟩,.inl rfl⟩
theorem DOk.fin {zs z z1:List Int} {f:Int} {s:Nat} (hv:vBase zs.length 0 f) (bz:Byte zs) (hs:(s+2)*64≤zs.length) (hz:z.length=64) (b0:Byte z) (hz1:z1.length=64) (b1:Byte z1):DOk zs.length (cmO zs f s z z1):=by
 refine⟨cmO_len hz hz1 hs,?_,?_,cmO_byte bz b0 b1,?_,?_⟩
 ·unfold cmO;(repeat' split)<;>simp
 ·unfold cmO;(repeat' split)<;>first|exact getD1 (P:=fun z=>z.length≤64) (by simp) (by omega)|simp
 ·unfold cmO;(repeat' split)<;>first|exact getD1 (P:=Byte) byte_nil b0|exact getD1 (P:=Byte) byte_nil b1|exact fun i=>by simpa using byte_nil
 ·have:=hv.2.2.2.2;unfold cmO;(repeat' split)<;>simp<;>(repeat' split)<;>omega
section
variable {w:World} {v:Value} {o:DO} {L:Nat} {xa:Option Addr} {xc:Nat} {z:List Int}
theorem swD (h:DAt w v o.1 o.2.1 o.2.2.1 o.2.2.2) (k:DOk L o) (hL:L≤1048576) (s:Int) (hx:At .u8 w xa z) (hz:z.length=64) :
  Calls Tryz.prog 54 #[v,.int .i64 s,.slice xa 64 xc] w fun e w'=>∃ r,e=.returned r∧DAt w' r (dW o s z).1 (dW o s z).2.1 (dW o s z).2.2.1 (dW o s z).2.2.2∧Below w.heap.size w w':=
 (swr_any v o.1 o.2.1 o.2.2.1 o.2.2.2 s xa 64 xc z w h hx hz (by rw[k.len];exact hL) (by have:=k.pl;omega) (fun i=>by have:=k.ps i;omega) (by decide) (by have:=k.f;omega)).mono fun e w' ⟨r,e,h,b⟩=>⟨r,e,h.at_,b⟩
theorem syD9 (h:DAt w v o.1 o.2.1 o.2.2.1 o.2.2.2) (k:DOk L o) (hL:L≤1048576) :
  Calls Tryz.prog 53 #[v] w fun e w'=>∃ r,e=.returned r∧DvY w.heap.size w' r (dY o).1 (dY o).2.1 (dY o).2.2.1 (dY o).2.2.2∧Below w.heap.size w w':=
 ssyX_any v o.1 o.2.1 o.2.2.1 o.2.2.2 w h (by rw[k.len];exact hL) (by have:=k.pl;omega) (fun i=>by have:=k.ps i;omega) (by have:=k.f;omega)
end
noncomputable def cpD (zs:List Int) (f:Int) (r:ImR):DO:=if cutI r=r.t∨r.g=4000000000 then(zs,[],f,false) else cmT zs f r
noncomputable def cpI (zs:List Int) (f:Int) (r:ImR):ImR:=if cutI r=r.t∨r.g=4000000000 then r else afI r (cmT zs f r)
noncomputable def cpC (zs:List Int) (f:Int) (r:ImR):Int:=if cutI r=r.t then 9 else if r.g=4000000000 then 8 else afC 9 (cmT zs f r)
theorem snL_byte {gn tl:Int} {D U:List Int} (hs:SnP gn tl D U) (ug:U32 gn) (ut:U32 tl):Byte (snL gn tl D U):=by
 have h:=snE_byte (D:=D) (U:=U) ug ut;unfold snE at h;rw[snB_yes hs] at h;exact h
theorem cp_same {zs:List Int} {f:Int} {r:ImR} (h:cutI r=r.t∨r.g=4000000000):cpD zs f r=(zs,[],f,false)∧cpI zs f r=r:=by unfold cpD cpI;rw[if_pos h,if_pos h];exact⟨rfl,rfl⟩
theorem cp_else {zs:List Int} {f:Int} {r:ImR} (h1:¬ cutI r=r.t) (h2:¬ r.g=4000000000):cpD zs f r=cmT zs f r∧cpI zs f r=afI r (cmT zs f r)∧cpC zs f r=afC 9 (cmT zs f r):=by
 unfold cpD cpI cpC;rw[if_neg (by simp[h1,h2]),if_neg (by simp[h1,h2]),if_neg h1,if_neg h2];exact⟨rfl,rfl,rfl⟩
set_option maxRecDepth 100000 in
set_option maxHeartbeats 8000000 in
theorem cmp_any {lo:Nat} (G:Nat) (C:Array Value) (zs ks:List Int) (f:Int) (r:ImR) (n:Nat) (w:World) (hG:w.heap[G]?=some (.cells C 48 (0,0))) (h:GL lo w C zs ks f false r) (hI:ImF zs f r n) (hn:0<n) (hle:ImLe r) (bz:Byte zs) (hk:ks.length≤1048576) :
  Calls Tryz.prog 66 #[.pointer (some ⟨G,0,none⟩)] w fun e w'=>∃ X,e=.returned (.agg X)∧RTQ w.heap.size w' X (cpC zs f r) (cpD zs f r).1 (cpD zs f r).2.1 ks (cpD zs f r).2.2.1 (cpD zs f r).2.2.2 (cpI zs f r)∧Below w.heap.size w w':=by
 have hv:=hI.v;have hz:zs.length≤1048576:=by have:=hv.2.2.1;have:=hv.1;omega
 have hz0:0<zs.length:=by have:=hv.2.1;omega
 obtain⟨m,hm,hcut⟩:=hI.cut;have HGL:=hid_ofV h;obtain⟨da,dc,ca,cc,ka,kc,aSD,nSD,cSD,aSU,nSU,cSU,aF,mF,cF,aD,nD,cD,aU,nU,cU,aT,cT,hC,_,_,_,⟨A1,A2,A3,A4,A5,A6,e1,e2,e3,e4,e5,e6⟩,_⟩:=h;have HCT:=hid_ofV (fun ww (b:Below w.heap.size w ww)=>ict_any aSD aSU aF aD aU aT nSD cSD nSU cSU mF cF nD cD nU cU r.n cT r.sD r.sU r.F r.D r.U r.T r.g r.t r.k r.nx r.ok ww e3 (by have:=hle.2.2.1;omega) (by have:=hle.2.1;omega) (A3.below b));have hcv:cutV r.ok nSU r.F mF r.k r.nx=cutI r:=by unfold cutI;rw[e2,e3,show mF*4/4=mF by omega]
 rw[hcv] at HCT;have HG:=hid_ofV hG;have HC:=hid_ofV hC;have HGl:Hid (G<w.heap.size):=(Array.getElem?_eq_some_iff.1 hG).1;have HF:=hid_ofV hI;have HH:Hid (zs.length≤1048576∧0<zs.length∧ks.length≤1048576∧Byte zs∧ImLe r∧0<n):=⟨hz,hz0,hk,bz,hle,hn⟩
 have HM:Hid (m≤n∧cutI r=r.t+m):=⟨hm,hcut⟩
 have HO0:Hid (OE w 50 zrR (w.alloc (.cells zrR 50))):=OE.start _ _ _;have HSI:Hid ((Tryz.prog.info? 36).map (·.size)=some 11):=by show _=_;kernel_rfl
 obtain⟨cut,hct⟩:∃ c,cutI r=c:=⟨_,rfl⟩
 rw[hct] at HCT;have HCU:=hid_ofV hct;clear hv hz hz0 hm hcut hC A1 A2 A3 A4 A5 A6 e1 e2 e3 e4 e5 e6 hcv hG hI hn hle bz hk hct;go_enter Tryz.func66,Tryz.ntmps66
 go_upto_region 1 with fail
 change Code.wp _ _ _ _ (w.alloc (.cells zrR 50));generalize w.alloc (.cells zrR 50)=w1 at *;have r1:w1.heap[G]?=some (.cells C 48 (0,0)):=by rw[HO0.out.below.block _ HGl.out];exact HG.out
 have HM1:Hid (w1.rangeAt G 5 [.bool r.ok,.int .u32 r.g,.int .u32 r.t,.slice aSD nSD cSD,.slice aSU nSU cSU,.slice aF mF cF,.slice aD nD cD,.slice aU nU cU,.int .i64 r.k,.slice aT r.n cT,.int .u32 r.nx]):=by rw[HC.out] at r1;exact mid_row r1 5 _ rfl
 clear r1;go_wp2_with (first
  |(refine wpList_load_mid rfl 36 (.tmp 7) rfl G 5 rfl [.bool r.ok,.int .u32 r.g,.int .u32 r.t,.slice aSD nSD cSD,.slice aSU nSU cSU,.slice aF mF cF,.slice aD nD cD,.slice aU nU cU,.int .i64 r.k,.slice aT r.n cT,.int .u32 r.nx] _ HM1.out Tryz.underlying36 rfl HSI.out ?_)
  |fail)
 refine(HCT.out w1 HO0.out.below).mono ?_;rintro e w2 ⟨rfl,b2⟩;have HO2:=hid_ofV (HO0.out.call b2);have HL2:Hid (w.heap.size<w2.heap.size):=HO2.out.lt;have r2:w2.heap[G]?=some (.cells C 48 (0,0)):=by rw[HO2.out.below.block _ HGl.out];exact HG.out
 have c7:w2.cell? ⟨G,7,none⟩=some (.int .u32 r.t):=by rw[cell_of_row w2 G 7 _ _ _ r2,HC.out];rfl
 have c6:w2.cell? ⟨G,6,none⟩=some (.int .u32 r.g):=by rw[cell_of_row w2 G 6 _ _ _ r2,HC.out];rfl
 have HR2:=hid_ofV r2;have HG2:=hid_ofV (HGL.out.below HO2.out.below);clear b2 r2 HO0 HCT HM1;by_cases h1:cut=r.t
 ·have hq:(cut == r.t)=true:=by simp[h1]
  have HE:Hid (cpC zs f r=9∧cpD zs f r=(zs,[],f,false)∧cpI zs f r=r):=⟨by unfold cpC;rw[if_pos (HCU.out.trans h1)],(cp_same (.inl (HCU.out.trans h1))).1,(cp_same (.inl (HCU.out.trans h1))).2⟩
  clear h1;go_wp2_with fail;refine(unt_any G C 9 zs ks f false r w2 HR2.out HG2.out HH.out.2.2.2.2.1 HH.out.1 HH.out.2.2.1).mono ?_;rintro e w3 ⟨X,rfl,hR,hb3⟩;have HRQ:=hid_ofV hR;have HO3:=hid_ofV (HO2.out.call hb3);have HXX:Hid ((Tryz.prog.info? 50).map (·.size)=some X.size∧zrR.size=X.size∧X.all (·.oneCell')=true):=⟨by rw[hR.row.1];exact Tryz.sizeR,by rw[hR.row.1];rfl,hR.row.2⟩
  clear hR hb3;go_wp2_with (first
   |(refine wpList_store_row rfl 50 (.tmp 2) (.tmp 20) rfl w.heap.size X rfl rfl 50 _ HO3.out.b0 HXX.out.1 HXX.out.2.1 HXX.out.2.2 ?_)
   |fail)
  (try simp only[Exit.inBlock,Exit.then])
  exact bodyPost_ret (v:=.agg X) (results_cell_row rfl _ _ w.heap.size 50 _ (0,0) _ rfl (setRow_heap _ _ _ _ _ _ HO3.out.b0) Tryz.underlying50 rfl HXX.out.1) rfl ⟨_,rfl,by rw[HE.out.1,HE.out.2.1,HE.out.2.2];exact HRQ.out.put HL2.out,HO3.out.below.trans ((Wr.setRow _ _ _).below (Nat.le_refl _))⟩
 have hq:(cut == r.t)=false:=by simp[h1]
 by_cases h2:r.g=4000000000
 ·have hq2:(r.g == 4000000000)=true:=by simp[h2]
  have HE:Hid (cpC zs f r=8∧cpD zs f r=(zs,[],f,false)∧cpI zs f r=r):=⟨by unfold cpC;rw[if_neg (by rw[HCU.out];exact h1),if_pos h2],(cp_same (.inr h2)).1,(cp_same (.inr h2)).2⟩
  clear h1 h2;go_wp2_with fail;refine(unt_any G C 8 zs ks f false r w2 HR2.out HG2.out HH.out.2.2.2.2.1 HH.out.1 HH.out.2.2.1).mono ?_;rintro e w3 ⟨X,rfl,hR,hb3⟩;have HRQ:=hid_ofV hR;have HO3:=hid_ofV (HO2.out.call hb3);have HXX:Hid ((Tryz.prog.info? 50).map (·.size)=some X.size∧zrR.size=X.size∧X.all (·.oneCell')=true):=⟨by rw[hR.row.1];exact Tryz.sizeR,by rw[hR.row.1];rfl,hR.row.2⟩
  clear hR hb3;go_wp2_with (first
   |(refine wpList_store_row rfl 50 (.tmp 2) (.tmp 30) rfl w.heap.size X rfl rfl 50 _ HO3.out.b0 HXX.out.1 HXX.out.2.1 HXX.out.2.2 ?_)
   |fail)
  (try simp only[Exit.inBlock,Exit.then])
  exact bodyPost_ret (v:=.agg X) (results_cell_row rfl _ _ w.heap.size 50 _ (0,0) _ rfl (setRow_heap _ _ _ _ _ _ HO3.out.b0) Tryz.underlying50 rfl HXX.out.1) rfl ⟨_,rfl,by rw[HE.out.1,HE.out.2.1,HE.out.2.2];exact HRQ.out.put HL2.out,HO3.out.below.trans ((Wr.setRow _ _ _).below (Nat.le_refl _))⟩
 have hq2:(r.g == 4000000000)=false:=by simp[h2]
 have HE:=hid_ofV (cp_else (zs:=zs) (f:=f) (by rw[HCU.out];exact h1) h2);have HSP:=hid_ofV (HF.out.snp h2);have HGG:Hid (0≤r.g∧r.g<4000000000∧1≤r.t∧cut=r.t+m∧cut≤4000000000):=by have:=HF.out.g0;have:=HF.out.t1;have:=HF.out.top;have:=HM.out;have:=HCU.out;show _∧_;omega
 have HAM:Hid (apK ⟨true,r.sD,r.sU,(r.sU.length:Int),[],0⟩ r.F m=cmA r):=by show _=_;unfold cmA;rw[HM.out.2,show(r.t+(m:Int)-r.t).toNat=m by omega]
 have HSU:=hid_ofV (sut_any G C zs ks f false r w2 HR2.out HG2.out HH.out.2.2.2.2.1 HF.out.st HF.out.fr ⟨HGG.out.1,HGG.out.2.1⟩ (by have:=HGG.out;omega) cut m HGG.out.2.2.2.1 (by have:=HGG.out;omega) (by rw[HF.out.len];have:=HM.out;omega) (by rw[HF.out.len];have:=HH.out;omega) (cmA r) HAM.out HSP.out.2);clear h1 h2 HAM;go_wp2_with fail;refine HSU.out.mono ?_;rintro e w3 ⟨v,rfl,⟨bD,mD,dD,bU,mU,dU,rfl,s3⟩,b3⟩;have b4:Below w3.heap.size w3 (w3.alloc (.cells #[.int .u32 (r.g+1),.int .u32 cut,.slice bD mD dD,.slice bU mU dU] 30)):=(Below.refl _ _).alloc (Nat.le_refl _) _;have b24:=b3.trans (b4.mono b3.size);have HO4:=hid_ofV (HO2.out.call b24);have HR4:Hid ((w3.alloc (.cells #[.int .u32 (r.g+1),.int .u32 cut,.slice bD mD dD,.slice bU mU dU] 30)).heap[G]?=some (.cells C 48 (0,0))∧(w3.alloc (.cells #[.int .u32 (r.g+1),.int .u32 cut,.slice bD mD dD,.slice bU mU dU] 30)).heap[w3.heap.size]?=some (.cells #[.int .u32 (r.g+1),.int .u32 cut,.slice bD mD dD,.slice bU mU dU] 30 (0,0))):=⟨by rw[b24.block _ (by have:=HGl.out;have:=HL2.out;omega)];exact HR2.out,heap_alloc_new w3 _⟩
 have HG4:=hid_ofV (HG2.out.below b24);have HS4:=hid_ofV (s3.below b4);have HZ4:Hid ((w3.alloc (.cells #[.int .u32 0,.int .u32 0,.slice none 0 0,.slice none 0 0] 30)).heap[w3.heap.size]?=some (.cells #[.int .u32 0,.int .u32 0,.slice none 0 0,.slice none 0 0] 30 (0,0))∧(Tryz.prog.info? 30).map (·.size)=some 4):=⟨heap_alloc_new w3 _,by kernel_rfl⟩
 have HL4:Hid (w.heap.size<(w3.alloc (.cells #[.int .u32 (r.g+1),.int .u32 cut,.slice bD mD dD,.slice bU mU dU] 30)).heap.size):=HO4.out.lt;have hmf:∀(fn:Fn) (first cap:Array Value) (w:World),(Instr.makeFunc fn first cap).run Tryz.prog w=.ok (.func fn first cap) w:=fun _ _ _ _=>rfl
 clear s3 b3 b4 b24 HSU HR2 HG2 HO2 HL2 c6 c7
 go_upto_region 7 with (first
  |(refine wpList_store_row rfl 30 (.tmp 4) (.tmp 35) rfl w3.heap.size #[.int .u32 (r.g+1),.int .u32 cut,.slice bD mD dD,.slice bU mU dU] rfl rfl 30 _ HZ4.out.1 HZ4.out.2 rfl (by simp[Value.oneCell']) ?_)
  |fail)
 rw[World.setRow_alloc_new];clear HZ4;generalize w3.alloc (.cells #[.int .u32 (r.g+1),.int .u32 cut,.slice bD mD dD,.slice bU mU dU] 30)=w4 at *;generalize w3.heap.size=Sb at *;have HO2:=HO4;have HL2:=HL4;have hlen:(cmL r).length=128:=END_len;have hby:Byte (cmL r):=snL_byte HSP.out.1 ⟨by have:=HGG.out;omega,by have:=HGG.out;omega⟩ (by rw[HCU.out];exact⟨by have:=HGG.out;omega,by have:=HGG.out;omega⟩);have hvb:=HF.out.v;have h64:zs.length=zs.length/64*64:=by have:=hvb.1;omega
 obtain⟨sN,hsN⟩:∃ s:Nat,(r.g+1)%2*2=(s:Int):=⟨((r.g+1)%2*2).toNat,by have:=Int.emod_nonneg (r.g+1) (show(2:Int)≠0 by decide);omega⟩
 have hs2:sN≤2:=by have:=Int.emod_lt_of_pos (r.g+1) (show(0:Int)<2 by decide);omega
 have hcm:cmT zs f r=cmO zs f sN ((cmL r).take 64) ((cmL r).drop 64):=by unfold cmT;rw[hsN];rfl
 have HAF:=hid_ofV (afs_any G Sb C #[.int .u32 (r.g+1),.int .u32 cut,.slice bD mD dD,.slice bU mU dU] 9 zs ks f r (cmT zs f r) w4 HR4.out.1 HG4.out HH.out.2.2.2.2.1 HH.out.1 HH.out.2.1 HH.out.2.2.1 HR4.out.2 rfl (by rw[hcm];exact cmO_nil) (by rw[hcm];exact cmO_len (by rw[List.length_take,hlen];rfl) (by rw[List.length_drop,hlen]) (by have:=hvb.2.1;omega)) (by rw[hcm];exact cmO_byte HH.out.2.2.2.1 (hby.take _) (hby.drop _))
  (fun D g gc B H X ww b hd hDg=>by
   rw[hcm];exact wsX D g zs.length gc B H sN X 48 (r.g+1) cut bD bU mD dD mU dU (cmA r).D (cmA r).U zs f ww hd hDg rfl HH.out.1 hvb.1 (by have:=hvb.2.1;omega) (.inr rfl) hvb.2.2.2.2.1 (by have:=hvb.2.2.2.2.2;omega) HS4.out.nd HS4.out.nu (by rw[←HS4.out.nd];have:=HSP.out.1.2.2.2.2.1;omega) (by rw[←HS4.out.nu];have:=HSP.out.1.2.2.2.2.2.le;omega) (HS4.out.d.at_.below b) (HS4.out.u.at_.below b) ⟨by have:=HGG.out;omega,by have:=HGG.out;omega⟩ ⟨by have:=HGG.out;omega,by have:=HGG.out;omega⟩ (by rw[←HCU.out];exact HSP.out.1) hsN _ _ (by rw[←HCU.out];rfl) (by rw[←HCU.out];rfl)))
 clear hlen hby hvb h64 hsN hs2 hcm HR4 HG4 HS4 HSP HO4 HL4;go_wp2_with fail;refine(HAF.out).mono ?_;rintro e w3 ⟨X,rfl,hR,hb3⟩;have HRQ:=hid_ofV hR;have HO3:=hid_ofV (HO2.out.call hb3);have HXX:Hid ((Tryz.prog.info? 50).map (·.size)=some X.size∧zrR.size=X.size∧X.all (·.oneCell')=true):=⟨by rw[hR.row.1];exact Tryz.sizeR,by rw[hR.row.1];rfl,hR.row.2⟩
 clear hR hb3;go_wp2_with (first
  |(refine wpList_store_row rfl 50 (.tmp 2) (.tmp 38) rfl w.heap.size X rfl rfl 50 _ HO3.out.b0 HXX.out.1 HXX.out.2.1 HXX.out.2.2 ?_)
  |fail)
 (try simp only[Exit.inBlock,Exit.then])
 exact bodyPost_ret (v:=.agg X) (results_cell_row rfl _ _ w.heap.size 50 _ (0,0) _ rfl (setRow_heap _ _ _ _ _ _ HO3.out.b0) Tryz.underlying50 rfl HXX.out.1) rfl ⟨_,rfl,by rw[HE.out.1,HE.out.2.1,HE.out.2.2];exact HRQ.out.put HL2.out,HO3.out.below.trans ((Wr.setRow _ _ _).below (Nat.le_refl _))⟩
end Go.Proofs.YthmeoilbmfdhfaaGreat
