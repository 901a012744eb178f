import Derived.Test.YtilpkdnoaldfmaaGreatDoorMFmN
import Derived.Test.YtilpkdnoaldfmaaGreatDoorMSSy
import Derived.Test.YtilpkdnoaldfmaaGreatDoorMSwH
import Derived.Test.YtilpkdnoaldfmaaGreatDoorMFmW
import Derived.Test.YtilpkdnoaldfmaaGreatDoorMLdM
import Derived.Test.YtilpkdnoaldfmaaGreatDoorMArrEq
import Derived.Defers
import Derived.Recover
import Derived.WalkLawsBesides
import Derived.Test.YtilpkdnoaldfmaaGreatDoorMMkB
import Derived.Test.YtilpkdnoaldfmaaGreatDoorMCatC
import Derived.Test.YtilpkdnoaldfmaaGreatDoorMLlA
import Derived.Test.YtilpkdnoaldfmaaGreatDoorMIDec
namespace Go.Proofs.YtilpkdnoaldfmaaGreatDoor
open Go.ChangeShapes Go.WideShapes Go.ChangeAt Go.RowKit
set_option linter.unusedVariables false
theorem fsL_byte:Byte fsL:=by
 have h:=snE_byte (gn:=0) (tl:=1) (D:=[]) (U:=[]) ⟨by decide,by decide⟩ ⟨by decide,by decide⟩;unfold snE at h;rw[snB_yes fsP] at h;exact h
theorem z0_len:(fsL.take 64).length=64:=by simp[fsL_len]
theorem z1_len:(fsL.drop 64).length=64:=by simp[fsL_len]
section
variable {zs:List Int} {m:Nat}
theorem fsD_len (h:zs.length=m*64) (h8:8≤m):(fsD zs).length=m*64:=by
 have h0:=z0_len;have h1:=z1_len;have e0:(overL zs 0 (fsL.take 64)).length=m*64:=by rw[overL_len _ _ _ (by omega)];exact h
 unfold fsD;rw[overL_len _ _ _ (by omega)];exact e0
theorem overL_byte {x z:List Int} (s:Nat) (h:Byte x) (h':Byte z):Byte (overL x s z):=fun y hy=>by
 unfold overL at hy;rcases List.mem_append.1 hy with h1|h1
 ·exact h _ (List.mem_of_mem_take h1)
 ·rcases List.mem_append.1 h1 with h1|h1
  ·exact h' _ h1
  ·exact h _ (List.mem_of_mem_drop h1)
theorem fsD_byte (h:Byte zs):Byte (fsD zs):=overL_byte _ (overL_byte _ h (fun y hy=>fsL_byte _ (List.mem_of_mem_take hy))) (fun y hy=>fsL_byte _ (List.mem_of_mem_drop hy))
theorem zero_byte (n:Nat):Byte (List.replicate n 0):=fun y hy=>by rw[List.eq_of_mem_replicate hy];decide
end
theorem own_of {w:World} {B g n c:Nat} {zs:List Int} (h:Own w B (.slice (some ⟨g,0,none⟩) n c) zs):B≤g∧g<w.heap.size∧zs.length≤c∧At .u8 w (some ⟨g,0,none⟩) zs∧zs.length=n:=by
 obtain⟨g',c',e,q1,q2,q3,q4,q5⟩:=h.at_;simp only[Value.slice.injEq,Option.some.injEq,Addr.mk.injEq] at e;obtain⟨⟨rfl,_⟩,e2,rfl⟩:=e;exact⟨q1,q2,q3,q4,e2.symm⟩
theorem YR.below {B D g:Nat} {w w':World} (h:YR D g w w') (h1:B≤D) (h2:B≤g) (hB:B≤w.heap.size):Below B w w':=⟨h.os,h.tape,h.output,h.size,fun k hk=>h.block k (by omega) (by omega) (by omega)⟩
def RP (lo:Nat) (w:World) (X:Array Value) (c:Int) (zs ks:List Int) (f:Int) (d:Bool) (r:ImR):Prop:=∃ C,X=#[.int .i64 c]++C∧GP lo w C zs ks f d r
section
variable {lo lo':Nat} {w w':World} {X:Array Value} {c:Int} {zs ks:List Int} {f:Int} {d:Bool} {r:ImR}
theorem GP.no (lo:Nat) (w:World):GP lo w #[.slice none 0 0,.slice none 0 0,.int .i64 0,.bool false,.slice none 0 0,.bool false,.int .u32 0,.int .u32 0,.slice none 0 0,.slice none 0 0,.slice none 0 0,.slice none 0 0,.slice none 0 0,.int .i64 0,.slice none 0 0,.int .u32 0] [] [] 0 false imNo:=
 ⟨none,0,none,0,none,0,none,0,0,none,0,0,none,0,0,none,0,0,none,0,0,none,0,rfl,⟨Nat.le_refl _,Nat.le_refl _⟩,Mine.nil _ _,Mine.nil _ _,⟨.inl rfl,.inl rfl,.inl rfl,.inl rfl,.inl rfl,.inl rfl,rfl,rfl,rfl,rfl,rfl,rfl⟩,
  ⟨lo,lo,⟨.inl rfl,.inl rfl,.inl rfl,.inl rfl,.inl rfl,.inl rfl,fun _ e=>(by cases e),fun _ e=>(by cases e),fun _ e=>(by cases e),fun _ e=>(by cases e),fun _ e=>(by cases e),fun _ e=>(by cases e),fun _ _ e=>(by cases e),fun _ _ e=>(by cases e),fun _ _ e=>(by cases e),fun _ _ e=>(by cases e),fun _ e=>(by rcases e with e|e<;>cases e),fun _ e=>(by cases e)⟩⟩,fun _ e=>(by cases e),fun _ e=>(by cases e)⟩
end
def zr64:List Int:=List.replicate 64 0
theorem sect (zs:List Int) (s:Nat):rdV zs [] (s:Nat)=(zs.drop (s*64)).take 64:=by
 unfold rdV;simp[findL]
theorem over_get {zs z:List Int} {s:Nat} (hz:z.length=64) (hs:s*64+64≤zs.length) (j:Nat) (hj:j<s*64∨s*64+64≤j):(overL zs s z)[j]?=zs[j]?:=by
 unfold overL;rcases hj with hj|hj
 ·rw[List.getElem?_append_left (by simp;omega),List.getElem?_take_of_lt hj]
 ·rw[List.getElem?_append_right (by simp;omega),List.getElem?_append_right (by simp;omega),List.getElem?_drop]
  congr 1
  simp;omega
theorem sect_over {zs z:List Int} {s s':Nat} (hz:z.length=64) (hs:s*64+64≤zs.length) (hs':s'*64+64≤zs.length):rdV (overL zs s z) [] (s':Nat)=if s'=s then z else rdV zs [] (s':Nat):=by
 rw[sect,sect];by_cases h:s'=s
 ·subst h;rw[if_pos rfl];unfold overL;rw[List.drop_left' (by simp;omega),List.take_left' hz]
 ·rw[if_neg h];apply List.ext_getElem?;intro i;by_cases hi:i<64
  ·rw[List.getElem?_take_of_lt hi,List.getElem?_take_of_lt hi,List.getElem?_drop,List.getElem?_drop];exact over_get hz hs _ (by omega)
  ·rw[List.getElem?_eq_none (by simp;omega),List.getElem?_eq_none (by simp;omega)]
theorem u32_nat {x:Nat} (h:x<4294967296):U32 (x:Int):=⟨by omega,by omega⟩
theorem ei_dec (q a b:Nat) (hq:q<4294967296) (ha:a<4294967296) (hb:b<4294967296):decB (encI (q:Int) 2 (a:Int) (b:Int))=true∧num4 (encI (q:Int) 2 (a:Int) (b:Int)) 0=(q:Int)∧fr4 (encI (q:Int) 2 (a:Int) (b:Int))=[(q:Int),2,(a:Int),(b:Int)]:=by
 have e:=enc_eq (q:Int) 2 (a:Int) (b:Int) (u32_nat hq) (u32_nat ha) (u32_nat hb);have h:=encS_dec (q:Int) 2 (a:Int) (b:Int) (u32_nat hq) (u32_nat ha) (u32_nat hb) ⟨by decide,by decide⟩;rw[←e] at h;generalize encI (q:Int) 2 (a:Int) (b:Int)=z at *;cases hd:decB z with
 |false=>rw[decV_no hd] at h;simp[fNo,fOk] at h
 |true=>
  rw[decV_yes hd] at h;simp[fOk] at h;obtain⟨h1,h2,h3,h4⟩:=h;refine⟨rfl,h1,?_⟩;have h2':z.getD 6 0=2:=by simpa[List.getD] using h2
  unfold fr4;rw[h1,h2',h3,h4]
theorem zr_dec:decB zr64=false:=by
 unfold decB;have:zr64.getD 6 0=0:=by simp[zr64,List.getD]
 rw[this];simp
structure Jn (zs:List Int) (fs:List (Nat×Nat)):Prop where
 len:zs.length=2560
 byt:Byte zs
 s0:rdV zs [] (0:Nat)=fsL.take 64
 s1:rdV zs [] (1:Nat)=fsL.drop 64
 s2:rdV zs [] (2:Nat)=zr64
 s3:rdV zs [] (3:Nat)=zr64
 jr:∀ i,i<fs.length→rdV zs [] (5+i:Nat)=encI ((i+1:Nat):Int) 2 ((fs.getD i (0,0)).1:Int) ((fs.getD i (0,0)).2:Int)
 jz:∀ i,fs.length≤i→i<35→rdV zs [] (5+i:Nat)=zr64
 hm:fs.length≤20
 hv:∀ i,i<fs.length→(fs.getD i (0,0)).1<256∧(fs.getD i (0,0)).2≤1
theorem rep_sect (s:Nat) (hs:s<40):rdV (List.replicate 2560 (0:Int)) [] (s:Nat)=zr64:=by
 rw[sect,List.drop_replicate,List.take_replicate];unfold zr64
 congr 1
 omega
theorem jn_start:Jn (fsD (List.replicate 2560 0)) []:=by
 have h0:=z0_len;have h1:=z1_len;have l0:(List.replicate 2560 (0:Int)).length=2560:=List.length_replicate;have l1:(overL (List.replicate 2560 (0:Int)) 0 (fsL.take 64)).length=2560:=by rw[overL_len _ _ _ (by omega)];exact l0
 have rd:∀ s,s<40→rdV (fsD (List.replicate 2560 0)) [] (s:Nat)=if s=1 then fsL.drop 64 else if s=0 then fsL.take 64 else zr64:=fun s hs=>by
  unfold fsD;rw[sect_over h1 (by omega) (by omega)];by_cases e:s=1
  ·rw[if_pos e,if_pos e]
  ·rw[if_neg e,if_neg e,sect_over h0 (by omega) (by omega)];by_cases e2:s=0
   ·rw[if_pos e2,if_pos e2]
   ·rw[if_neg e2,if_neg e2];exact rep_sect s hs
 refine⟨?_,fsD_byte (zero_byte _),?_,?_,?_,?_,fun i hi=>absurd hi (by simp),fun i _ hi=>?_,by simp,fun i hi=>absurd hi (by simp)⟩
 ·have:=fsD_len (zs:=List.replicate 2560 0) (m:=40) (by rw[List.length_replicate]) (by decide);omega
 ·rw[rd 0 (by decide)];rfl
 ·rw[rd 1 (by decide)];rfl
 ·rw[rd 2 (by decide)];rfl
 ·rw[rd 3 (by decide)];rfl
 ·rw[rd (5+i) (by omega),if_neg (by omega),if_neg (by omega)]
theorem jn_step {zs:List Int} {fs:List (Nat×Nat)} (h:Jn zs fs) (a b:Nat) (ha:a<256) (hb:b≤1) (hm:fs.length<20):Jn (overL zs (5+fs.length) (encI ((fs.length+1:Nat):Int) 2 (a:Int) (b:Int))) (fs++[(a,b)]):=by
 have hl:=h.len;have hz:=encI_len ((fs.length+1:Nat):Int) 2 (a:Int) (b:Int);have rd:∀ s,s<40→rdV (overL zs (5+fs.length) (encI ((fs.length+1:Nat):Int) 2 (a:Int) (b:Int))) [] (s:Nat)=if s=5+fs.length then encI ((fs.length+1:Nat):Int) 2 (a:Int) (b:Int) else rdV zs [] (s:Nat):=fun s hs=>sect_over hz (by omega) (by omega)
 refine⟨by rw[overL_len _ _ _ (by omega)];exact hl,overL_byte _ h.byt (encI_byte _ _ _ _),?_,?_,?_,?_,fun i hi=>?_,fun i h1 h2=>?_,by simp;omega,fun i hi=>?_⟩
 ·rw[rd 0 (by decide),if_neg (by omega)];exact h.s0
 ·rw[rd 1 (by decide),if_neg (by omega)];exact h.s1
 ·rw[rd 2 (by decide),if_neg (by omega)];exact h.s2
 ·rw[rd 3 (by decide),if_neg (by omega)];exact h.s3
 ·have hi':i≤fs.length:=by simp at hi;omega
  rw[rd (5+i) (by omega)];by_cases e:i=fs.length
  ·subst e;rw[if_pos rfl];simp[List.getD]
  ·rw[if_neg (by omega),h.jr i (by omega)];simp[List.getD,List.getElem?_append_left (show i<fs.length by omega)]
 ·have h1':fs.length<i:=by simp at h1;omega
  rw[rd (5+i) (by omega),if_neg (by omega)];exact h.jz i (by omega) h2
 ·have hi':i≤fs.length:=by simp at hi;omega
  by_cases e:i=fs.length
  ·subst e;simp[List.getD];exact⟨ha,hb⟩
  ·have:=h.hv i (by omega);simpa[List.getD,List.getElem?_append_left (show i<fs.length by omega)] using this
def flF:Nat→List (Nat×Nat)→List Int
 |_,[]=>[]
 |q,p::t=>[(q:Int),2,(p.1:Int),(p.2:Int)]++flF (q+1) t
theorem flF_len:∀(fs:List (Nat×Nat)) (q:Nat),(flF q fs).length=fs.length*4
 |[],q=>rfl
 |p::t,q=>by
  show([(q:Int),2,(p.1:Int),(p.2:Int)]++flF (q+1) t).length=_
  rw[List.length_append,flF_len t (q+1)];simp;omega
theorem flF_app:∀(fs:List (Nat×Nat)) (q:Nat) (p:Nat×Nat),flF q (fs++[p])=flF q fs++[((q+fs.length:Nat):Int),2,(p.1:Int),(p.2:Int)]
 |[],q,p=>by simp[flF]
 |x::t,q,p=>by
  show[(q:Int),2,(x.1:Int),(x.2:Int)]++flF (q+1) (t++[p])=([(q:Int),2,(x.1:Int),(x.2:Int)]++flF (q+1) t)++_
  rw[flF_app t (q+1) p,List.append_assoc];simp;omega
theorem jrT_jn {zs:List Int} {fs:List (Nat×Nat)} (i:Nat) (hi:i<35):jrT zs [] 36 (i+1)=rdV zs [] (5+i:Nat):=by
 unfold jrT
 congr 1
 have:(i+1)%36=i+1:=Nat.mod_eq_of_lt (by omega);rw[this];omega
theorem jrF_jn {zs:List Int} {fs:List (Nat×Nat)} (h:Jn zs fs):∀ n i,i≤fs.length→fs.length-i<n→jrF zs [] 36 (i+1) n=flF (i+1) (fs.drop i)
 |0,i,h1,h2=>by omega
 |n+1,i,h1,h2=>by
  have hm:=h.hm;by_cases hi:i<fs.length
  ·have hv:=h.hv i hi;have hd:=ei_dec (i+1) (fs.getD i (0,0)).1 (fs.getD i (0,0)).2 (by omega) (by omega) (by omega);have ht:jrT zs [] 36 (i+1)=encI ((i+1:Nat):Int) 2 ((fs.getD i (0,0)).1:Int) ((fs.getD i (0,0)).2:Int):=by rw[jrT_jn (fs:=fs) i (by omega)];exact h.jr i hi
   have hok:jrOk zs [] 36 (i+1)=true:=by unfold jrOk;rw[ht,hd.1,hd.2.1];simp
   rw[jrF_yes (by omega) hok,ht,hd.2.2,jrF_jn h n (i+1) (by omega) (by omega),List.drop_eq_getElem_cons hi];show _=[((i+1:Nat):Int),2,(fs[i].1:Int),(fs[i].2:Int)]++flF (i+1+1) (fs.drop (i+1))
   simp[List.getD,hi]
  ·obtain rfl:i=fs.length:=by omega
   rw[List.drop_length];refine jrF_no (.inr (.inr ?_));unfold jrOk;rw[jrT_jn (fs:=fs) _ (by omega),h.jz _ (Nat.le_refl _) (by omega),zr_dec];rfl
theorem nw_jn {zs:List Int} {fs:List (Nat×Nat)} (h:Jn zs fs):nwK zs [] 2=⟨true,0,1,[],[]⟩:=by
 have e0:slZ zs [] 0=fsL:=by
  unfold slZ;show rdV zs [] (0:Nat)++rdV zs [] (1:Nat)=_
  rw[h.s0,h.s1,List.take_append_drop]
 have d0:dkF (slZ zs [] 0)=⟨true,0,1,[],[]⟩:=by
  rw[e0];exact dk_code fsP ⟨by decide,by decide⟩ ⟨by decide,by decide⟩
 have s0:slF zs [] 0=⟨true,0,1,[],[]⟩:=by
  unfold slF;rw[if_pos (by rw[d0];exact⟨rfl,rfl⟩),d0]
 have e1:slZ zs [] 1=List.replicate 128 0:=by
  unfold slZ;show rdV zs [] (2:Nat)++rdV zs [] (3:Nat)=_
  rw[h.s2,h.s3];unfold zr64;rw[List.replicate_append_replicate]
 have d1:(dkF (slZ zs [] 1)).ok=false:=by
  rw[e1];have:dkF (List.replicate 128 (0:Int))=dkNo:=dkF_no (fun e=>by
   have hp:¬ SnP (num4 (List.replicate 128 (0:Int)) 0) (num4 (List.replicate 128 (0:Int)) 8) (dkD (List.replicate 128 (0:Int)) (dkN (List.replicate 128 (0:Int)))) (dkU (List.replicate 128 (0:Int))):=fun hp=>by
    have h2:=hp.2.1;have:num4 (List.replicate 128 (0:Int)) 8=0:=by simp[num4,List.getD]
    omega
   unfold dkE snE at e;rw[snB_no hp] at e;have:=congrArg List.length e;simp at this)
  rw[this];rfl
 have s1:slF zs [] 1=dkNo:=by
  unfold slF;rw[if_neg (fun q=>by rw[d1] at q;exact absurd q.1 (by decide))]
 have n1:nwK zs [] 1=⟨true,0,1,[],[]⟩:=by
  show(if _ then _ else _)=_
  rw[if_pos ⟨by rw[s0],.inl rfl⟩,s0]
 show(if(slF zs [] 1).ok=true∧((nwK zs [] 1).ok=false∨(nwK zs [] 1).g<(slF zs [] 1).g) then slF zs [] 1 else nwK zs [] 1)=_
 rw[if_neg (fun q=>by rw[s1] at q;exact absurd q.1 (by decide)),n1]
def Dn (fs:List (Nat×Nat)) (D:List Int):Prop:=∀ P:List (Nat×Nat)→List Int→Prop,P [] []→(∀ fs D (a:Nat),P fs D→a<256→¬ (a:Int)∈D→¬ D.length=16→P (fs++[(a,1)]) (withS D a))→(∀ fs D (a:Nat),P fs D→a<256→(a:Int)∈D→P (fs++[(a,0)]) (lessS D a))→P fs D
theorem Dn.nil:Dn [] []:=fun _ p _ _=>p
theorem Dn.add {fs:List (Nat×Nat)} {D:List Int} (a:Nat) (h:Dn fs D) (ha:a<256) (hn:¬ (a:Int)∈D) (hl:¬ D.length=16):Dn (fs++[(a,1)]) (withS D a):=fun P p q r=>q fs D a (h P p q r) ha hn hl
theorem Dn.rem {fs:List (Nat×Nat)} {D:List Int} (a:Nat) (h:Dn fs D) (ha:a<256) (hn:(a:Int)∈D):Dn (fs++[(a,0)]) (lessS D a):=fun P p q r=>r fs D a (h P p q r) ha hn
theorem apK_app {r:ApR} {F G:List Int}:∀ i,i*4≤F.length→apK r (F++G) i=apK r F i
 |0,_=>rfl
 |i+1,h=>by
  have ih:=apK_app (r:=r) (F:=F) (G:=G) i (by omega);have g:∀ j,j<F.length→(F++G).getD j 0=F.getD j 0:=fun j hj=>by simp[List.getD,List.getElem?_append_left hj]
  show(if(apK r (F++G) i).ok=true then _ else _)=(if(apK r F i).ok=true then _ else _)
  rw[ih,g (i*4+1) (by omega),g (i*4+2) (by omega),g (i*4+3) (by omega)]
theorem apK_snoc {r:ApR} {F:List Int} {i:Nat} (q kd a b:Int) (hF:F.length=i*4) (hok:(apK r F i).ok=true):apK r (F++[q,kd,a,b]) (i+1)=apR (apK r F i).D (apK r F i).U (apK r F i).k (apK r F i).T (apK r F i).n kd a.toNat b.toNat:=by
 have e:=apK_app (r:=r) (F:=F) (G:=[q,kd,a,b]) i (by omega);rw[apK_go (by rw[e];exact hok),e];have g1:(F++[q,kd,a,b]).getD (i*4+1) 0=kd:=by simp[List.getD,hF]
 have g2:(F++[q,kd,a,b]).getD (i*4+2) 0=a:=by simp[List.getD,hF]
 have g3:(F++[q,kd,a,b]).getD (i*4+3) 0=b:=by simp[List.getD,hF]
 rw[g1,g2,g3]
theorem dn_ap {fs:List (Nat×Nat)} {D:List Int} (h:Dn fs D):apK ⟨true,[],[],0,[],0⟩ (flF 1 fs) fs.length=⟨true,D,[],0,[],0⟩:=by
 refine h (fun fs D=>apK ⟨true,[],[],0,[],0⟩ (flF 1 fs) fs.length=⟨true,D,[],0,[],0⟩) rfl (fun fs D a ih ha hn hl=>?_) (fun fs D a ih ha hn=>?_)
 ·rw[flF_app,List.length_append];show apK _ _ (fs.length+1)=_
  rw[apK_snoc _ _ _ _ (flF_len fs 1) (by rw[ih]),ih];exact apR_add ⟨ha,hn,hl⟩
 ·rw[flF_app,List.length_append];show apK _ _ (fs.length+1)=_
  rw[apK_snoc _ _ _ _ (flF_len fs 1) (by rw[ih]),ih];exact apR_rem ⟨ha,hn⟩
def jnI (fs:List (Nat×Nat)) (D:List Int):ImR:=⟨true,0,1,[],[],flF 1 fs,D,[],0,[],0,1+(fs.length:Int)⟩
theorem jn_im {zs:List Int} {fs:List (Nat×Nat)} {D:List Int} (h:Jn zs fs) (hd:Dn fs D):imG zs [] (-1)=jnI fs D:=by
 have hv:validB zs.length [] (-1)=true:=by rw[h.len];decide
 have hm:=h.hm;have hf:=flF_len fs 1;have hl:(flF 1 fs).length/4=fs.length:=by rw[hf];omega
 unfold imG;rw[if_pos hv,h.len];show imF zs [] 36=_
 unfold imF;rw[if_pos (by rw[nw_jn h]),nw_jn h];have hj:jrF zs [] 36 1 36=flF 1 fs:=jrF_jn h 36 0 (by omega) (by omega);show imR _ (jrF zs [] 36 1 36)=_
 rw[hj];unfold imR;have ha:imA ⟨true,0,1,[],[]⟩ (flF 1 fs)=⟨true,D,[],0,[],0⟩:=by
  unfold imA;rw[hl];exact dn_ap hd
 rw[if_pos (by rw[ha]),ha,hl];rfl
theorem Tryz.infoPL:(Tryz.prog.info? 134).map (fun i=>(i.zero,i.size,i.bytes))=some (some (.agg #[]),0,0):=by kernel_rfl
theorem run_taNil (xT:TypeId) (w:World):(Instr.typeAssert Value.nilIface xT 134 true).run Tryz.prog w=.ok (.tuple #[.agg #[],.bool false]) w:=by
 obtain⟨i0,hi,hz0,hz1,hz2⟩:=info_parts Tryz.infoPL;simp[Instr.typeAssert,run_underlying Tryz.underlying134,zeroValue,typeInfo,hi,hz0]
theorem run_taYes (xT:TypeId) (w:World):(Instr.typeAssert (.iface 134 (.agg #[])) xT 134 true).run Tryz.prog w=.ok (.tuple #[.agg #[],.bool true]) w:=by
 simp[Instr.typeAssert,run_underlying Tryz.underlying134]
set_option maxHeartbeats 400000 in
set_option maxRecDepth 100000 in
theorem ipl_nil (w:World):Calls Tryz.prog 59 #[.nilIface] w fun e w'=>e=.returned (.bool false)∧Below w.heap.size w w':=by
 have h1:=run_taNil;go_enter Tryz.func59,Tryz.ntmps59;go_wp2
 go_ret
 exact⟨rfl,(Below.refl _ _).alloc (Nat.le_refl _) _⟩
set_option maxHeartbeats 400000 in
set_option maxRecDepth 100000 in
theorem ipl_loss (w:World):Calls Tryz.prog 59 #[lossV] w fun e w'=>e=.returned (.bool true)∧Below w.heap.size w w':=by
 unfold lossV;have h1:=run_taYes;go_enter Tryz.func59,Tryz.ntmps59;go_wp2
 go_ret
 exact⟨rfl,(Below.refl _ _).alloc (Nat.le_refl _) _⟩
noncomputable def vgA (zs:List Int) (ps:List PD) (f:Int) (d:Bool) (ks:List Int) (r:ImR):Bool:=vgB zs.length ps f d ps.length ks.length r.ok (imE r.ok r.g r.t r.k r.nx r.F r.sD r.sU r.D r.U r.T (imG zs ps f))
theorem ivgG {w:World} {v:Value} {zs:List Int} {ps:List PD} {f:Int} {d:Bool} {ks:List Int} {r:ImR} (h:GAt w v zs ps f d ks r) (hb:GLe zs ps ks r) (bz:Byte zs) (bp:∀ i,Byte (ps.getD i (0,[])).2) :
  Calls Tryz.prog 13 #[v] w fun e w'=>e=.returned (.bool (vgA zs ps f d ks r))∧Below w.heap.size w w':=by
 obtain⟨ada,adc,aca,acc,aka,akc,aSD,nSD,acSD,aSU,nSU,acSU,aF,nF,acF,aD,nD,acD,aU,nU,acU,aT,acT,rfl,h1,h2,h3,h4,i1,i2,i3,i4,i5,i6,e1,e2,e3,e4,e5,e6⟩:=h;obtain⟨l1,l2,l3,l4,l5,l6,l7,l8,l9,l10⟩:=hb;exact ivg_any ada aca zs.length adc ps.length acc f d zs ps aka ks.length akc r.ok r.g r.t r.k r.nx aF aSD aSU aD aU aT nF acF nSD acSD nSU acSU nD acD nU acU r.n acT r.F r.sD r.sU r.D r.U r.T w ⟨ada,adc,aca,acc,rfl,h1,h2,h3⟩ rfl rfl l1 l2 l3 bz bp l4 ⟨e3,e1,e2,e4,e5,e6⟩ ⟨by omega,by omega,by omega,by omega,by omega,l10⟩ i3 i1 i2 i4 i5 i6
def BlA (w:World) (a:Option Addr) (bs:List Bool):Prop:=
 bs=[]∨∃ b off,a=some ⟨b,off,none⟩∧b<w.heap.size∧∀ i,i<bs.length→w.cell? ⟨b,off+i,none⟩=some (.bool (bs.getD i false))
theorem BlA.get {w:World} {a:Option Addr} {bs:List Bool} (h:BlA w a bs) (hz:0<bs.length) :
  ∃ b off,a=some ⟨b,off,none⟩∧b<w.heap.size∧∀ i,i<bs.length→w.cell? ⟨b,off+i,none⟩=some (.bool (bs.getD i false)):=by
 rcases h with h|h
 ·simp[h] at hz
 ·exact h
theorem BlA.below {w w':World} {a:Option Addr} {bs:List Bool} (h:BlA w a bs) (hb:Below w.heap.size w w'):BlA w' a bs:=by
 rcases h with h|⟨b,off,rfl,hl,hc⟩
 ·exact .inl h
 ·exact .inr ⟨b,off,rfl,by have:=hb.size;omega,fun i hi=>by rw[hb.cell (p:=⟨b,off+i,none⟩) hl];exact hc i hi⟩
def CAt (w:World) (v:Value) (bs:List Bool) (t u:Int):Prop:=∃ x c,v=.agg #[.slice x bs.length c,.int .i64 t,.int .i64 u]∧BlA w x bs
end Go.Proofs.YtilpkdnoaldfmaaGreatDoor
