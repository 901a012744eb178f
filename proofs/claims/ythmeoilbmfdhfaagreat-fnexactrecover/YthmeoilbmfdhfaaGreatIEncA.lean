import Derived.Test.YthmeoilbmfdhfaaGreatMMkB
import Derived.Test.YthmeoilbmfdhfaaGreatMSec
namespace Go.Proofs.YthmeoilbmfdhfaaGreat
set_option maxHeartbeats 400000
open Go.ChangeShapes Go.WideShapes Go.ChangeAt Go.RowKit
set_option linter.unusedVariables false
theorem QY (s k a b:Int) (us:D8 s) (ua:D8 a) (ub:D8 b):(Ga s k a b).take 56=Di s k a b:=by
 obtain⟨s0,s1⟩:=us;obtain⟨a0,a1⟩:=ua;obtain⟨b0,b1⟩:=ub;have es:s/16777216%256=s/16777216:=AK
 have ea:a/16777216%256=a/16777216:=AK
 have eb:b/16777216%256=b/16777216:=AK
 simp[Ga,Dv,Di,G9,four,Ju,es,ea,eb]
theorem QZ (l:List Int) (hl:l.length=56) (v t:Int) (hv:D8 v) (ht:D8 t):Dv (Dv (l++Ju 8) 56 v 4) 60 t 4=l++four v++four t:=by
 obtain⟨s0,s1⟩:=hv;obtain⟨a0,a1⟩:=ht;have es:v/16777216%256=v/16777216:=AK
 have ea:t/16777216%256=t/16777216:=AK
 simp[Dv,four,Ju,hl,es,ea]
theorem Lo (s k a b:Int) (us:D8 s) (ua:D8 a) (ub:D8 b):Fs s k a b=Hm s k a b:=by
 have h0:Ga s k a b=(Ga s k a b).take 56++Ju 8:=AO
 have h1:=QY s k a b us ua ub;rw[h1] at h0;unfold Fs;rw[h1,h0,QZ _ (IN s k a b) _ _ (IE _) us];simp[Hm,IM]
theorem Kk (h:Nat) (k:Int) (w:World) (c1:w.cell? ⟨h,1,none⟩=some (.int .i64 k)) :
  Calls Tryz.prog 133 #[.pointer (some ⟨h,0,none⟩)] w λe w'=>e=.returned (.bool (decide (1<=k/\k<=3)))/\w'=w:=by
 by_cases h1:1<=k
 ·by_cases h3:k<=3
  ·have e:decide (1<=k/\k<=3)=true:=by simp[h1,h3]
   rw[e];clear e;go_enter Tryz.func133,Tryz.ntmps133;go_wp2
   go_ret
   exact⟨rfl,rfl⟩
  ·have e:decide (1<=k/\k<=3)=false:=by simp[h1,h3]
   rw[e];clear e;go_enter Tryz.func133,Tryz.ntmps133;go_wp2
   go_ret
   exact⟨rfl,rfl⟩
 ·have e:decide (1<=k/\k<=3)=false:=by simp[h1]
  rw[e];clear e;have e2:decide (1<=k)=false:=by simpa using h1
  go_enter Tryz.func133,Tryz.ntmps133;go_wp2
  go_ret
  exact⟨rfl,rfl⟩
end Go.Proofs.YthmeoilbmfdhfaaGreat
