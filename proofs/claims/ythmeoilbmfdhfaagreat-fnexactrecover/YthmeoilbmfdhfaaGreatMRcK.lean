import Derived.Test.YthmeoilbmfdhfaaGreatRcN
import Derived.Test.YthmeoilbmfdhfaaGreatRcY
import Derived.Test.YthmeoilbmfdhfaaGreatMDevHeld
namespace Go.Proofs.YthmeoilbmfdhfaaGreat
open Go.ChangeShapes Go.WideShapes Go.ChangeAt Go.RowKit
set_option linter.unusedVariables false
theorem Rr (a x:Option Addr) (c cx:Nat) (zs:List Int) (ps:List PD) (f:Int) (d:Bool) (ka:Option Addr) (kc:Nat) (ks:List Int) (w:World) (h:Ei w (.agg #[.slice a zs.length c,.slice x ps.length cx,.int .i64 f,.bool d]) zs ps f d) (hka:At .u8 w ka ks) (hz:zs.length<=1048576) (hm:ps.length<=1048576) (hps:∀ i,(ps.getD i (0,[])).2.length<=1048576) (bz:Cu zs) :
  Calls Tryz.prog 23 #[.agg #[.slice a zs.length c,.slice x ps.length cx,.int .i64 f,.bool d],.slice ka ks.length kc] w λe w'=>∃ X,e=.returned (.agg X)/\RM w.heap.size w' X (JD zs ps f d ks).c (JD zs ps f d ks).z (JD zs ps f d ks).p (JD zs ps f d ks).k (JD zs ps f d ks).f (JD zs ps f d ks).d (JD zs ps f d ks).r/\Below w.heap.size w w':=by
 by_cases hc:(C5 zs.length ps f=true/\d=false/\ps=[])/\ks.length=32
 ·obtain⟨⟨h1,rfl,rfl⟩,h4⟩:=hc;exact Rq a x c cx zs f ka kc ks _ w h hka h1 h4 rfl bz _ (by unfold JD;exact(AR ⟨⟨h1,rfl,rfl⟩,h4⟩).symm)
 ·exact Rp a x c cx zs ps f d ka kc ks w h hz hm hps hc _ rfl
theorem KK {lo lo':Nat} {X X':Array Value} {c:Int} {zs ks:List Int} {ps:List PD} {f:Int} {d:Bool} {r:Dt} {w:World} (h:IW lo w X c zs ps ks f d r) (h':RM lo' w X' c zs ps ks f d r) (hb:TH zs ps ks r) :
  Calls Tryz.prog 18 #[.agg X,.agg X'] w λe w'=>e=.returned (.bool true)/\Below w.heap.size w w':=by
 obtain⟨C,e,g⟩:=h;obtain⟨C',e',g'⟩:=h';exact Rh e g.gat g.row.1 e' g'.gat g'.row.1 hb
end Go.Proofs.YthmeoilbmfdhfaaGreat
