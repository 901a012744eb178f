import Derived.Test.YtilpkdnoaldfmaaGreatDoorMLdM
import Derived.Deep.AppendSrc
import Derived.Test.YtilpkdnoaldfmaaGreatDoorMDnA
import Derived.Test.YtilpkdnoaldfmaaGreatDoorMIDec
import Derived.Test.YtilpkdnoaldfmaaGreatDoorMArgDev
import Derived.Test.YtilpkdnoaldfmaaGreatDoorMRows8a
import Derived.Test.YtilpkdnoaldfmaaGreatDoorMSwH
import Derived.Test.YtilpkdnoaldfmaaGreatDoorMCatF
import Derived.Deep.Cut
import Derived.Test.YtilpkdnoaldfmaaGreatDoorMSwA
import Derived.Test.YtilpkdnoaldfmaaGreatDoorMDkJ
namespace Go.Proofs.YtilpkdnoaldfmaaGreatDoor
open Go.ChangeShapes Go.WideShapes Go.ChangeAt Go.RowKit
set_option linter.unusedVariables false
section
variable (ok:Bool) (gn tl:Int) (aSD aSU aF aD aU aT:Option Addr) (nSD cSD nSU cSU mF cF nD cD nU cU nT cT:Nat) (k0 nx k:Int) (w:World)
end
end Go.Proofs.YtilpkdnoaldfmaaGreatDoor
