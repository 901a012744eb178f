import Derived.Test.YtilpkdnoaldfmaaGreatDoorMFmW
import Derived.Test.YtilpkdnoaldfmaaGreatDoorMDnA
import Derived.Deep.WholeRow
import Derived.Test.YtilpkdnoaldfmaaGreatDoorMSwA
namespace Go.Proofs.YtilpkdnoaldfmaaGreatDoor
open Go.ChangeShapes Go.WideShapes Go.ChangeAt Go.RowKit
set_option linter.unusedVariables false
end Go.Proofs.YtilpkdnoaldfmaaGreatDoor
