import Derived.Test.YtcfnjcacdmkgbaaDoorZMEndsEd1
import Derived.Test.YtcfnjcacdmkgbaaDoorZMEndsEqArr1
set_option linter.unusedSimpArgs false
set_option linter.unusedVariables false
namespace Go.Proofs.YtcfnjcacdmkgbaaDoor
open Go.RowKit
def d2N:Int:=16295367250680780974490674513165176452449235426866156013048779062215315747161
def tt (p q:P4):Int:=d2N*(p.T*q.T%pr)%pr
end Go.Proofs.YtcfnjcacdmkgbaaDoor
