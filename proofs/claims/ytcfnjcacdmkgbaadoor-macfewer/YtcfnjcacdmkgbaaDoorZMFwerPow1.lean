import Derived.Test.YtcfnjcacdmkgbaaDoorZMFwerNeg
import Derived.Test.YtcfnjcacdmkgbaaDoorZMFwerMidArr
import Derived.LoopTactic
set_option linter.unusedSimpArgs false
namespace Go.Proofs.YtcfnjcacdmkgbaaDoor
open Go.RowKit


end Go.Proofs.YtcfnjcacdmkgbaaDoor
