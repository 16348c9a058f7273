import Derived.Test.YtcfnjcacdmkgbaaDoorZMEndsNeg
import Derived.Test.YtcfnjcacdmkgbaaDoorZMEndsMidArr
import Derived.LoopTactic
set_option linter.unusedSimpArgs false
namespace Go.Proofs.YtcfnjcacdmkgbaaDoor
open Go.RowKit


end Go.Proofs.YtcfnjcacdmkgbaaDoor
