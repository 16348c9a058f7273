import Derived.Test.YtcfnjcacdmkgbaaDoorZMHmacNeg
import Derived.Test.YtcfnjcacdmkgbaaDoorZMHmacMidArr
import Derived.LoopTactic
set_option linter.unusedSimpArgs false
namespace Go.Proofs.YtcfnjcacdmkgbaaDoor
open Go.RowKit


end Go.Proofs.YtcfnjcacdmkgbaaDoor
