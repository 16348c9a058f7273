import Derived.Test.YtcfnjcacdmkgbaaDoorZMEndsField3
import Derived.Deep.RegionHeld3
set_option linter.unusedSimpArgs false
namespace Go.Proofs.YtcfnjcacdmkgbaaDoor
open Go.RowKit




end Go.Proofs.YtcfnjcacdmkgbaaDoor
