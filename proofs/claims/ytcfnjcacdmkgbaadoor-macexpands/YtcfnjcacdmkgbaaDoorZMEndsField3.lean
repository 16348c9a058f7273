import Derived.Test.YtcfnjcacdmkgbaaDoorZMEndsField2
set_option linter.unusedSimpArgs false
namespace Go.Proofs.YtcfnjcacdmkgbaaDoor
open Go.RowKit




end Go.Proofs.YtcfnjcacdmkgbaaDoor
