import Derived.Test.YtcfnjcacdmkgbaaDoorZMEndsPow1
set_option linter.unusedSimpArgs false
namespace Go.Proofs.YtcfnjcacdmkgbaaDoor
open Go.RowKit




end Go.Proofs.YtcfnjcacdmkgbaaDoor
