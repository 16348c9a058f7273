import Derived.Test.YtcfnjcacdmkgbaaDoorZMEndsRRoot
set_option linter.unusedSimpArgs false
namespace Go.Proofs.YtcfnjcacdmkgbaaDoor
open Go.RowKit
end Go.Proofs.YtcfnjcacdmkgbaaDoor
