import Derived.Test.YtcfnjcacdmkgbaaDoorZMEndsBytes
import Derived.Test.YtcfnjcacdmkgbaaDoorZMEndsSchAll
set_option linter.unusedSimpArgs false
namespace Go.Proofs.YtcfnjcacdmkgbaaDoor
open Go.RowKit





end Go.Proofs.YtcfnjcacdmkgbaaDoor
