import Derived.Test.YtcfnjcacdmkgbaaDoorZMEndsPow2
set_option linter.unusedSimpArgs false
namespace Go.Proofs.YtcfnjcacdmkgbaaDoor
open Go.RowKit





end Go.Proofs.YtcfnjcacdmkgbaaDoor
