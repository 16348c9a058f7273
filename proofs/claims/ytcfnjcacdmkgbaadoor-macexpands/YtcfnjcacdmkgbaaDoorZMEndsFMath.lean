import Derived.Test.YtcfnjcacdmkgbaaDoorZMEndsFermat
/-! Reckoning modulo p. -/
namespace Go.Proofs.YtcfnjcacdmkgbaaDoor
open Go.RowKit
end Go.Proofs.YtcfnjcacdmkgbaaDoor
