import Derived.Test.YtcfnjcacdmkgbaaDoorZMEndsFMath
/-! What a root's square is. -/
namespace Go.Proofs.YtcfnjcacdmkgbaaDoor
open Go.RowKit
end Go.Proofs.YtcfnjcacdmkgbaaDoor
