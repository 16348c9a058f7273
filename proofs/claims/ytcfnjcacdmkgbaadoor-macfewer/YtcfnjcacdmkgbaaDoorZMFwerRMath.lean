import Derived.Test.YtcfnjcacdmkgbaaDoorZMFwerFMath
/-! What a root's square is. -/
namespace Go.Proofs.YtcfnjcacdmkgbaaDoor
open Go.RowKit
def hN:Nat:=(prN - 1) / 2
end Go.Proofs.YtcfnjcacdmkgbaaDoor
