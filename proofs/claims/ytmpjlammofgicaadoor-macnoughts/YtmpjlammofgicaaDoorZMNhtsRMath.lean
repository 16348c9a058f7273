import Derived.Test.YtmpjlammofgicaaDoorZMNhtsFMath
/-! What a root's square is. -/
namespace Go.Proofs.YtmpjlammofgicaaDoor
open Go.RowKit
def hN:Nat:=(prN - 1) / 2
end Go.Proofs.YtmpjlammofgicaaDoor
