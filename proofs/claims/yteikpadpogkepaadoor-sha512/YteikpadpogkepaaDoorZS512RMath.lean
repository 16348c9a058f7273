import Derived.Test.YteikpadpogkepaaDoorZS512FMath
/-! What a root's square is. -/
namespace Go.Proofs.YteikpadpogkepaaDoor
open Go.RowKit
def hN:Nat:=(prN - 1) / 2
end Go.Proofs.YteikpadpogkepaaDoor
