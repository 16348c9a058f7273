import Derived.Test.YteikpadpogkepaaDoorZS512Fermat
/-! Reckoning modulo p. -/
namespace Go.Proofs.YteikpadpogkepaaDoor
open Go.RowKit
end Go.Proofs.YteikpadpogkepaaDoor
