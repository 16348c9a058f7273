import Derived.Test.YteikpadpogkepaaDoorZS256Fermat
/-! Reckoning modulo p. -/
namespace Go.Proofs.YteikpadpogkepaaDoor
open Go.RowKit
end Go.Proofs.YteikpadpogkepaaDoor
