import Derived.Test.YteikpadpogkepaaDoorZS256RMath
/-! The document's root, by the quotient: the same as the program's. -/
namespace Go.Proofs.YteikpadpogkepaaDoor
open Go.RowKit
end Go.Proofs.YteikpadpogkepaaDoor
