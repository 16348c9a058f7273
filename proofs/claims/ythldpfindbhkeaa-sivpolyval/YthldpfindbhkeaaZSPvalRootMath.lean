import Derived.Test.YthldpfindbhkeaaZSPvalRMath
/-! The document's root, by the quotient: the same as the program's. -/
namespace Go.Proofs.Ythldpfindbhkeaa
open Go.RowKit
end Go.Proofs.Ythldpfindbhkeaa
