import Derived.Test.YtcfnjcacdmkgbaaDoorZMEndsRMath
/-! The document's root, by the quotient: the same as the program's. -/
namespace Go.Proofs.YtcfnjcacdmkgbaaDoor
open Go.RowKit
end Go.Proofs.YtcfnjcacdmkgbaaDoor
