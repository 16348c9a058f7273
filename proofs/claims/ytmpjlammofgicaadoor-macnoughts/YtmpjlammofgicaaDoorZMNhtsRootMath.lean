import Derived.Test.YtmpjlammofgicaaDoorZMNhtsRMath
/-! The document's root, by the quotient: the same as the program's. -/
namespace Go.Proofs.YtmpjlammofgicaaDoor
open Go.RowKit
end Go.Proofs.YtmpjlammofgicaaDoor
