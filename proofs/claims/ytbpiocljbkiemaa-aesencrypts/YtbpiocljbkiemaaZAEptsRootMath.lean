import Derived.Test.YtbpiocljbkiemaaZAEptsRMath
/-! The document's root, by the quotient: the same as the program's. -/
namespace Go.Proofs.Ytbpiocljbkiemaa
open Go.RowKit
end Go.Proofs.Ytbpiocljbkiemaa
