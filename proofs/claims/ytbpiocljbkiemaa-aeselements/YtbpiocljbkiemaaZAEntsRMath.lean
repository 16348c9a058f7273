import Derived.Test.YtbpiocljbkiemaaZAEntsFMath
/-! What a root's square is. -/
namespace Go.Proofs.Ytbpiocljbkiemaa
open Go.RowKit
end Go.Proofs.Ytbpiocljbkiemaa
