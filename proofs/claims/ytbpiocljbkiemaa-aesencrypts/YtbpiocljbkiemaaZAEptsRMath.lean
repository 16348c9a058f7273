import Derived.Test.YtbpiocljbkiemaaZAEptsFMath
/-! What a root's square is. -/
namespace Go.Proofs.Ytbpiocljbkiemaa
open Go.RowKit
end Go.Proofs.Ytbpiocljbkiemaa
