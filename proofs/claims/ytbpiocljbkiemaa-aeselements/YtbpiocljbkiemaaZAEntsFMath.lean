import Derived.Test.YtbpiocljbkiemaaZAEntsFermat
/-! Reckoning modulo p. -/
namespace Go.Proofs.Ytbpiocljbkiemaa
open Go.RowKit
end Go.Proofs.Ytbpiocljbkiemaa
