import Derived.Test.YtbpiocljbkiemaaZAEptsFermat
/-! Reckoning modulo p. -/
namespace Go.Proofs.Ytbpiocljbkiemaa
open Go.RowKit
end Go.Proofs.Ytbpiocljbkiemaa
