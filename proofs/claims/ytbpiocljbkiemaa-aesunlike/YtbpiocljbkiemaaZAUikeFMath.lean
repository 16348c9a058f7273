import Derived.Test.YtbpiocljbkiemaaZAUikeFermat
/-! Reckoning modulo p. -/
namespace Go.Proofs.Ytbpiocljbkiemaa
open Go.RowKit
end Go.Proofs.Ytbpiocljbkiemaa
