import Derived.Test.YtbpiocljbkiemaaZAWrdsFermat
/-! Reckoning modulo p. -/
namespace Go.Proofs.Ytbpiocljbkiemaa
open Go.RowKit
end Go.Proofs.Ytbpiocljbkiemaa
