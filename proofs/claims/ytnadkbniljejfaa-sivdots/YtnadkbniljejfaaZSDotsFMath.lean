import Derived.Test.YtnadkbniljejfaaZSDotsFermat
/-! Reckoning modulo p. -/
namespace Go.Proofs.Ytnadkbniljejfaa
open Go.RowKit
end Go.Proofs.Ytnadkbniljejfaa
