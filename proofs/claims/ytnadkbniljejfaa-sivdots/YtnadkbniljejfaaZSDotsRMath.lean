import Derived.Test.YtnadkbniljejfaaZSDotsFMath
/-! What a root's square is. -/
namespace Go.Proofs.Ytnadkbniljejfaa
open Go.RowKit
end Go.Proofs.Ytnadkbniljejfaa
