import Derived.Test.YtnadkbniljejfaaZSPvalRMath
/-! The document's root, by the quotient: the same as the program's. -/
namespace Go.Proofs.Ytnadkbniljejfaa
open Go.RowKit
end Go.Proofs.Ytnadkbniljejfaa
