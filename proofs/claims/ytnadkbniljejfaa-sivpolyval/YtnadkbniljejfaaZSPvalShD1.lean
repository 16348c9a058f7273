import Derived.Test.YtnadkbniljejfaaZSPvalShA1
set_option linter.unusedSimpArgs false
set_option linter.unusedVariables false
/-! A block more: pieces. -/
namespace Go.Proofs.Ytnadkbniljejfaa
open Go.RowKit Go.Ev
end Go.Proofs.Ytnadkbniljejfaa

set_option linter.unusedSimpArgs false
set_option linter.unusedVariables false
/-! A block more: the loop. -/
namespace Go.Proofs.Ytnadkbniljejfaa
open Go.RowKit Go.Ev
end Go.Proofs.Ytnadkbniljejfaa
