import Derived.Test.YtnadkbniljejfaaZSPvalShG1
set_option linter.unusedSimpArgs false
set_option linter.unusedVariables false
/-! The sum of a text: pieces. -/
namespace Go.Proofs.Ytnadkbniljejfaa
open Go.RowKit Go.Ev
end Go.Proofs.Ytnadkbniljejfaa

set_option linter.unusedSimpArgs false
set_option linter.unusedVariables false
/-! The sum of a text: loops. -/
namespace Go.Proofs.Ytnadkbniljejfaa
open Go.RowKit Go.Ev
end Go.Proofs.Ytnadkbniljejfaa
