import Derived.Test.YtnadkbniljejfaaZSDotsMul
set_option linter.unusedSimpArgs false
namespace Go.Proofs.Ytnadkbniljejfaa
open Go.RowKit




end Go.Proofs.Ytnadkbniljejfaa
