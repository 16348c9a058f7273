import Derived.Test.YtnadkbniljejfaaZSPvalNeg
import Derived.Test.YtnadkbniljejfaaZSPvalMidArr
import Derived.LoopTactic
set_option linter.unusedSimpArgs false
namespace Go.Proofs.Ytnadkbniljejfaa
open Go.RowKit


end Go.Proofs.Ytnadkbniljejfaa
