import Derived.Test.YtnadkbniljejfaaZSFeldNeg
import Derived.Test.YtnadkbniljejfaaZSFeldMidArr
import Derived.LoopTactic
set_option linter.unusedSimpArgs false
namespace Go.Proofs.Ytnadkbniljejfaa
open Go.RowKit


end Go.Proofs.Ytnadkbniljejfaa
