import Derived.Test.YtnadkbniljejfaaZSDotsNeg
import Derived.Test.YtnadkbniljejfaaZSDotsMidArr
import Derived.LoopTactic
set_option linter.unusedSimpArgs false
namespace Go.Proofs.Ytnadkbniljejfaa
open Go.RowKit


end Go.Proofs.Ytnadkbniljejfaa
