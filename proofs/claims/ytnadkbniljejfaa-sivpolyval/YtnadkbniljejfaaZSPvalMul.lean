import Derived.Test.YtnadkbniljejfaaZSPvalField3
import Derived.Deep.RegionHeld3
set_option linter.unusedSimpArgs false
namespace Go.Proofs.Ytnadkbniljejfaa
open Go.RowKit




end Go.Proofs.Ytnadkbniljejfaa
