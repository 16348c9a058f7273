import Derived.Test.YtnadkbniljejfaaZSFeldBytes
import Derived.Test.YtnadkbniljejfaaZSFeldSchAll
set_option linter.unusedSimpArgs false
namespace Go.Proofs.Ytnadkbniljejfaa
open Go.RowKit





end Go.Proofs.Ytnadkbniljejfaa
