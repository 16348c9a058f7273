import Derived.Test.YtnadkbniljejfaaZSPvalSettle
import Derived.LoopN
import Derived.RegionTactic
import Derived.BigRegion
import Derived.Laws.NewBlocks
namespace Go.Proofs.Ytnadkbniljejfaa
open Go.RowKit



end Go.Proofs.Ytnadkbniljejfaa
