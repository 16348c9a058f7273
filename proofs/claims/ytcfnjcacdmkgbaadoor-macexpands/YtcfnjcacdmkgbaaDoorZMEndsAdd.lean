import Derived.Test.YtcfnjcacdmkgbaaDoorZMEndsSettle
import Derived.LoopN
import Derived.RegionTactic
import Derived.BigRegion
import Derived.Laws.NewBlocks
namespace Go.Proofs.YtcfnjcacdmkgbaaDoor
open Go.RowKit



end Go.Proofs.YtcfnjcacdmkgbaaDoor
