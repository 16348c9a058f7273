import Derived.Test.YtpmkojinhebihaaDoorZSRotsSettle
import Derived.LoopN
import Derived.RegionTactic
import Derived.BigRegion
import Derived.Laws.NewBlocks
namespace Go.Proofs.YtpmkojinhebihaaDoor
open Go.RowKit



end Go.Proofs.YtpmkojinhebihaaDoor
