import Derived.Test.YtmpjlammofgicaaDoorZMNhtsSettle
import Derived.LoopN
import Derived.RegionTactic
import Derived.BigRegion
import Derived.Laws.NewBlocks
namespace Go.Proofs.YtmpjlammofgicaaDoor
open Go.RowKit



end Go.Proofs.YtmpjlammofgicaaDoor
