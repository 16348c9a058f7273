import Derived.Test.YtbpiocljbkiemaaZAUikeSettle
import Derived.LoopN
import Derived.RegionTactic
import Derived.BigRegion
import Derived.Laws.NewBlocks
namespace Go.Proofs.Ytbpiocljbkiemaa
open Go.RowKit



end Go.Proofs.Ytbpiocljbkiemaa
