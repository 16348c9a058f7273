import Derived.Test.YteikpadpogkepaaDoorZS512Settle
import Derived.LoopN
import Derived.RegionTactic
import Derived.BigRegion
import Derived.Laws.NewBlocks
namespace Go.Proofs.YteikpadpogkepaaDoor
open Go.RowKit



end Go.Proofs.YteikpadpogkepaaDoor
