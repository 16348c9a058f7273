import Derived.Test.YtpmkojinhebihaaDoorZSSardNeg
import Derived.Test.YtpmkojinhebihaaDoorZSSardMidArr
import Derived.LoopTactic
set_option linter.unusedSimpArgs false
namespace Go.Proofs.YtpmkojinhebihaaDoor
open Go.RowKit


end Go.Proofs.YtpmkojinhebihaaDoor

set_option linter.unusedSimpArgs false
namespace Go.Proofs.YtpmkojinhebihaaDoor
open Go.RowKit




end Go.Proofs.YtpmkojinhebihaaDoor
