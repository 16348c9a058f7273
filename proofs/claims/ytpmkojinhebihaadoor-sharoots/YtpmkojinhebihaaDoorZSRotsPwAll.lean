import Derived.Test.YtpmkojinhebihaaDoorZSRotsNeg
import Derived.Test.YtpmkojinhebihaaDoorZSRotsMidArr
import Derived.LoopTactic
set_option linter.unusedSimpArgs false
namespace Go.Proofs.YtpmkojinhebihaaDoor
open Go.RowKit


end Go.Proofs.YtpmkojinhebihaaDoor

set_option linter.unusedSimpArgs false
namespace Go.Proofs.YtpmkojinhebihaaDoor
open Go.RowKit




end Go.Proofs.YtpmkojinhebihaaDoor
