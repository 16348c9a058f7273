import Derived.Test.YtpmkojinhebihaaDoorZSRotsFldAll
import Derived.Deep.RegionHeld3
set_option linter.unusedSimpArgs false
namespace Go.Proofs.YtpmkojinhebihaaDoor
open Go.RowKit




end Go.Proofs.YtpmkojinhebihaaDoor
