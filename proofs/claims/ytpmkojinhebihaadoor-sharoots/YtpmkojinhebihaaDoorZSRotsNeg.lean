import Derived.Test.YtpmkojinhebihaaDoorZSRotsMul
set_option linter.unusedSimpArgs false
namespace Go.Proofs.YtpmkojinhebihaaDoor
open Go.RowKit




end Go.Proofs.YtpmkojinhebihaaDoor
