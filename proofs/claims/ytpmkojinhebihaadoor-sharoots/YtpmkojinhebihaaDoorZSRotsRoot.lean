import Derived.Test.YtpmkojinhebihaaDoorZSRotsPwAll
set_option linter.unusedSimpArgs false
namespace Go.Proofs.YtpmkojinhebihaaDoor
open Go.RowKit





end Go.Proofs.YtpmkojinhebihaaDoor
