import Derived.Test.YtpmkojinhebihaaDoorZSRotsNumAll
import Derived.Test.YtpmkojinhebihaaDoorZSRotsMthAll
set_option linter.unusedSimpArgs false
namespace Go.Proofs.YtpmkojinhebihaaDoor
open Go.RowKit
end Go.Proofs.YtpmkojinhebihaaDoor

set_option linter.unusedSimpArgs false
namespace Go.Proofs.YtpmkojinhebihaaDoor
open Go.RowKit
end Go.Proofs.YtpmkojinhebihaaDoor

set_option linter.unusedSimpArgs false
namespace Go.Proofs.YtpmkojinhebihaaDoor
open Go.RowKit
end Go.Proofs.YtpmkojinhebihaaDoor

set_option linter.unusedSimpArgs false
namespace Go.Proofs.YtpmkojinhebihaaDoor
open Go.RowKit
section
variable {ops:Array Oper} {rest:List Oper} {o:Oper} {a:Act} {W:World} {Q:Exit→Act→World→Prop}
end
end Go.Proofs.YtpmkojinhebihaaDoor

set_option linter.unusedSimpArgs false
namespace Go.Proofs.YtpmkojinhebihaaDoor
open Go.RowKit
end Go.Proofs.YtpmkojinhebihaaDoor
