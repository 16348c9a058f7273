import Derived.Test.YtmpjlammofgicaaDoorZMNhtsNumAll
import Derived.Test.YtmpjlammofgicaaDoorZMNhtsFMath
set_option linter.unusedSimpArgs false
namespace Go.Proofs.YtmpjlammofgicaaDoor
open Go.RowKit
end Go.Proofs.YtmpjlammofgicaaDoor

set_option linter.unusedSimpArgs false
namespace Go.Proofs.YtmpjlammofgicaaDoor
open Go.RowKit
end Go.Proofs.YtmpjlammofgicaaDoor

set_option linter.unusedSimpArgs false
namespace Go.Proofs.YtmpjlammofgicaaDoor
open Go.RowKit
end Go.Proofs.YtmpjlammofgicaaDoor

set_option linter.unusedSimpArgs false
namespace Go.Proofs.YtmpjlammofgicaaDoor
open Go.RowKit
section
variable {ops:Array Oper} {rest:List Oper} {o:Oper} {a:Act} {W:World} {Q:Exit→Act→World→Prop}
end
end Go.Proofs.YtmpjlammofgicaaDoor

set_option linter.unusedSimpArgs false
namespace Go.Proofs.YtmpjlammofgicaaDoor
open Go.RowKit
end Go.Proofs.YtmpjlammofgicaaDoor
