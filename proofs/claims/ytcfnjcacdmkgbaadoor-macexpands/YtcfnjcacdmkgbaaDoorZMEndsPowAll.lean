import Derived.Test.YtcfnjcacdmkgbaaDoorZMEndsRefAll
import Derived.WalkKit
import Derived.Test.YtcfnjcacdmkgbaaDoorZMEndsRMath
import Derived.Test.YtcfnjcacdmkgbaaDoorZMEndsSchAll
set_option linter.unusedSimpArgs false
namespace Go.Calm
end Go.Calm
namespace Go.Proofs.YtcfnjcacdmkgbaaDoor
open Go.RowKit
end Go.Proofs.YtcfnjcacdmkgbaaDoor

set_option linter.unusedSimpArgs false
namespace Go.Calm
section
variable {P:Program} {ops:Array Oper} {rest:List Oper} {o:Oper} {a:Act} {w0 W:World} {L:List Blk} {Q:Exit→Act→World→Prop}
end
end Go.Calm
namespace Go.Proofs.YtcfnjcacdmkgbaaDoor
open Go.RowKit
end Go.Proofs.YtcfnjcacdmkgbaaDoor

set_option linter.unusedSimpArgs false
namespace Go.Proofs.YtcfnjcacdmkgbaaDoor
open Go.RowKit
end Go.Proofs.YtcfnjcacdmkgbaaDoor

set_option linter.unusedSimpArgs false
namespace Go.Proofs.YtcfnjcacdmkgbaaDoor
open Go.RowKit
end Go.Proofs.YtcfnjcacdmkgbaaDoor

set_option linter.unusedSimpArgs false
namespace Go.Calm
section
variable {P:Program} {ops:Array Oper} {Q:Exit→Act→World→Prop} {r:List (Nat×Bool)} {i:Nat} {o:Oper} {a:Act} {W:World} {L0:List Blk}
end
end Go.Calm
namespace Go.Proofs.YtcfnjcacdmkgbaaDoor
open Go.RowKit
end Go.Proofs.YtcfnjcacdmkgbaaDoor
