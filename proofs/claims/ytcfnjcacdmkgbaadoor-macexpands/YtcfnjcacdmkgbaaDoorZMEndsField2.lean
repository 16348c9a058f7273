import Derived.Test.YtcfnjcacdmkgbaaDoorZMEndsField
import Derived.Test.YtcfnjcacdmkgbaaDoorZMEndsEqArr1
set_option linter.unusedSimpArgs false
namespace Go.Proofs.YtcfnjcacdmkgbaaDoor
open Go.RowKit

section
variable {ops:Array Oper} {rest:List Oper} {o:Oper} {a:Act} {W:World} {Q:Exit→Act→World→Prop} {al:List (Nat×Tmp)} {R:Act→Prop} {m:Nat}
end

end Go.Proofs.YtcfnjcacdmkgbaaDoor
