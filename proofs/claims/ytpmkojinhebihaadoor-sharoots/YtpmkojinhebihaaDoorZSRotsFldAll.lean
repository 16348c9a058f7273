import Derived.Test.YtpmkojinhebihaaDoorZSRotsAdd
import Derived.Test.YtpmkojinhebihaaDoorZSRotsEqArr
set_option linter.unusedSimpArgs false
namespace Go.Proofs.YtpmkojinhebihaaDoor
open Go.RowKit

def Ok (n:Int):Prop:=0≤n∧n<115792089237316195423570985008687907853269984665640564039457584007913129639936





end Go.Proofs.YtpmkojinhebihaaDoor

set_option linter.unusedSimpArgs false
namespace Go.Proofs.YtpmkojinhebihaaDoor
open Go.RowKit

section
variable {ops:Array Oper} {rest:List Oper} {o:Oper} {a:Act} {W:World} {Q:Exit→Act→World→Prop} {al:List (Nat×Tmp)} {R:Act→Prop} {m:Nat}
end

end Go.Proofs.YtpmkojinhebihaaDoor

set_option linter.unusedSimpArgs false
namespace Go.Proofs.YtpmkojinhebihaaDoor
open Go.RowKit




end Go.Proofs.YtpmkojinhebihaaDoor
