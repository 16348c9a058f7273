import Derived.Test.YtnadkbniljejfaaZSPvalField
import Derived.Test.YtnadkbniljejfaaZSPvalEqArr
set_option linter.unusedSimpArgs false
namespace Go.Proofs.Ytnadkbniljejfaa
open Go.RowKit

section
variable {ops:Array Oper} {rest:List Oper} {o:Oper} {a:Act} {W:World} {Q:Exit→Act→World→Prop} {al:List (Nat×Tmp)} {R:Act→Prop} {m:Nat}
end

end Go.Proofs.Ytnadkbniljejfaa
