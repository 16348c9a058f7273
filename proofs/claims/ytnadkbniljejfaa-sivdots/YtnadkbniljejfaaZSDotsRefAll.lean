import Derived.Test.YtnadkbniljejfaaZSDotsNumAll
import Derived.Test.YtnadkbniljejfaaZSDotsFMath
set_option linter.unusedSimpArgs false
namespace Go.Proofs.Ytnadkbniljejfaa
open Go.RowKit
end Go.Proofs.Ytnadkbniljejfaa

set_option linter.unusedSimpArgs false
namespace Go.Proofs.Ytnadkbniljejfaa
open Go.RowKit
end Go.Proofs.Ytnadkbniljejfaa

set_option linter.unusedSimpArgs false
namespace Go.Proofs.Ytnadkbniljejfaa
open Go.RowKit
end Go.Proofs.Ytnadkbniljejfaa

set_option linter.unusedSimpArgs false
namespace Go.Proofs.Ytnadkbniljejfaa
open Go.RowKit
section
variable {ops:Array Oper} {rest:List Oper} {o:Oper} {a:Act} {W:World} {Q:Exit→Act→World→Prop}
end
end Go.Proofs.Ytnadkbniljejfaa

set_option linter.unusedSimpArgs false
namespace Go.Proofs.Ytnadkbniljejfaa
open Go.RowKit
end Go.Proofs.Ytnadkbniljejfaa
