import Derived.Test.YtcfnjcacdmkgbaaDoorZMEndsRoot
set_option linter.unusedSimpArgs false
namespace Go.Proofs.YtcfnjcacdmkgbaaDoor
open Go.RowKit

def prN:Nat:=57896044618658097711785492504343953926634992332820282019728792003956564819949


section
variable {ops:Array Oper} {rest:List Oper} {o:Oper} {a:Act} {W:World} {al:List (Nat×Tmp)} {R:Act→Prop} {m:Nat}
end

end Go.Proofs.YtcfnjcacdmkgbaaDoor
