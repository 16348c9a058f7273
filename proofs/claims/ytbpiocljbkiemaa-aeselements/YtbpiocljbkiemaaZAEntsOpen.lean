/-
  Arrays of integers among a row's arguments:opened,and shut again.
-/
import Derived.ProofKit
import Derived.OpenShut
import Derived.KernelRfl
namespace Go.Calm
open Go.ChangeShapes Go.WideShapes Go.RowKit
section
variable {H:Type} {enc:TypeId×Value→H} {P:Program} {W:World} {base:Nat} {sp:Nat→Bool} {held:Bool} {t e:TypeId} {n:Nat} {k:IntKind}

end
end Go.Calm
