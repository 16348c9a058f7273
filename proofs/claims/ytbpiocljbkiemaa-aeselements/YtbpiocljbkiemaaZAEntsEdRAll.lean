import Derived.Test.YtbpiocljbkiemaaZAEntsOpen
import Derived.Test.YtbpiocljbkiemaaZAEntsArgs
import Derived.Test.YtbpiocljbkiemaaZAEntsEd1
import Derived.ProofKit
import Derived.Test.YtbpiocljbkiemaaZAEntsEdEAll
/-
  Structs without pointers among a row's arguments:opened,and shut again whatever the memory.
-/
namespace Go.Calm
open Go.ChangeShapes Go.WideShapes Go.RowKit
section
variable {H:Type} {enc:TypeId×Value→H} {P:Program} {base:Nat} {sp:Nat→Bool} {held:Bool}
end
end Go.Calm

namespace Go.Calm
open Go.ChangeShapes Go.WideShapes Go.RowKit
section
variable {H:Type} {enc:TypeId×Value→H} {P:Program} {W:World} {base:Nat} {sp:Nat→Bool} {held:Bool} {t e:TypeId} {n:Nat} {k:IntKind}
end
end Go.Calm
namespace Go.Proofs.Ytbpiocljbkiemaa
open Go.ChangeShapes Go.WideShapes Go.RowKit
end Go.Proofs.Ytbpiocljbkiemaa

namespace Go.Proofs.Ytbpiocljbkiemaa
open Go.ChangeShapes Go.WideShapes Go.RowKit
end Go.Proofs.Ytbpiocljbkiemaa

namespace Go.Proofs.Ytbpiocljbkiemaa
open Go.ChangeShapes Go.WideShapes Go.RowKit
end Go.Proofs.Ytbpiocljbkiemaa
