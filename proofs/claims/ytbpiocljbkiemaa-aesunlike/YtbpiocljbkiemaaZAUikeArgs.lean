/-
  A row's arguments as numbers.
-/
import Derived.Test.YtbpiocljbkiemaaZAUikeByteL
namespace Go.Proofs.Ytbpiocljbkiemaa
open Go.RowKit
end Go.Proofs.Ytbpiocljbkiemaa
