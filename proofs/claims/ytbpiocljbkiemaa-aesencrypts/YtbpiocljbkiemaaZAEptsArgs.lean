/-
  A row's arguments as numbers.
-/
import Derived.Test.YtbpiocljbkiemaaZAEptsByteL
namespace Go.Proofs.Ytbpiocljbkiemaa
open Go.RowKit
end Go.Proofs.Ytbpiocljbkiemaa
