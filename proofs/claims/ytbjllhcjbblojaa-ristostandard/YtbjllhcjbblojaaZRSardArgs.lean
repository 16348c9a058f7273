/-
  A row's arguments as numbers.
-/
import Derived.Test.YtbjllhcjbblojaaZRSardByteL
namespace Go.Proofs.Ytbjllhcjbblojaa
open Go.RowKit
end Go.Proofs.Ytbjllhcjbblojaa
