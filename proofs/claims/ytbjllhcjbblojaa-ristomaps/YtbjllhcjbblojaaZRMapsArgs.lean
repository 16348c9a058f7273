/-
  A row's arguments as numbers.
-/
import Derived.Test.YtbjllhcjbblojaaZRMapsByteL
namespace Go.Proofs.Ytbjllhcjbblojaa
open Go.RowKit
end Go.Proofs.Ytbjllhcjbblojaa
