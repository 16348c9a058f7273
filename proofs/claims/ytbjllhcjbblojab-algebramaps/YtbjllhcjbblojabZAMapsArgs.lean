/-
  A row's arguments as numbers.
-/
import Derived.Test.YtbjllhcjbblojabZAMapsByteL
namespace Go.Proofs.Ytbjllhcjbblojab
open Go.RowKit
end Go.Proofs.Ytbjllhcjbblojab
