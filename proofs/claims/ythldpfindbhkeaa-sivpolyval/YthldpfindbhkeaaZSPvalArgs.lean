/-
  A row's arguments as numbers.
-/
import Derived.Test.YthldpfindbhkeaaZSPvalByteL
namespace Go.Proofs.Ythldpfindbhkeaa
open Go.RowKit
end Go.Proofs.Ythldpfindbhkeaa
