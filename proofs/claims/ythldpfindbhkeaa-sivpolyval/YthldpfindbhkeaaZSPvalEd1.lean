import Derived.Test.YthldpfindbhkeaaZSPvalEdGAll
import Derived.Test.YthldpfindbhkeaaZSPvalSchAll
import Derived.Test.YthldpfindbhkeaaZSPvalRRoot2
/-! A point's cells: the program's, the document's. -/
namespace Go.Proofs.Ythldpfindbhkeaa
open Go.RowKit
structure P4 where
  X:Int
  Y:Int
  Z:Int
  T:Int
structure Sd where
  Y:Int
  o:Bool
end Go.Proofs.Ythldpfindbhkeaa
