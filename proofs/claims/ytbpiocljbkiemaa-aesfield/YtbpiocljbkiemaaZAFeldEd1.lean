import Derived.Test.YtbpiocljbkiemaaZAFeldEdGAll
import Derived.Test.YtbpiocljbkiemaaZAFeldSchAll
import Derived.Test.YtbpiocljbkiemaaZAFeldRRoot2
/-! A point's cells: the program's, the document's. -/
namespace Go.Proofs.Ytbpiocljbkiemaa
open Go.RowKit
structure P4 where
  X:Int
  Y:Int
  Z:Int
  T:Int
structure Sd where
  Y:Int
  o:Bool
end Go.Proofs.Ytbpiocljbkiemaa
