import Derived.Test.YtpmkojinhebihaaDoorZSSardEdGAll
import Derived.Test.YtpmkojinhebihaaDoorZSSardSchAll
import Derived.Test.YtpmkojinhebihaaDoorZSSardRRoot2
/-! A point's cells: the program's, the document's. -/
namespace Go.Proofs.YtpmkojinhebihaaDoor
open Go.RowKit
structure P4 where
  X:Int
  Y:Int
  Z:Int
  T:Int
structure Sd where
  Y:Int
  o:Bool
end Go.Proofs.YtpmkojinhebihaaDoor
