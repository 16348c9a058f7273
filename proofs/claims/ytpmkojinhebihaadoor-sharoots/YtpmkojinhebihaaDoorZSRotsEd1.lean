import Derived.Test.YtpmkojinhebihaaDoorZSRotsEdGAll
import Derived.Test.YtpmkojinhebihaaDoorZSRotsSchAll
import Derived.Test.YtpmkojinhebihaaDoorZSRotsRRoot2
/-! A point's cells: the program's, the document's. -/
namespace Go.Proofs.YtpmkojinhebihaaDoor
open Go.RowKit
structure P4 where
  X:Int
  Y:Int
  Z:Int
  T:Int
structure Sd where
  Y:Int
  o:Bool
end Go.Proofs.YtpmkojinhebihaaDoor
