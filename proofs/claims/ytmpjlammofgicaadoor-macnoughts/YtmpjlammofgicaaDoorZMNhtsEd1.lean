import Derived.Test.YtmpjlammofgicaaDoorZMNhtsEdGAll
import Derived.Test.YtmpjlammofgicaaDoorZMNhtsSchAll
import Derived.Test.YtmpjlammofgicaaDoorZMNhtsRRoot2
/-! A point's cells: the program's, the document's. -/
namespace Go.Proofs.YtmpjlammofgicaaDoor
open Go.RowKit
structure P4 where
  X:Int
  Y:Int
  Z:Int
  T:Int
structure Sd where
  Y:Int
  o:Bool
end Go.Proofs.YtmpjlammofgicaaDoor
