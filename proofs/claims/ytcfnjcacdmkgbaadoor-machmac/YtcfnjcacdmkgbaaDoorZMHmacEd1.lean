import Derived.Test.YtcfnjcacdmkgbaaDoorZMHmacEdGAll
import Derived.Test.YtcfnjcacdmkgbaaDoorZMHmacSchAll
import Derived.Test.YtcfnjcacdmkgbaaDoorZMHmacRRoot2
/-! A point's cells: the program's, the document's. -/
namespace Go.Proofs.YtcfnjcacdmkgbaaDoor
open Go.RowKit
structure P4 where
  X:Int
  Y:Int
  Z:Int
  T:Int
structure Sd where
  Y:Int
  o:Bool
end Go.Proofs.YtcfnjcacdmkgbaaDoor
