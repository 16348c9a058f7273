import Derived.Test.YtcfnjcacdmkgbaaDoorZMEndsEdGAll
import Derived.Test.YtcfnjcacdmkgbaaDoorZMEndsSchAll
import Derived.Test.YtcfnjcacdmkgbaaDoorZMEndsRRoot2
/-! A point's cells: the program's, the document's. -/
namespace Go.Proofs.YtcfnjcacdmkgbaaDoor
open Go.RowKit
structure P4 where
  X:Int
  Y:Int
  Z:Int
  T:Int
structure Sd where
  Y:Int
  o:Bool
end Go.Proofs.YtcfnjcacdmkgbaaDoor
