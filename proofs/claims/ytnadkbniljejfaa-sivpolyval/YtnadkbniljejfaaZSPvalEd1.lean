import Derived.Test.YtnadkbniljejfaaZSPvalEdGAll
import Derived.Test.YtnadkbniljejfaaZSPvalSchAll
import Derived.Test.YtnadkbniljejfaaZSPvalRRoot2
/-! A point's cells: the program's, the document's. -/
namespace Go.Proofs.Ytnadkbniljejfaa
open Go.RowKit
structure P4 where
  X:Int
  Y:Int
  Z:Int
  T:Int
structure Sd where
  Y:Int
  o:Bool
end Go.Proofs.Ytnadkbniljejfaa
