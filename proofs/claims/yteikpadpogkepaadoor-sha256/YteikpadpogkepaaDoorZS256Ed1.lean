import Derived.Test.YteikpadpogkepaaDoorZS256EdGAll
import Derived.Test.YteikpadpogkepaaDoorZS256SchAll
import Derived.Test.YteikpadpogkepaaDoorZS256RRoot2
/-! A point's cells: the program's, the document's. -/
namespace Go.Proofs.YteikpadpogkepaaDoor
open Go.RowKit
structure P4 where
  X:Int
  Y:Int
  Z:Int
  T:Int
structure Sd where
  Y:Int
  o:Bool
end Go.Proofs.YteikpadpogkepaaDoor
