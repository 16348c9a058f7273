/-
  The words' arithmetic:math/bits.Add64,Sub64,Mul64,and limb.timesPlus,limb.plusWord,as contracts over Int.
-/
import Derived.Test.YtcfnjcacdmkgbaaDoorProg
import Derived.WalkKit
import Derived.WalkSpells
import Derived.KernelRfl
import Derived.Below
import Derived.Laws.Externs
import Derived.Laws.Bits64b
import Derived.Lib.Mul64
namespace Go.Proofs.YtcfnjcacdmkgbaaDoor
open Go.RowKit






namespace M64
end M64


end Go.Proofs.YtcfnjcacdmkgbaaDoor
