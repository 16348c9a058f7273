/-
  limb.timesPlus,limb.plusWord,limb.settle:contracts.
-/
import Derived.Test.YtcfnjcacdmkgbaaDoorZMEndsWord
import Derived.Laws.ResultCell
import Derived.Outline
import Derived.Test.YtcfnjcacdmkgbaaDoorZMEndsMem
namespace Go.Proofs.YtcfnjcacdmkgbaaDoor
open Go.RowKit







def pr:Int:=57896044618658097711785492504343953926634992332820282019728792003956564819949




end Go.Proofs.YtcfnjcacdmkgbaaDoor
