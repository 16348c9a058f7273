import Derived.Test.YteikpadpogkepaaDoorZS256Neg
import Derived.Test.YteikpadpogkepaaDoorZS256MidArr
import Derived.LoopTactic
set_option linter.unusedSimpArgs false
namespace Go.Proofs.YteikpadpogkepaaDoor
open Go.RowKit


end Go.Proofs.YteikpadpogkepaaDoor
