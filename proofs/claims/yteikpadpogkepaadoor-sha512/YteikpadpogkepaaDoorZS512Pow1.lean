import Derived.Test.YteikpadpogkepaaDoorZS512Neg
import Derived.Test.YteikpadpogkepaaDoorZS512MidArr
import Derived.LoopTactic
set_option linter.unusedSimpArgs false
namespace Go.Proofs.YteikpadpogkepaaDoor
open Go.RowKit


end Go.Proofs.YteikpadpogkepaaDoor
