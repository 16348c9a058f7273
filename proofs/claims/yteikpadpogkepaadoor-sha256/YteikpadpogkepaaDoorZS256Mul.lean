import Derived.Test.YteikpadpogkepaaDoorZS256Field3
import Derived.Deep.RegionHeld3
set_option linter.unusedSimpArgs false
namespace Go.Proofs.YteikpadpogkepaaDoor
open Go.RowKit




end Go.Proofs.YteikpadpogkepaaDoor
