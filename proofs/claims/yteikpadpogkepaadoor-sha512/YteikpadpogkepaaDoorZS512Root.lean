import Derived.Test.YteikpadpogkepaaDoorZS512Pow2
set_option linter.unusedSimpArgs false
namespace Go.Proofs.YteikpadpogkepaaDoor
open Go.RowKit





end Go.Proofs.YteikpadpogkepaaDoor
