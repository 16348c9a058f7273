import Derived.Test.YteikpadpogkepaaDoorZS256Pow1
set_option linter.unusedSimpArgs false
namespace Go.Proofs.YteikpadpogkepaaDoor
open Go.RowKit




end Go.Proofs.YteikpadpogkepaaDoor
