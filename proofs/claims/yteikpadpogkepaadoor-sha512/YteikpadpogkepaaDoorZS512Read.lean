import Derived.Test.YteikpadpogkepaaDoorZS512Bytes
import Derived.Test.YteikpadpogkepaaDoorZS512SchAll
set_option linter.unusedSimpArgs false
namespace Go.Proofs.YteikpadpogkepaaDoor
open Go.RowKit





end Go.Proofs.YteikpadpogkepaaDoor
