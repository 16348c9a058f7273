import Derived.Test.YteikpadpogkepaaDoorZS256Bytes
import Derived.Test.YteikpadpogkepaaDoorZS256SchAll
set_option linter.unusedSimpArgs false
namespace Go.Proofs.YteikpadpogkepaaDoor
open Go.RowKit





end Go.Proofs.YteikpadpogkepaaDoor
