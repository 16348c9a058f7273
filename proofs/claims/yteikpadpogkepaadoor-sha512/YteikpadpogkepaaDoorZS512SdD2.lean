import Derived.Test.YteikpadpogkepaaDoorZS512SdC1
import Derived.Test.YteikpadpogkepaaDoorZS512SdM1
set_option linter.unusedSimpArgs false
set_option linter.unusedVariables false
/-! The document's SHA-2: the sum. -/
namespace Go.Proofs.YteikpadpogkepaaDoor
open Go.RowKit Go.Ev
end Go.Proofs.YteikpadpogkepaaDoor
