import Derived.Test.YteikpadpogkepaaDoorZS256SdC1
import Derived.Test.YteikpadpogkepaaDoorZS256SdM1
set_option linter.unusedSimpArgs false
set_option linter.unusedVariables false
/-! The document's SHA-2: the sum. -/
namespace Go.Proofs.YteikpadpogkepaaDoor
open Go.RowKit Go.Ev
end Go.Proofs.YteikpadpogkepaaDoor
