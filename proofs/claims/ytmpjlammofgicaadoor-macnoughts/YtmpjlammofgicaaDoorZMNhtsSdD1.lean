import Derived.Test.YtmpjlammofgicaaDoorZMNhtsSdC1
import Derived.Test.YtmpjlammofgicaaDoorZMNhtsSdM1
set_option linter.unusedSimpArgs false
set_option linter.unusedVariables false
/-! The document's SHA-2: the sum. -/
namespace Go.Proofs.YtmpjlammofgicaaDoor
open Go.RowKit Go.Ev
end Go.Proofs.YtmpjlammofgicaaDoor

set_option linter.unusedSimpArgs false
set_option linter.unusedVariables false
/-! The document's SHA-2: the sum. -/
namespace Go.Proofs.YtmpjlammofgicaaDoor
open Go.RowKit Go.Ev
end Go.Proofs.YtmpjlammofgicaaDoor
