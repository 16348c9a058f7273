import Derived.Test.YtbpiocljbkiemaaZAEntsAeF
import Derived.Test.YtbpiocljbkiemaaZAEntsAeC
set_option linter.unusedSimpArgs false
set_option linter.unusedVariables false
/-! aes: the document's words. -/
namespace Go.Proofs.Ytbpiocljbkiemaa
open Go.RowKit Go.Ev
end Go.Proofs.Ytbpiocljbkiemaa
