import Derived.Test.YtbpiocljbkiemaaZAFeldAeF
import Derived.Test.YtbpiocljbkiemaaZAFeldAeC
set_option linter.unusedSimpArgs false
set_option linter.unusedVariables false
/-! aes: the document's words. -/
namespace Go.Proofs.Ytbpiocljbkiemaa
open Go.RowKit Go.Ev
end Go.Proofs.Ytbpiocljbkiemaa
