import Derived.Test.YtbpiocljbkiemaaZAEntsField2
set_option linter.unusedSimpArgs false
namespace Go.Proofs.Ytbpiocljbkiemaa
open Go.RowKit




end Go.Proofs.Ytbpiocljbkiemaa
