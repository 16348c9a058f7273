import Derived.Test.YtbpiocljbkiemaaZAWrdsField2
set_option linter.unusedSimpArgs false
namespace Go.Proofs.Ytbpiocljbkiemaa
open Go.RowKit




end Go.Proofs.Ytbpiocljbkiemaa
