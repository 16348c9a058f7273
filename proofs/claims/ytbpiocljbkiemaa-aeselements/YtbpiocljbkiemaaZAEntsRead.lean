import Derived.Test.YtbpiocljbkiemaaZAEntsBytes
import Derived.Test.YtbpiocljbkiemaaZAEntsSchAll
set_option linter.unusedSimpArgs false
namespace Go.Proofs.Ytbpiocljbkiemaa
open Go.RowKit





end Go.Proofs.Ytbpiocljbkiemaa
