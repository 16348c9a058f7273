import Derived.Test.YtbpiocljbkiemaaZAEptsBytes
import Derived.Test.YtbpiocljbkiemaaZAEptsSchAll
set_option linter.unusedSimpArgs false
namespace Go.Proofs.Ytbpiocljbkiemaa
open Go.RowKit





end Go.Proofs.Ytbpiocljbkiemaa
