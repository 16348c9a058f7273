import Derived.Test.YtbpiocljbkiemaaZAUikeBytes
import Derived.Test.YtbpiocljbkiemaaZAUikeSchAll
set_option linter.unusedSimpArgs false
namespace Go.Proofs.Ytbpiocljbkiemaa
open Go.RowKit





end Go.Proofs.Ytbpiocljbkiemaa
