import Derived.Test.YtbpiocljbkiemaaZAUikeNeg
import Derived.Test.YtbpiocljbkiemaaZAUikeMidArr
import Derived.LoopTactic
set_option linter.unusedSimpArgs false
namespace Go.Proofs.Ytbpiocljbkiemaa
open Go.RowKit


end Go.Proofs.Ytbpiocljbkiemaa
