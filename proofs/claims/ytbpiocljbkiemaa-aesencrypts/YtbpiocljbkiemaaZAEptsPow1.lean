import Derived.Test.YtbpiocljbkiemaaZAEptsNeg
import Derived.Test.YtbpiocljbkiemaaZAEptsMidArr
import Derived.LoopTactic
set_option linter.unusedSimpArgs false
namespace Go.Proofs.Ytbpiocljbkiemaa
open Go.RowKit


end Go.Proofs.Ytbpiocljbkiemaa
