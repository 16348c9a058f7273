import Derived.Test.YtbpiocljbkiemaaZAWrdsNeg
import Derived.Test.YtbpiocljbkiemaaZAWrdsMidArr
import Derived.LoopTactic
set_option linter.unusedSimpArgs false
namespace Go.Proofs.Ytbpiocljbkiemaa
open Go.RowKit


end Go.Proofs.Ytbpiocljbkiemaa
