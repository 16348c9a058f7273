import Derived.Test.YtbpiocljbkiemaaZAEntsNeg
import Derived.Test.YtbpiocljbkiemaaZAEntsMidArr
import Derived.LoopTactic
set_option linter.unusedSimpArgs false
namespace Go.Proofs.Ytbpiocljbkiemaa
open Go.RowKit


end Go.Proofs.Ytbpiocljbkiemaa
