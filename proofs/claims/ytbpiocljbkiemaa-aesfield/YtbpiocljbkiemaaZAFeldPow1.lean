import Derived.Test.YtbpiocljbkiemaaZAFeldNeg
import Derived.Test.YtbpiocljbkiemaaZAFeldMidArr
import Derived.LoopTactic
set_option linter.unusedSimpArgs false
namespace Go.Proofs.Ytbpiocljbkiemaa
open Go.RowKit


end Go.Proofs.Ytbpiocljbkiemaa
