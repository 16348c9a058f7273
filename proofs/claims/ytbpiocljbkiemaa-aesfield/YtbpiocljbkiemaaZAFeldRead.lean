import Derived.Test.YtbpiocljbkiemaaZAFeldBytes
import Derived.Test.YtbpiocljbkiemaaZAFeldSchAll
set_option linter.unusedSimpArgs false
namespace Go.Proofs.Ytbpiocljbkiemaa
open Go.RowKit





end Go.Proofs.Ytbpiocljbkiemaa
