import Derived.Test.YtbpiocljbkiemaaZAUikeField3
import Derived.Deep.RegionHeld3
set_option linter.unusedSimpArgs false
namespace Go.Proofs.Ytbpiocljbkiemaa
open Go.RowKit




end Go.Proofs.Ytbpiocljbkiemaa
