import Derived.Test.YtbpiocljbkiemaaZAEptsField3
import Derived.Deep.RegionHeld3
set_option linter.unusedSimpArgs false
namespace Go.Proofs.Ytbpiocljbkiemaa
open Go.RowKit




end Go.Proofs.Ytbpiocljbkiemaa
