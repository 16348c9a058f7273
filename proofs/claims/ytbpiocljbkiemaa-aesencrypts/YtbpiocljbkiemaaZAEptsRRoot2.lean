import Derived.Test.YtbpiocljbkiemaaZAEptsRRoot
set_option linter.unusedSimpArgs false
namespace Go.Proofs.Ytbpiocljbkiemaa
open Go.RowKit
end Go.Proofs.Ytbpiocljbkiemaa
