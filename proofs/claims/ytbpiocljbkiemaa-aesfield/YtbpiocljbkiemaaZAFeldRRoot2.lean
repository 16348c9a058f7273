import Derived.Test.YtbpiocljbkiemaaZAFeldRRoot
set_option linter.unusedSimpArgs false
namespace Go.Proofs.Ytbpiocljbkiemaa
open Go.RowKit
end Go.Proofs.Ytbpiocljbkiemaa
