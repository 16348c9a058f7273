import Derived.Test.YtbjllhcjbblojaaZRSardRefAll
import Derived.Test.YtbjllhcjbblojaaZRSardRead
set_option linter.unusedSimpArgs false
namespace Go.Proofs.Ytbjllhcjbblojaa
open Go.RowKit
end Go.Proofs.Ytbjllhcjbblojaa
