import Derived.Test.YtbjllhcjbblojaaZRCetsRefAll
import Derived.Test.YtbjllhcjbblojaaZRCetsRead
set_option linter.unusedSimpArgs false
namespace Go.Proofs.Ytbjllhcjbblojaa
open Go.RowKit
end Go.Proofs.Ytbjllhcjbblojaa
