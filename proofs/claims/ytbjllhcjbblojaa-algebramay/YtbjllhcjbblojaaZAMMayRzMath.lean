import Derived.Test.YtbjllhcjbblojaaZAMMayPrime
import Derived.Test.YtbjllhcjbblojaaZAMMayRzBll
set_option linter.unusedSimpArgs false
/-! l is a prime: reckoning modulo l. -/
namespace Go.Proofs.Ytbjllhcjbblojaa
open Go.RowKit Go.Arr Go.Num
end Go.Proofs.Ytbjllhcjbblojaa
