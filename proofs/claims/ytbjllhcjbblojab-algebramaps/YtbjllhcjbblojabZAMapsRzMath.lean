import Derived.Test.YtbjllhcjbblojabZAMapsPrime
import Derived.Test.YtbjllhcjbblojabZAMapsRzBll
set_option linter.unusedSimpArgs false
/-! l is a prime: reckoning modulo l. -/
namespace Go.Proofs.Ytbjllhcjbblojab
open Go.RowKit Go.Arr Go.Num
end Go.Proofs.Ytbjllhcjbblojab
