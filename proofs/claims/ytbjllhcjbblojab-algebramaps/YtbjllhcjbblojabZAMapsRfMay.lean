import Derived.Test.YtbjllhcjbblojabZAMapsArr2
import Derived.Test.YtbjllhcjbblojabZAMapsRzKnown
set_option linter.unusedSimpArgs false
namespace Go.Proofs.Ytbjllhcjbblojab
open Go.RowKit Go.Arr
end Go.Proofs.Ytbjllhcjbblojab
