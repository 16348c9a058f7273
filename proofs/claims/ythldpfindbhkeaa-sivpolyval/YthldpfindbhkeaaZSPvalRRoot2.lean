import Derived.Test.YthldpfindbhkeaaZSPvalRRoot
set_option linter.unusedSimpArgs false
namespace Go.Proofs.Ythldpfindbhkeaa
open Go.RowKit
end Go.Proofs.Ythldpfindbhkeaa
