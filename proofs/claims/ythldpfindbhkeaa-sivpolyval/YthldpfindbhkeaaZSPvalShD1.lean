import Derived.Test.YthldpfindbhkeaaZSPvalShA1
set_option linter.unusedSimpArgs false
set_option linter.unusedVariables false
/-! A block more: pieces. -/
namespace Go.Proofs.Ythldpfindbhkeaa
open Go.RowKit Go.Ev
end Go.Proofs.Ythldpfindbhkeaa

set_option linter.unusedSimpArgs false
set_option linter.unusedVariables false
/-! A block more: the loop. -/
namespace Go.Proofs.Ythldpfindbhkeaa
open Go.RowKit Go.Ev
end Go.Proofs.Ythldpfindbhkeaa
