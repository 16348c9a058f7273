import Derived.Test.YthldpfindbhkeaaZSPvalShG1
set_option linter.unusedSimpArgs false
set_option linter.unusedVariables false
/-! The sum of a text: pieces. -/
namespace Go.Proofs.Ythldpfindbhkeaa
open Go.RowKit Go.Ev
end Go.Proofs.Ythldpfindbhkeaa

set_option linter.unusedSimpArgs false
set_option linter.unusedVariables false
/-! The sum of a text: loops. -/
namespace Go.Proofs.Ythldpfindbhkeaa
open Go.RowKit Go.Ev
end Go.Proofs.Ythldpfindbhkeaa
