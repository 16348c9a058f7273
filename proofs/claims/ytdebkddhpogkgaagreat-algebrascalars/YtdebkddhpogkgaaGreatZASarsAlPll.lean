import Derived.Test.YtdebkddhpogkgaaGreatZASarsRiMAll
import Derived.Test.YtdebkddhpogkgaaGreatZASarsRzMath
set_option linter.unusedSimpArgs false
set_option linter.unusedVariables false
/-! How many points there are. -/
namespace Go.Proofs.YtdebkddhpogkgaaGreat
open Go.RowKit Go.Num
end Go.Proofs.YtdebkddhpogkgaaGreat

set_option linter.unusedSimpArgs false
set_option linter.unusedVariables false
/-! Each point's order. -/
namespace Go.Proofs.YtdebkddhpogkgaaGreat
open Go.RowKit Go.Num
end Go.Proofs.YtdebkddhpogkgaaGreat

set_option linter.unusedSimpArgs false
set_option linter.unusedVariables false
/-! Scalars count by their rest modulo l. -/
namespace Go.Proofs.YtdebkddhpogkgaaGreat
open Go.RowKit
end Go.Proofs.YtdebkddhpogkgaaGreat
