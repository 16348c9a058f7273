import Derived.Test.YtdebkddhpogkgaaGreatZASarsPrime
import Derived.Test.YtdebkddhpogkgaaGreatZASarsRzBll
set_option linter.unusedSimpArgs false
/-! l is a prime: reckoning modulo l. -/
namespace Go.Proofs.YtdebkddhpogkgaaGreat
open Go.RowKit Go.Arr Go.Num
end Go.Proofs.YtdebkddhpogkgaaGreat
