import Derived.Test.YtdebkddhpogkgaaGreatZASarsRfAll
set_option linter.unusedSimpArgs false
namespace Go.Proofs.YtdebkddhpogkgaaGreat
open Go.RowKit Go.Arr
end Go.Proofs.YtdebkddhpogkgaaGreat
