import Derived.Test.YtdebkddhpogkgaaZAMapsArr2
import Derived.Test.YtdebkddhpogkgaaZAMapsRzKnown
set_option linter.unusedSimpArgs false
namespace Go.Proofs.Ytdebkddhpogkgaa
open Go.RowKit Go.Arr
end Go.Proofs.Ytdebkddhpogkgaa
