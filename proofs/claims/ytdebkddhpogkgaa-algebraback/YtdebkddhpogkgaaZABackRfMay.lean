import Derived.Test.YtdebkddhpogkgaaZABackArr2
import Derived.Test.YtdebkddhpogkgaaZABackRzKnown
set_option linter.unusedSimpArgs false
namespace Go.Proofs.Ytdebkddhpogkgaa
open Go.RowKit Go.Arr
end Go.Proofs.Ytdebkddhpogkgaa
