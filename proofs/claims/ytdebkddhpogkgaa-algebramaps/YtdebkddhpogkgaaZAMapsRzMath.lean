import Derived.Test.YtdebkddhpogkgaaZAMapsPrime
import Derived.Test.YtdebkddhpogkgaaZAMapsRzBll
set_option linter.unusedSimpArgs false
/-! l is a prime: reckoning modulo l. -/
namespace Go.Proofs.Ytdebkddhpogkgaa
open Go.RowKit Go.Arr Go.Num
end Go.Proofs.Ytdebkddhpogkgaa
