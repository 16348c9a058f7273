import Derived.Test.YtdebkddhpogkgaaZABackRfMay
set_option linter.unusedSimpArgs false
namespace Go.Proofs.Ytdebkddhpogkgaa
open Go.RowKit Go.Arr
end Go.Proofs.Ytdebkddhpogkgaa

set_option linter.unusedSimpArgs false
namespace Go.Calm
section
variable {P:Program} {ops:Array Oper} {rest:List Oper} {o:Oper} {a:Act} {w0 W:World} {L:List Blk} {Q:Exit→Act→World→Prop}
end
end Go.Calm
namespace Go.Proofs.Ytdebkddhpogkgaa
open Go.RowKit Go.Arr
end Go.Proofs.Ytdebkddhpogkgaa

set_option linter.unusedSimpArgs false
namespace Go.Proofs.Ytdebkddhpogkgaa
open Go.RowKit Go.Arr
end Go.Proofs.Ytdebkddhpogkgaa
