import Derived.Test.YtdebkddhpogkgaaGreatZASarsEdMAll
import Derived.Test.YtdebkddhpogkgaaGreatZASarsEvAll
set_option linter.unusedSimpArgs false
set_option linter.unusedVariables false
/-! Points so many times: loops over the bits. -/
namespace Go.Proofs.YtdebkddhpogkgaaGreat
open Go.RowKit Go.Ev
theorem wrp (n:Int) (h0: -9223372036854775808≤n) (h1:n≤9223372036854775807):IntKind.i64.wrap n=n:=by rw[IntKind.wrap_i64];omega



end Go.Proofs.YtdebkddhpogkgaaGreat
