import Derived.Test.YtpmkojinhebihaaDoorZSRotsShSS
set_option linter.unusedSimpArgs false
set_option linter.unusedVariables false
namespace Go.Proofs.YtpmkojinhebihaaDoor
open Go.RowKit Go.Ev
theorem okc72:(List.range' 72 4).all okC=true:=by kernel_rfl
theorem okc76:(List.range' 76 4).all okC=true:=by kernel_rfl
theorem oks0:(List.range 8).all okS=true:=by kernel_rfl
end Go.Proofs.YtpmkojinhebihaaDoor
