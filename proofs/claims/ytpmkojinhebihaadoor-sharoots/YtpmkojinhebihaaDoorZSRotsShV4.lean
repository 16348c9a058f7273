import Derived.Test.YtpmkojinhebihaaDoorZSRotsShSS
set_option linter.unusedSimpArgs false
set_option linter.unusedVariables false
namespace Go.Proofs.YtpmkojinhebihaaDoor
open Go.RowKit Go.Ev
theorem okc48:(List.range' 48 4).all okC=true:=by kernel_rfl
theorem okc52:(List.range' 52 4).all okC=true:=by kernel_rfl
theorem okc56:(List.range' 56 4).all okC=true:=by kernel_rfl
end Go.Proofs.YtpmkojinhebihaaDoor
