import Derived.Test.YtpmkojinhebihaaDoorZSRotsShSS
set_option linter.unusedSimpArgs false
set_option linter.unusedVariables false
namespace Go.Proofs.YtpmkojinhebihaaDoor
open Go.RowKit Go.Ev
theorem okc0:(List.range' 0 4).all okC=true:=by kernel_rfl
theorem okc4:(List.range' 4 4).all okC=true:=by kernel_rfl
theorem okc8:(List.range' 8 4).all okC=true:=by kernel_rfl
end Go.Proofs.YtpmkojinhebihaaDoor
