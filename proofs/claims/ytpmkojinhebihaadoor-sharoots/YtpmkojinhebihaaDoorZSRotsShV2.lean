import Derived.Test.YtpmkojinhebihaaDoorZSRotsShSS
set_option linter.unusedSimpArgs false
set_option linter.unusedVariables false
namespace Go.Proofs.YtpmkojinhebihaaDoor
open Go.RowKit Go.Ev
theorem okc24:(List.range' 24 4).all okC=true:=by kernel_rfl
theorem okc28:(List.range' 28 4).all okC=true:=by kernel_rfl
theorem okc32:(List.range' 32 4).all okC=true:=by kernel_rfl
end Go.Proofs.YtpmkojinhebihaaDoor
