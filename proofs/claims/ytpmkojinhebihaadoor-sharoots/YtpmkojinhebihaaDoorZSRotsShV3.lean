import Derived.Test.YtpmkojinhebihaaDoorZSRotsShSS
set_option linter.unusedSimpArgs false
set_option linter.unusedVariables false
namespace Go.Proofs.YtpmkojinhebihaaDoor
open Go.RowKit Go.Ev
theorem okc36:(List.range' 36 4).all okC=true:=by kernel_rfl
theorem okc40:(List.range' 40 4).all okC=true:=by kernel_rfl
theorem okc44:(List.range' 44 4).all okC=true:=by kernel_rfl
end Go.Proofs.YtpmkojinhebihaaDoor
