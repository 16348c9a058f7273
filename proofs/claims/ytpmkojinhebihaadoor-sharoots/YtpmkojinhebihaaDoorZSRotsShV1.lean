import Derived.Test.YtpmkojinhebihaaDoorZSRotsShSS
set_option linter.unusedSimpArgs false
set_option linter.unusedVariables false
namespace Go.Proofs.YtpmkojinhebihaaDoor
open Go.RowKit Go.Ev
theorem okc12:(List.range' 12 4).all okC=true:=by kernel_rfl
theorem okc16:(List.range' 16 4).all okC=true:=by kernel_rfl
theorem okc20:(List.range' 20 4).all okC=true:=by kernel_rfl
end Go.Proofs.YtpmkojinhebihaaDoor
