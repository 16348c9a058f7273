import Derived.Test.YtpmkojinhebihaaDoorZSRotsShSS
set_option linter.unusedSimpArgs false
set_option linter.unusedVariables false
namespace Go.Proofs.YtpmkojinhebihaaDoor
open Go.RowKit Go.Ev
theorem okc60:(List.range' 60 4).all okC=true:=by kernel_rfl
theorem okc64:(List.range' 64 4).all okC=true:=by kernel_rfl
theorem okc68:(List.range' 68 4).all okC=true:=by kernel_rfl
end Go.Proofs.YtpmkojinhebihaaDoor
