import Derived.Test.YtcfnjcacdmkgbaaDoorZMFwerSdC1
import Derived.Test.YtcfnjcacdmkgbaaDoorZMFwerSdM1
set_option linter.unusedSimpArgs false
set_option linter.unusedVariables false
/-! The document's SHA-2: the sum. -/
namespace Go.Proofs.YtcfnjcacdmkgbaaDoor
open Go.RowKit Go.Ev
variable {a:Array Value} {t:Tq} {bp:Option Addr} {l cp:Nat} {N:List Int}
variable {A:List Int} {m c3 Bn:Nat}
variable {y:S8} {k p:Nat}
variable {i c4:Nat} {Y:List Int}
variable {x:Int}
variable {z:S8}
variable {r:Nat}
variable {q:Nat}
end Go.Proofs.YtcfnjcacdmkgbaaDoor

set_option linter.unusedSimpArgs false
set_option linter.unusedVariables false
/-! The document's SHA-2: the sum. -/
namespace Go.Proofs.YtcfnjcacdmkgbaaDoor
open Go.RowKit Go.Ev
variable {a:Array Value} {t:Tq} {bp:Option Addr} {l cp:Nat} {N:List Int}
variable {A:List Int} {m c3 Bn:Nat}
variable {y:S8} {k p:Nat}
variable {i c4:Nat} {Y:List Int}
variable {x:Int}
variable {z:S8}
variable {r:Nat}
variable {q:Nat}
end Go.Proofs.YtcfnjcacdmkgbaaDoor
