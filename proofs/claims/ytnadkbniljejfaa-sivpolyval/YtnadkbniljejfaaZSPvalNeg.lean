import Derived.Test.YtnadkbniljejfaaZSPvalMul
set_option linter.unusedSimpArgs false
namespace Go.Proofs.Ytnadkbniljejfaa
open Go.RowKit




def iNum:Int:=19681161376707505956807079304988542015446066515923890162744021073123829784752
end Go.Proofs.Ytnadkbniljejfaa
