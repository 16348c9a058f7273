import Derived.Test.YtnadkbniljejfaaZSPvalPow1
set_option linter.unusedSimpArgs false
namespace Go.Proofs.Ytnadkbniljejfaa
open Go.RowKit

def pm (A:Int) (n:Nat):Int:=A ^ n%pr



end Go.Proofs.Ytnadkbniljejfaa
