import Derived.Test.YtnadkbniljejfaaZSPvalPow2
set_option linter.unusedSimpArgs false
namespace Go.Proofs.Ytnadkbniljejfaa
open Go.RowKit

def invF (A:Int):Int:=pm A eInv.toNat




end Go.Proofs.Ytnadkbniljejfaa
