import Derived.Test.YtnadkbniljejfaaZSDotsKnown
set_option linter.unusedSimpArgs false
namespace Go.Proofs.Ytnadkbniljejfaa
open Go.RowKit

def upd (g:Nat→Int) (k:Nat) (v:Int):Nat→Int:=fun j=>if j=k then v else g j
end Go.Proofs.Ytnadkbniljejfaa

set_option linter.unusedSimpArgs false
namespace Go.Proofs.Ytnadkbniljejfaa
open Go.RowKit
end Go.Proofs.Ytnadkbniljejfaa

set_option linter.unusedSimpArgs false
namespace Go.Proofs.Ytnadkbniljejfaa
open Go.RowKit
end Go.Proofs.Ytnadkbniljejfaa
