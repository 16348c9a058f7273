import Derived.Test.YtbpiocljbkiemaaZAUikeKnown
set_option linter.unusedSimpArgs false
namespace Go.Proofs.Ytbpiocljbkiemaa
open Go.RowKit

def upd (g:Nat→Int) (k:Nat) (v:Int):Nat→Int:=fun j=>if j=k then v else g j
end Go.Proofs.Ytbpiocljbkiemaa

set_option linter.unusedSimpArgs false
namespace Go.Proofs.Ytbpiocljbkiemaa
open Go.RowKit
end Go.Proofs.Ytbpiocljbkiemaa

set_option linter.unusedSimpArgs false
namespace Go.Proofs.Ytbpiocljbkiemaa
open Go.RowKit
end Go.Proofs.Ytbpiocljbkiemaa
