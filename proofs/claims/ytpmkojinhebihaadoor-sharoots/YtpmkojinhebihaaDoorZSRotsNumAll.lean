import Derived.Test.YtpmkojinhebihaaDoorZSRotsKnown
set_option linter.unusedSimpArgs false
namespace Go.Proofs.YtpmkojinhebihaaDoor
open Go.RowKit

def upd (g:Nat→Int) (k:Nat) (v:Int):Nat→Int:=fun j=>if j=k then v else g j
end Go.Proofs.YtpmkojinhebihaaDoor

set_option linter.unusedSimpArgs false
namespace Go.Proofs.YtpmkojinhebihaaDoor
open Go.RowKit
end Go.Proofs.YtpmkojinhebihaaDoor

set_option linter.unusedSimpArgs false
namespace Go.Proofs.YtpmkojinhebihaaDoor
open Go.RowKit
end Go.Proofs.YtpmkojinhebihaaDoor
