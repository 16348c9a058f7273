import Derived.Test.YtmpjlammofgicaaDoorZMNhtsKnown
set_option linter.unusedSimpArgs false
namespace Go.Proofs.YtmpjlammofgicaaDoor
open Go.RowKit

def upd (g:Nat→Int) (k:Nat) (v:Int):Nat→Int:=fun j=>if j=k then v else g j
end Go.Proofs.YtmpjlammofgicaaDoor

set_option linter.unusedSimpArgs false
namespace Go.Proofs.YtmpjlammofgicaaDoor
open Go.RowKit
end Go.Proofs.YtmpjlammofgicaaDoor

set_option linter.unusedSimpArgs false
namespace Go.Proofs.YtmpjlammofgicaaDoor
open Go.RowKit
end Go.Proofs.YtmpjlammofgicaaDoor
