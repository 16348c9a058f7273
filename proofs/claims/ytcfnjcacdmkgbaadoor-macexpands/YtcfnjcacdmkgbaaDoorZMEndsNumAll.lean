import Derived.Test.YtcfnjcacdmkgbaaDoorZMEndsKnown
set_option linter.unusedSimpArgs false
namespace Go.Proofs.YtcfnjcacdmkgbaaDoor
open Go.RowKit

def upd (g:Nat→Int) (k:Nat) (v:Int):Nat→Int:=fun j=>if j=k then v else g j
end Go.Proofs.YtcfnjcacdmkgbaaDoor

set_option linter.unusedSimpArgs false
namespace Go.Proofs.YtcfnjcacdmkgbaaDoor
open Go.RowKit
end Go.Proofs.YtcfnjcacdmkgbaaDoor

set_option linter.unusedSimpArgs false
namespace Go.Proofs.YtcfnjcacdmkgbaaDoor
open Go.RowKit
end Go.Proofs.YtcfnjcacdmkgbaaDoor
