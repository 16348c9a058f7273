import Derived.Test.YteikpadpogkepaaDoorZS256Known
set_option linter.unusedSimpArgs false
namespace Go.Proofs.YteikpadpogkepaaDoor
open Go.RowKit

def upd (g:Nat→Int) (k:Nat) (v:Int):Nat→Int:=fun j=>if j=k then v else g j
end Go.Proofs.YteikpadpogkepaaDoor

set_option linter.unusedSimpArgs false
namespace Go.Proofs.YteikpadpogkepaaDoor
open Go.RowKit
end Go.Proofs.YteikpadpogkepaaDoor

set_option linter.unusedSimpArgs false
namespace Go.Proofs.YteikpadpogkepaaDoor
open Go.RowKit
end Go.Proofs.YteikpadpogkepaaDoor
