import Derived.Test.YthldpfindbhkeaaZSPvalPwR
set_option linter.unusedSimpArgs false
namespace Go.Proofs.Ythldpfindbhkeaa
open Go.RowKit

def upd (g:Nat→Int) (k:Nat) (v:Int):Nat→Int:=fun j=>if j=k then v else g j
def val (g:Nat→Int):Nat→Int
  |0=>0
  |k+1=>val g k+g k*4294967296 ^ k
end Go.Proofs.Ythldpfindbhkeaa

set_option linter.unusedSimpArgs false
namespace Go.Proofs.Ythldpfindbhkeaa
open Go.RowKit
end Go.Proofs.Ythldpfindbhkeaa

set_option linter.unusedSimpArgs false
namespace Go.Proofs.Ythldpfindbhkeaa
open Go.RowKit
end Go.Proofs.Ythldpfindbhkeaa
