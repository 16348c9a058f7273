import Derived.Test.YtcfnjcacdmkgbaaDoorZMEndsKnown
set_option linter.unusedSimpArgs false
namespace Go.Proofs.YtcfnjcacdmkgbaaDoor
open Go.RowKit

def byt (n:Int) (k:Nat):Int:=n / 256 ^ k%256
def byK (n:Int) (k:Nat):Array Value:=((List.range 32).map fun j=>Value.int .u8 (if j<k then byt n j else 0)).toArray
def byC (n:Int):Array Value:=byK n 32


end Go.Proofs.YtcfnjcacdmkgbaaDoor
