import Derived.Test.YtcfnjcacdmkgbaaDoorZMEndsAdd
set_option linter.unusedSimpArgs false
namespace Go.Proofs.YtcfnjcacdmkgbaaDoor
open Go.RowKit

def Ok (n:Int):Prop:=0≤n∧n<115792089237316195423570985008687907853269984665640564039457584007913129639936





end Go.Proofs.YtcfnjcacdmkgbaaDoor
