import Derived.Test.YthldpfindbhkeaaZSPvalSettle
import Derived.LoopN
import Derived.RegionTactic
import Derived.BigRegion
import Derived.Laws.NewBlocks
import Derived.Test.YthldpfindbhkeaaZSPvalEqArr
import Derived.Deep.RegionHeld3
namespace Go.Proofs.Ythldpfindbhkeaa
open Go.RowKit



end Go.Proofs.Ythldpfindbhkeaa

set_option linter.unusedSimpArgs false
namespace Go.Proofs.Ythldpfindbhkeaa
open Go.RowKit

def Ok (n:Int):Prop:=0≤n∧n<115792089237316195423570985008687907853269984665640564039457584007913129639936
theorem feC_of (a b c d n:Int) (ha:0≤a) (ha':a<18446744073709551616) (hb:0≤b) (hb':b<18446744073709551616) (hc:0≤c) (hc':c<18446744073709551616) (hd:0≤d) (hd':d<18446744073709551616) (h:n=a+18446744073709551616*b+340282366920938463463374607431768211456*c+6277101735386680763835789423207666416102355444464034512896*d):feC n= #[.int .u64 a,.int .u64 b,.int .u64 c,.int .u64 d]:=by
  have:=fe_of a b c d n ha ha' hb hb' hc hc' hd hd' h
  simpa[fe] using this





end Go.Proofs.Ythldpfindbhkeaa

set_option linter.unusedSimpArgs false
namespace Go.Proofs.Ythldpfindbhkeaa
open Go.RowKit

section
variable {ops:Array Oper} {rest:List Oper} {o:Oper} {a:Act} {W:World} {Q:Exit→Act→World→Prop} {al:List (Nat×Tmp)} {R:Act→Prop} {m:Nat}
end

end Go.Proofs.Ythldpfindbhkeaa

set_option linter.unusedSimpArgs false
namespace Go.Proofs.Ythldpfindbhkeaa
open Go.RowKit




end Go.Proofs.Ythldpfindbhkeaa

set_option linter.unusedSimpArgs false
namespace Go.Proofs.Ythldpfindbhkeaa
open Go.RowKit




end Go.Proofs.Ythldpfindbhkeaa

set_option linter.unusedSimpArgs false
namespace Go.Proofs.Ythldpfindbhkeaa
open Go.RowKit




def iNum:Int:=19681161376707505956807079304988542015446066515923890162744021073123829784752
end Go.Proofs.Ythldpfindbhkeaa
