import Derived.Test.YthldpfindbhkeaaZSPvalNumAll
import Derived.Test.YthldpfindbhkeaaZSPvalFMath
set_option linter.unusedSimpArgs false
namespace Go.Proofs.Ythldpfindbhkeaa
open Go.RowKit
end Go.Proofs.Ythldpfindbhkeaa

set_option linter.unusedSimpArgs false
namespace Go.Proofs.Ythldpfindbhkeaa
open Go.RowKit
theorem val_add (f h:Nat→Int):∀ k,val (fun j=>f j+h j) k=val f k+val h k
  |0=>rfl
  | k + 1 => by
    simp only[val]
    rw[val_add f h k,Int.add_mul]
    omega
end Go.Proofs.Ythldpfindbhkeaa

set_option linter.unusedSimpArgs false
namespace Go.Proofs.Ythldpfindbhkeaa
open Go.RowKit
end Go.Proofs.Ythldpfindbhkeaa

set_option linter.unusedSimpArgs false
namespace Go.Proofs.Ythldpfindbhkeaa
open Go.RowKit
section
variable {ops:Array Oper} {rest:List Oper} {o:Oper} {a:Act} {W:World} {Q:Exit→Act→World→Prop}
end
end Go.Proofs.Ythldpfindbhkeaa

set_option linter.unusedSimpArgs false
namespace Go.Proofs.Ythldpfindbhkeaa
open Go.RowKit
end Go.Proofs.Ythldpfindbhkeaa
