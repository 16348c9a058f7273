import Derived.Test.YteikpadpogkepaaDoorZS512NumAll
import Derived.Test.YteikpadpogkepaaDoorZS512FMath
set_option linter.unusedSimpArgs false
namespace Go.Proofs.YteikpadpogkepaaDoor
open Go.RowKit
end Go.Proofs.YteikpadpogkepaaDoor

set_option linter.unusedSimpArgs false
namespace Go.Proofs.YteikpadpogkepaaDoor
open Go.RowKit
end Go.Proofs.YteikpadpogkepaaDoor

set_option linter.unusedSimpArgs false
namespace Go.Proofs.YteikpadpogkepaaDoor
open Go.RowKit
end Go.Proofs.YteikpadpogkepaaDoor

set_option linter.unusedSimpArgs false
namespace Go.Proofs.YteikpadpogkepaaDoor
open Go.RowKit
section
variable {ops:Array Oper} {rest:List Oper} {o:Oper} {a:Act} {W:World} {Q:Exit→Act→World→Prop}
end
end Go.Proofs.YteikpadpogkepaaDoor

set_option linter.unusedSimpArgs false
namespace Go.Proofs.YteikpadpogkepaaDoor
open Go.RowKit
end Go.Proofs.YteikpadpogkepaaDoor
