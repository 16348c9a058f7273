import Derived.Test.YtlbofcgjdbfenabRRoot
set_option linter.unusedSimpArgs false
namespace Go.Proofs.Ytlbofcgjdbfenab
open Go.RowKit
/-- What the document's Root answers. -/
def rootWay (u v r : Int) (ok : Bool) : Prop := (u = 0 ∧ r = 0 ∧ ok = true) ∨ (¬ u = 0 ∧ v = 0 ∧ r = 0 ∧ ok = false) ∨ (¬ u = 0 ∧ ¬ v = 0 ∧ rx (quo u v) * rx (quo u v) % pr = quo u v ∧ r = absR (rx (quo u v)) ∧ ok = true) ∨ (¬ u = 0 ∧ ¬ v = 0 ∧ ¬ rx (quo u v) * rx (quo u v) % pr = quo u v ∧ r = absR (rx (quo u v * iNum % pr)) ∧ ok = false)
theorem quo_bd (u v : Int) : 0 ≤ quo u v ∧ quo u v < pr := by unfold quo pr; omega
theorem mod_bd (n : Int) : 0 ≤ n % pr ∧ n % pr < pr := by unfold pr; omega
end Go.Proofs.Ytlbofcgjdbfenab
