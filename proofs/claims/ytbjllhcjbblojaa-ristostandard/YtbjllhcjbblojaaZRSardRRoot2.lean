import Derived.Test.YtbjllhcjbblojaaZRSardRRoot
set_option linter.unusedSimpArgs false
namespace Go.Proofs.Ytbjllhcjbblojaa
open Go.RowKit
theorem mod_bd (n : Int) : 0 ≤ n % pr ∧ n % pr < pr := by unfold pr; omega
end Go.Proofs.Ytbjllhcjbblojaa
