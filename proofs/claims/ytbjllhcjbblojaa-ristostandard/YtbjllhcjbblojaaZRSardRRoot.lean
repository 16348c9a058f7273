import Derived.Test.YtbjllhcjbblojaaZRSardPowAll
import Derived.Test.YtbjllhcjbblojaaZRSardMthAll
import Derived.Test.YtbjllhcjbblojaaZRSardSchAll
set_option linter.unusedSimpArgs false
namespace Go.Proofs.Ytbjllhcjbblojaa
open Go.RowKit
theorem nuC_0 : nuC 0 = #[.int .u64 0, .int .u64 0, .int .u64 0, .int .u64 0, .int .u64 0, .int .u64 0, .int .u64 0, .int .u64 0] := by kernel_rfl
theorem ok_pr {s : Int} (hs : 0 ≤ s ∧ s < pr) : Ok s := by unfold Ok; unfold pr at hs; omega
end Go.Proofs.Ytbjllhcjbblojaa
