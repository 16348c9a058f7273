import Derived.Tactics
namespace Go.Num
variable {n:Nat} [NeZero n]
end Go.Num
