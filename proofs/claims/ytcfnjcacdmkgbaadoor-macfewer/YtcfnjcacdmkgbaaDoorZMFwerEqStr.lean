/-
  '==' between two structs,a field at a time.
-/
import Derived.Test.YtcfnjcacdmkgbaaDoorZMFwerEqArr
namespace Go.Calm
open Go.RowKit
section
variable {P:Program} (w:World)
end
end Go.Calm
