/-
  A row's arguments as numbers.
-/
import Derived.Test.YtnadkbniljejfaaZSDotsByteL
namespace Go.Proofs.Ytnadkbniljejfaa
open Go.RowKit
end Go.Proofs.Ytnadkbniljejfaa
