/-
  A row's arguments as numbers.
-/
import Derived.Test.YtnadkbniljejfaaZSPvalByteL
namespace Go.Proofs.Ytnadkbniljejfaa
open Go.RowKit
end Go.Proofs.Ytnadkbniljejfaa
