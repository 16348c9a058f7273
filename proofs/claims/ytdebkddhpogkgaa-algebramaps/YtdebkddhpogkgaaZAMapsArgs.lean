/-
  A row's arguments as numbers.
-/
import Derived.Test.YtdebkddhpogkgaaZAMapsByteL
namespace Go.Proofs.Ytdebkddhpogkgaa
open Go.RowKit
end Go.Proofs.Ytdebkddhpogkgaa
