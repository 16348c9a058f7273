import Derived.Test.YtpmkojinhebihaaDoorZSRotsFermat
/-! Reckoning modulo p. -/
namespace Go.Proofs.YtpmkojinhebihaaDoor
open Go.RowKit
end Go.Proofs.YtpmkojinhebihaaDoor

/-! What a root's square is. -/
namespace Go.Proofs.YtpmkojinhebihaaDoor
open Go.RowKit
end Go.Proofs.YtpmkojinhebihaaDoor

/-! The document's root, by the quotient: the same as the program's. -/
namespace Go.Proofs.YtpmkojinhebihaaDoor
open Go.RowKit
end Go.Proofs.YtpmkojinhebihaaDoor
