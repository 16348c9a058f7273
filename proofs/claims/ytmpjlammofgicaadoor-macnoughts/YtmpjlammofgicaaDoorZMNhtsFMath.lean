import Derived.Test.YtmpjlammofgicaaDoorZMNhtsFermat
/-! Reckoning modulo p. -/
namespace Go.Proofs.YtmpjlammofgicaaDoor
open Go.RowKit
end Go.Proofs.YtmpjlammofgicaaDoor
