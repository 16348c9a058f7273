import Derived.Test.YtmpjlammofgicaaDoorZMNhtsField3
import Derived.Deep.RegionHeld3
set_option linter.unusedSimpArgs false
namespace Go.Proofs.YtmpjlammofgicaaDoor
open Go.RowKit




end Go.Proofs.YtmpjlammofgicaaDoor
