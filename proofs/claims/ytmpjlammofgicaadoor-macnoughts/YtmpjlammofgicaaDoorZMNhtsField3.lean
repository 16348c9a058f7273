import Derived.Test.YtmpjlammofgicaaDoorZMNhtsField2
set_option linter.unusedSimpArgs false
namespace Go.Proofs.YtmpjlammofgicaaDoor
open Go.RowKit




end Go.Proofs.YtmpjlammofgicaaDoor
