import Derived.Test.YtmpjlammofgicaaDoorZMNhtsBytes
import Derived.Test.YtmpjlammofgicaaDoorZMNhtsSchAll
set_option linter.unusedSimpArgs false
namespace Go.Proofs.YtmpjlammofgicaaDoor
open Go.RowKit





end Go.Proofs.YtmpjlammofgicaaDoor
