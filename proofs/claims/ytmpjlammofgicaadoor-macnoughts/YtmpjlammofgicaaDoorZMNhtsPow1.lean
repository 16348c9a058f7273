import Derived.Test.YtmpjlammofgicaaDoorZMNhtsNeg
import Derived.Test.YtmpjlammofgicaaDoorZMNhtsMidArr
import Derived.LoopTactic
set_option linter.unusedSimpArgs false
namespace Go.Proofs.YtmpjlammofgicaaDoor
open Go.RowKit


end Go.Proofs.YtmpjlammofgicaaDoor
