import Derived.Test.YtbpiocljbkiemaaRows
import Derived.Test.YtbpiocljbkiemaaZAEntsEdRAll
import Derived.Test.YtbpiocljbkiemaaZAEntsAeA
namespace Go.Proofs.Ytbpiocljbkiemaa
open Go.ChangeShapes Go.WideShapes Go.RowKit Go.Ev
end Go.Proofs.Ytbpiocljbkiemaa
