import Derived.Test.YtbpiocljbkiemaaRows
import Derived.Test.YtbpiocljbkiemaaZAFeldEdRAll
import Derived.Test.YtbpiocljbkiemaaZAFeldAeA
namespace Go.Proofs.Ytbpiocljbkiemaa
open Go.ChangeShapes Go.WideShapes Go.RowKit Go.Ev
end Go.Proofs.Ytbpiocljbkiemaa
