import Derived.Test.YtbpiocljbkiemaaZAUikeAeE
set_option linter.unusedSimpArgs false
set_option linter.unusedVariables false
/-! aes: the document's inverse, substitute, table. -/
namespace Go.Proofs.Ytbpiocljbkiemaa
open Go.RowKit Go.Ev
def stS (z b:Int) (i:Nat):Int:=(IntKind.u8.wrap (z+(IntKind.u8.wrap ((Int.tmod (bits .xor .u8 (bits .xor .u8 (bits .xor .u8 (bits .xor .u8 (bits .xor .u8 (b / 2 ^ (min (Int.toNat ((i:Nat):Int)) 8)) (b / 2 ^ (min (Int.toNat (((i+4)%8:Nat):Int)) 8))) (b / 2 ^ (min (Int.toNat (((i+5)%8:Nat):Int)) 8))) (b / 2 ^ (min (Int.toNat (((i+6)%8:Nat):Int)) 8))) (b / 2 ^ (min (Int.toNat (((i+7)%8:Nat):Int)) 8))) (99 / 2 ^ (min (Int.toNat ((i:Nat):Int)) 8))) 2)*2 ^ (min (Int.toNat ((i:Nat):Int)) 8)))))
end Go.Proofs.Ytbpiocljbkiemaa
