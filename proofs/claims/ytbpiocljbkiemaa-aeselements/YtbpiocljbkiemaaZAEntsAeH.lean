import Derived.Test.YtbpiocljbkiemaaZAEntsAeG
set_option linter.unusedSimpArgs false
set_option linter.unusedVariables false
/-! aes: the document's enciphering. -/
namespace Go.Proofs.Ytbpiocljbkiemaa
open Go.RowKit Go.Ev
section
variable {P:Program} {f:FuncId} {fn:Func} (hf:P.funcs[f]? =some fn) (hn:(fn.name == "runtime.NumGoroutine")=false) (hb:fn.body.isNone=false)
end
def stX (E D:List Int) (q:Nat):List Int:=(lset 16 (lset 16 (lset 16 (lset 16 D (4*q) (bits .xor .u8 (bits .xor .u8 (bits .xor .u8 (bits .xor .u8 0 (mv 2 (E.getD (4*q) 0))) (mv 3 (E.getD (4*q+1) 0))) (mv 1 (E.getD (4*q+2) 0))) (mv 1 (E.getD (4*q+3) 0)))) (4*q+1) (bits .xor .u8 (bits .xor .u8 (bits .xor .u8 (bits .xor .u8 0 (mv 1 (E.getD (4*q) 0))) (mv 2 (E.getD (4*q+1) 0))) (mv 3 (E.getD (4*q+2) 0))) (mv 1 (E.getD (4*q+3) 0)))) (4*q+2) (bits .xor .u8 (bits .xor .u8 (bits .xor .u8 (bits .xor .u8 0 (mv 1 (E.getD (4*q) 0))) (mv 1 (E.getD (4*q+1) 0))) (mv 2 (E.getD (4*q+2) 0))) (mv 3 (E.getD (4*q+3) 0)))) (4*q+3) (bits .xor .u8 (bits .xor .u8 (bits .xor .u8 (bits .xor .u8 0 (mv 3 (E.getD (4*q) 0))) (mv 1 (E.getD (4*q+1) 0))) (mv 1 (E.getD (4*q+2) 0))) (mv 2 (E.getD (4*q+3) 0))))
def itX (E:List Int):Nat→List Int
  |0=>E
  |q+1=>stX E (itX E q) q
def fin (E:List Int) (n:Nat):List Int:=if n<14 then itX E 4 else E
end Go.Proofs.Ytbpiocljbkiemaa
