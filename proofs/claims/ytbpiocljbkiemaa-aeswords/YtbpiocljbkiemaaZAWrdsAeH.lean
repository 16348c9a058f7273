import Derived.Test.YtbpiocljbkiemaaZAWrdsAeG
set_option linter.unusedSimpArgs false
set_option linter.unusedVariables false
/-! aes: the document's enciphering. -/
namespace Go.Proofs.Ytbpiocljbkiemaa
open Go.RowKit Go.Ev
section
variable {P:Program} {f:FuncId} {fn:Func} (hf:P.funcs[f]? =some fn) (hn:(fn.name == "runtime.NumGoroutine")=false) (hb:fn.body.isNone=false)
def entLT (n : Nat) (F : List Int → Value) (h : ∀ L, By L → Pure P f #[.agg (wA .u8 n L), .agg (wA .u8 256 sbT)] (F L)) : Entry P where
  f:=f
  g:=fun _ xs=>match xs with| [.agg a,.agg b]=>some (F (dL8 a),((a=wA .u8 n (dL8 a)∧By (dL8 a))∧b=wA .u8 256 sbT))|_=>none
  ok := fun _ xs u c e hc w β _ _ => by
    split at e
    · simp only [Option.some.injEq, Prod.mk.injEq] at e
      obtain⟨rfl,rfl⟩:=e
      obtain⟨⟨h1,h2⟩,rfl⟩:=hc
      have:=h _ h2 w
      rw[← h1] at this
      exact this
    · cases e
  call:=call_of hf hn hb
end
def stX (E D:List Int) (q:Nat):List Int:=(lset 16 (lset 16 (lset 16 (lset 16 D (4*q) (bits .xor .u8 (bits .xor .u8 (bits .xor .u8 (bits .xor .u8 0 (mv 2 (E.getD (4*q) 0))) (mv 3 (E.getD (4*q+1) 0))) (mv 1 (E.getD (4*q+2) 0))) (mv 1 (E.getD (4*q+3) 0)))) (4*q+1) (bits .xor .u8 (bits .xor .u8 (bits .xor .u8 (bits .xor .u8 0 (mv 1 (E.getD (4*q) 0))) (mv 2 (E.getD (4*q+1) 0))) (mv 3 (E.getD (4*q+2) 0))) (mv 1 (E.getD (4*q+3) 0)))) (4*q+2) (bits .xor .u8 (bits .xor .u8 (bits .xor .u8 (bits .xor .u8 0 (mv 1 (E.getD (4*q) 0))) (mv 1 (E.getD (4*q+1) 0))) (mv 2 (E.getD (4*q+2) 0))) (mv 3 (E.getD (4*q+3) 0)))) (4*q+3) (bits .xor .u8 (bits .xor .u8 (bits .xor .u8 (bits .xor .u8 0 (mv 3 (E.getD (4*q) 0))) (mv 1 (E.getD (4*q+1) 0))) (mv 1 (E.getD (4*q+2) 0))) (mv 2 (E.getD (4*q+3) 0))))
def itX (E:List Int):Nat→List Int
  |0=>E
  |q+1=>stX E (itX E q) q
def fin (E:List Int) (n:Nat):List Int:=if n<14 then itX E 4 else E
end Go.Proofs.Ytbpiocljbkiemaa
