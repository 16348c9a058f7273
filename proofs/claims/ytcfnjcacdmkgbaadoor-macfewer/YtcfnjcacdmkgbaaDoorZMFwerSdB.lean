import Derived.Test.YtcfnjcacdmkgbaaDoorZMFwerSdA1
set_option linter.unusedSimpArgs false
set_option linter.unusedVariables false
/-! The document's SHA-2: a text filled up. -/
namespace Go.Proofs.YtcfnjcacdmkgbaaDoor
open Go.RowKit Go.Ev
def beL (n:Nat):Nat→List Int
  |0=> []
  |k+1=>((n / 256 ^ k%256:Nat):Int) :: beL n k
theorem beL_len (n:Nat):∀ k,(beL n k).length=k
  |0=>rfl
  |k+1=>by rw[beL,List.length_cons,beL_len n k]
theorem SrcOk.app {q:IntKind} {mem x:List Mb} {u:Value} {N:List Int} (h:SrcOk q mem u N):SrcOk q (mem ++ x) u N:=by
  rcases h.h with h|⟨j,p,c,src,st,h1,h2,h3⟩
  · exact⟨.inl h⟩
  · exact⟨.inr ⟨j,p,c,src,st,h1,by rw[List.getElem?_append_left (List.getElem?_eq_some_iff.1 h2).1];exact h2,h3⟩⟩
variable {a:Array Value} {t:Tq} {o l cp:Nat} {N:List Int}
variable {cap:Nat}
variable {Z k n:Nat} {X:List Int}
variable {i m c8:Nat} {Y:List Int}
variable {n9 c9:Nat}
variable {N:List Int}
variable {cap:Nat}
variable {Z k n:Nat} {X:List Int}
variable {i m c8:Nat} {Y:List Int}
variable {n9 c9:Nat}
variable {a:Array Value} {t:Tq} {o l cp:Nat} {N:List Int}
variable {cap:Nat}
variable {Z k n:Nat} {X:List Int}
variable {i m c8:Nat} {Y:List Int}
variable {n9 c9:Nat}
variable {N:List Int}
variable {cap:Nat}
variable {Z k n:Nat} {X:List Int}
variable {i m c8:Nat} {Y:List Int}
variable {n9 c9:Nat}
end Go.Proofs.YtcfnjcacdmkgbaaDoor
