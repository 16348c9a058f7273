import Derived.Test.YthldpfindbhkeaaZSPvalShD1
set_option linter.unusedSimpArgs false
set_option linter.unusedVariables false
/-! The beginning, a state as bytes. -/
namespace Go.Proofs.Ythldpfindbhkeaa
open Go.RowKit Go.Ev
end Go.Proofs.Ythldpfindbhkeaa

set_option linter.unusedSimpArgs false
set_option linter.unusedVariables false
/-! What comes behind the last whole block. -/
namespace Go.Proofs.Ythldpfindbhkeaa
open Go.RowKit Go.Ev
def bL (a:Array Value) (p r:Nat):List Int:=(List.range r).map fun j=>iat a (p+j)
end Go.Proofs.Ythldpfindbhkeaa

set_option linter.unusedSimpArgs false
set_option linter.unusedVariables false
/-! What comes behind the last whole block: contracts. -/
namespace Go.Proofs.Ythldpfindbhkeaa
open Go.RowKit Go.Ev
def lset (N:Nat) (L:List Int) (p:Nat) (x:Int):List Int:=(List.range N).map fun i=>if i=p then x else L.getD i 0
theorem lset_at {N p i:Nat} {L:List Int} {x:Int} (h:i<N):(lset N L p x).getD i 0=if i=p then x else L.getD i 0:=by
  simp[lset,List.getD_eq_getElem?_getD,h]
theorem wA_ext {k:IntKind} {N:Nat} {A:Array Value} {L:List Int} (hs:A.size=N) (h:∀ i,i<N→A[i]? =some (.int k (L.getD i 0))):A=wA k N L:=by
  apply Array.ext
  · rw[hs,wA_size]
  · intro i h1 h2
    have hi:i<N:=by rw[← hs];exact h1
    have e1:=h i hi
    have e2:=wA_at (k:=k) (L:=L) hi
    rw[Array.getElem?_eq_getElem h1] at e1
    rw[Array.getElem?_eq_getElem h2] at e2
    exact(Option.some.inj e1).trans (Option.some.inj e2).symm
theorem wA_put {k:IntKind} {N p:Nat} {L:List Int} {x:Int} (h:p<N):(wA k N L).setIfInBounds p (.int k x)=wA k N (lset N L p x):=by
  refine wA_ext (by rw[Array.size_setIfInBounds,wA_size]) (fun i hi=> ?_)
  rw[Array.getElem?_setIfInBounds,wA_size,lset_at hi]
  by_cases e:p=i
  · subst e;rw[if_pos rfl,if_pos h,if_pos rfl]
  · rw[if_neg e,wA_at hi,if_neg (fun h=>e h.symm)]
theorem bL_at {a:Array Value} {p r i:Nat}:(bL a p r).getD i 0=if i<r then iat a (p+i) else 0:=by
  unfold bL
  rw[List.getD_eq_getElem?_getD,List.getElem?_map]
  by_cases h:i<r
  · rw[List.getElem?_range h,if_pos h];rfl
  · rw[List.getElem?_eq_none (by simpa using h),if_neg h];rfl
theorem bL_len (a:Array Value) (p r:Nat):(bL a p r).length=r:=by simp[bL]
end Go.Proofs.Ythldpfindbhkeaa
