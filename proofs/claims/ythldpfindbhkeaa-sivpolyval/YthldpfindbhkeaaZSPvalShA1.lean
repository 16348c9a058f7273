import Derived.Test.YthldpfindbhkeaaZSPvalEdEAll
import Derived.Test.YthldpfindbhkeaaZSPvalEvAll
set_option linter.unusedSimpArgs false
set_option linter.unusedVariables false
/-! SHA-2: words, turns, the four sums of a word. -/
namespace Go.Proofs.Ythldpfindbhkeaa
open Go.RowKit Go.Ev
section
variable {P:Program} {f:FuncId} {fn:Func} (hf:P.funcs[f]? =some fn) (hn:(fn.name == "runtime.NumGoroutine")=false) (hb:fn.body.isNone=false)
end
abbrev Tq:Type:=TypeId×(Nat×Nat)
def tab0:List (Entry Try.prog):= []
def iat (a:Array Value) (k:Nat):Int:=match a[k]? with
  |some (.int _ n)=>n
  |_=>0
def bytesAt (a:Array Value) (o n:Nat):Prop:=∀ j,j<n→a[o+j]? =some (.int .u8 (iat a (o+j)))∧0≤iat a (o+j)∧iat a (o+j)<256
theorem bytesAt.at {a:Array Value} {o n:Nat} (h:bytesAt a o n) {j:Nat} (hj:j<n):a[o+j]? =some (.int .u8 (iat a (o+j))):=(h j hj).1
section
variable {P:Program} {f:FuncId} {fn:Func} (hf:P.funcs[f]? =some fn) (hn:(fn.name == "runtime.NumGoroutine")=false) (hb:fn.body.isNone=false)
end
theorem bytesAt.sub {a:Array Value} {o n:Nat} (h:bytesAt a o n) {k m:Nat} (hk:k+m≤n):bytesAt a (o+k) m:=fun j hj=>by
  have:=h (k+j) (by omega)
  rwa[← Nat.add_assoc] at this
end Go.Proofs.Ythldpfindbhkeaa

set_option linter.unusedSimpArgs false
set_option linter.unusedVariables false
/-! The words of a block: pieces. -/
namespace Go.Proofs.Ythldpfindbhkeaa
open Go.RowKit Go.Ev
end Go.Proofs.Ythldpfindbhkeaa

set_option linter.unusedSimpArgs false
set_option linter.unusedVariables false
/-! The words of a block: loops. -/
namespace Go.Proofs.Ythldpfindbhkeaa
open Go.RowKit Go.Ev
theorem wA_size (k:IntKind) (n:Nat) (L:List Int):(wA k n L).size=n:=by simp[wA]
theorem wA_at {k:IntKind} {n:Nat} {L:List Int} {p:Nat} (h:p<n):(wA k n L)[p]? =some (.int k (L.getD p 0)):=by
  simp[wA,h]
theorem wA_get {k:IntKind} {n:Nat} {L:List Int} {p q:Nat} (h:p<n) (e:q=p):(wA k n L)[q]? =some (.int k (L.getD p 0)):=by
  subst e;exact wA_at h
theorem wA_set {k : IntKind} {n : Nat} {L : List Int} {x : Int} {p : Nat} (h : L.length < n) (e : p = L.length) : p < (wA k n L).size ∧ (wA k n L).setIfInBounds p (.int k x) = wA k n (L ++ [x]) := by
  subst e
  refine⟨by rw[wA_size];exact h,?_⟩
  apply Array.ext
  · rw[Array.size_setIfInBounds,wA_size,wA_size]
  · intro i h1 h2
    rw[Array.size_setIfInBounds,wA_size] at h1
    have e1 : ((wA k n L).setIfInBounds L.length (.int k x))[i]? = (wA k n (L ++ [x]))[i]? := by
      rw[wA_at h1,Array.getElem?_setIfInBounds,wA_size]
      by_cases hi:L.length=i
      · subst hi
        rw[if_pos rfl,if_pos h]
        simp
      · rw [if_neg hi, wA_at h1]
        congr 2
        rw[List.getD_eq_getElem?_getD,List.getD_eq_getElem?_getD,List.getElem?_append]
        split
        · rfl
        · rw[List.getElem?_eq_none (by omega),List.getElem?_eq_none (by simp;omega)]
    rw[Array.getElem?_eq_getElem (by rw[Array.size_setIfInBounds,wA_size];exact h1),Array.getElem?_eq_getElem h2] at e1
    exact Option.some.inj e1
theorem wA_one (k:IntKind) (n:Nat) (L:List Int):(wA k n L).all (fun v=>v.oneCell')=true:=by
  simp[wA,Value.oneCell']
end Go.Proofs.Ythldpfindbhkeaa
