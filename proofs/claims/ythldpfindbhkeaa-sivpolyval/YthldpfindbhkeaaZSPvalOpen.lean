/-
  Arrays of integers among a row's arguments:opened,and shut again.
-/
import Derived.ProofKit
import Derived.OpenShut
import Derived.KernelRfl
namespace Go.Calm
open Go.ChangeShapes Go.WideShapes Go.RowKit
section
variable {H:Type} {enc:TypeId×Value→H} {P:Program} {W:World} {base:Nat} {sp:Nat→Bool} {held:Bool} {t e:TypeId} {n:Nat} {k:IntKind}

theorem ints_of:∀(cs:List Value),(∀ i,i<cs.length→∃ x,cs[i]? =some (Value.int k x)∧(Lit.int k x).wf=true)→∃ xs:List Int,cs=xs.map (Value.int k)∧∀ x ∈ xs,(Lit.int k x).wf=true
  | [],_=>⟨[],rfl,by simp⟩
  | c :: r, h => by
    obtain⟨x,hx,hw⟩:=h 0 (by simp)
    obtain⟨xs,e,hxs⟩:=ints_of r (fun i hi=>by have:=h (i+1) (by simpa using hi);simpa using this)
    have hc:c= .int k x:=by simpa using hx
    refine⟨x :: xs,by rw[hc,e];rfl,fun y hy=> ?_⟩
    rcases List.mem_cons.1 hy with rfl|hy
    · exact hw
    · exact hxs y hy
end
end Go.Calm
