import Derived.Test.YtbpiocljbkiemaaZAEntsEvAll
import Derived.Test.YtbpiocljbkiemaaZAEntsEdEAll
import Derived.Deep.AppendSrc
import Derived.Laws.AppendOwn
set_option linter.unusedSimpArgs false
set_option linter.unusedVariables false
/-! Append to a row of one's own, or to nothing: how much room the new row has is the world's choice. -/
namespace Go.Ev
open Go.RowKit Go.Calm Go.Proofs.Ytbpiocljbkiemaa
section
variable {P:Program} {E:En P} {fk:Nat}
def iv (q:IntKind) (N:List Int):List Value:=N.map (Value.int q)
theorem wA_size (q:IntKind) (n:Nat) (L:List Int):(wA q n L).size=n:=by simp[wA]
def al (i M:Nat):Value→Value
  | .pointer (some ⟨k,o,none⟩)=>if k=i then .pointer (some ⟨M,o,none⟩) else .pointer (some ⟨k,o,none⟩)
  | .slice (some ⟨k,o,none⟩) l c=>if k=i then .slice (some ⟨M,o,none⟩) l c else .slice (some ⟨k,o,none⟩) l c
  |v=>v
abbrev J (j:Nat→Value) (a n:Nat):List Value:=(List.range n).map fun i=>j (a+i)
abbrev JU (n:Nat):List Value:=List.replicate n undef
end
end Go.Ev
