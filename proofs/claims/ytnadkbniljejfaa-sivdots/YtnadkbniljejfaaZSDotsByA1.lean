import Derived.Test.YtnadkbniljejfaaZSDotsShI1
import Derived.Test.YtnadkbniljejfaaZSDotsEvW1
import Derived.ProofKit
import Derived.OpenShut
import Derived.ChangeSlices
set_option linter.unusedSimpArgs false
set_option linter.unusedVariables false
/-! Small facts for what vc.py prints. -/
namespace Go.Proofs.Ytnadkbniljejfaa
open Go.RowKit Go.Ev
theorem tmodN (a b:Nat):Int.tmod (a:Int) (b:Int)=((a%b:Nat):Int):=by
  rw[Int.tmod_eq_emod_of_nonneg (by omega)];rfl
theorem tdivN (a b:Nat):Int.tdiv (a:Int) (b:Int)=((a / b:Nat):Int):=by
  rw[Int.tdiv_eq_ediv_of_nonneg (by omega)];rfl
theorem tdivN_i64 (a b:Nat) (h:a<9223372036854775808):IntKind.i64.wrap (Int.tdiv (a:Int) (b:Int))=((a / b:Nat):Int):=by
  have:=Nat.div_le_self a b
  rw[tdivN,IntKind.wrap_i64]
  generalize a / b=c at this ⊢
  omega
theorem wA_putE {k:IntKind} {N p q:Nat} {L:List Int} {x:Int} (h:p<N) (e:q=p):(wA k N L).setIfInBounds q (.int k x)=wA k N (lset N L p x):=by
  subst e;exact wA_put h
end Go.Proofs.Ytnadkbniljejfaa

set_option linter.unusedSimpArgs false
set_option linter.unusedVariables false
/-! Bytes that are handed in. -/
namespace Go.Proofs.Ytnadkbniljejfaa
open Go.RowKit Go.Ev Go.ChangeShapes Go.WideShapes
end Go.Proofs.Ytnadkbniljejfaa
