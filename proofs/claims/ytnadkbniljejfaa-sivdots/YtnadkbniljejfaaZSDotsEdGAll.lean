import Derived.Test.YtnadkbniljejfaaZSDotsFMath
import Derived.Test.YtnadkbniljejfaaZSDotsRMath
import Derived.Test.YtnadkbniljejfaaZSDotsEdId
/-! The field of p as a type; the curve's points and their sum. -/
namespace Go.Proofs.Ytnadkbniljejfaa
open Go.RowKit Go.Num
def prM:Nat:=57896044618658097711785492504343953926634992332820282019728792003956564819948
abbrev Fp:=Fin (prM+1)
theorem pr_natM:pr=((prM+1:Nat):Int):=rfl
theorem toNat_lt (x:Int):(x%pr).toNat<prM+1:=by
  have h:0≤x%pr∧x%pr<pr:=by unfold pr;omega
  have h2:=h.2
  rw[pr_natM] at h2
  exact(Int.toNat_lt h.1).2 h2
def fp (x:Int):Fp:=⟨(x%pr).toNat,toNat_lt x⟩
def dN:Int:=37095705934669439343138083508754565189542113879843219016388785533085940283555
def dE:Fp:=fp dN
def OnC (x y:Fp):Prop:=dE*x*x*y*y - (y*y - x*x - 1)=0
structure Pt where
  x:Fp
  y:Fp
  on:OnC x y
end Go.Proofs.Ytnadkbniljejfaa

/-! The group of the curve's points. -/
namespace Go.Proofs.Ytnadkbniljejfaa
open Go.RowKit Go.Num
namespace Pt
def u (p q:Pt):Fp:=dE*p.x*q.x*p.y*q.y
end Pt
end Go.Proofs.Ytnadkbniljejfaa

/-! The base, and how often it is the identity. -/
namespace Go.Proofs.Ytnadkbniljejfaa
open Go.RowKit Go.Num
end Go.Proofs.Ytnadkbniljejfaa
