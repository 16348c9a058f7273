import Derived.Test.YtcfnjcacdmkgbaaDoorZMFwerFMath
import Derived.Test.YtcfnjcacdmkgbaaDoorZMFwerRMath
import Derived.Test.YtcfnjcacdmkgbaaDoorZMFwerEdId
/-! The field of p as a type; the curve's points and their sum. -/
namespace Go.Proofs.YtcfnjcacdmkgbaaDoor
open Go.RowKit Go.Num
def prM:Nat:=57896044618658097711785492504343953926634992332820282019728792003956564819948
abbrev Fp:=Fin (prM+1)
theorem pr_natM:pr=((prM+1:Nat):Int):=rfl
theorem toNat_lt (x:Int):(x%pr).toNat<prM+1:=by
  have h:0≤x%pr∧x%pr<pr:=by unfold pr;omega
  have h2:=h.2
  rw[pr_natM] at h2
  exact(Int.toNat_lt h.1).2 h2
def fp (x:Int):Fp:=⟨(x%pr).toNat,toNat_lt x⟩
def dN:Int:=37095705934669439343138083508754565189542113879843219016388785533085940283555
def dE:Fp:=fp dN
def OnC (x y:Fp):Prop:=dE*x*x*y*y - (y*y - x*x - 1)=0
structure Pt where
  x:Fp
  y:Fp
  on:OnC x y
end Go.Proofs.YtcfnjcacdmkgbaaDoor

/-! The group of the curve's points. -/
namespace Go.Proofs.YtcfnjcacdmkgbaaDoor
open Go.RowKit Go.Num
namespace Pt
def u (p q:Pt):Fp:=dE*p.x*q.x*p.y*q.y
end Pt
end Go.Proofs.YtcfnjcacdmkgbaaDoor

/-! The base, and how often it is the identity. -/
namespace Go.Proofs.YtcfnjcacdmkgbaaDoor
open Go.RowKit Go.Num
def q256:Nat:=115792089237316195423570985008687907853269984665640564039457584007913129639936
def c1 (h:Nat):Nat:=h%q256
def c2 (h:Nat):Nat:=h / q256%q256
def mk3 (x y z:Nat):Nat:=x%prN+q256*(y%prN+q256*(z%prN))
def b3:Nat:=mk3 15112221349535400772501151409588531511454012693041857206046113283949847762202 46316835694926478169428394003475163141307993866256225615783033603165251855960 1
end Go.Proofs.YtcfnjcacdmkgbaaDoor
