import Derived.Test.YtcfnjcacdmkgbaaDoorZMEndsFMath
import Derived.Test.YtcfnjcacdmkgbaaDoorZMEndsRMath
import Derived.Test.YtcfnjcacdmkgbaaDoorZMEndsEdId
/-! The field of p as a type; the curve's points and their sum. -/
namespace Go.Proofs.YtcfnjcacdmkgbaaDoor
open Go.RowKit Go.Num
end Go.Proofs.YtcfnjcacdmkgbaaDoor

/-! The group of the curve's points. -/
namespace Go.Proofs.YtcfnjcacdmkgbaaDoor
open Go.RowKit Go.Num
namespace Pt
end Pt
end Go.Proofs.YtcfnjcacdmkgbaaDoor

/-! The base, and how often it is the identity. -/
namespace Go.Proofs.YtcfnjcacdmkgbaaDoor
open Go.RowKit Go.Num
def q256:Nat:=115792089237316195423570985008687907853269984665640564039457584007913129639936
def mk3 (x y z:Nat):Nat:=x%prN+q256*(y%prN+q256*(z%prN))
def b3:Nat:=mk3 15112221349535400772501151409588531511454012693041857206046113283949847762202 46316835694926478169428394003475163141307993866256225615783033603165251855960 1
end Go.Proofs.YtcfnjcacdmkgbaaDoor
