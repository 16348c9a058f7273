import Derived.Test.YthldpfindbhkeaaZSPvalFMath
/-! What a root's square is. -/
namespace Go.Proofs.Ythldpfindbhkeaa
open Go.RowKit
theorem i_sq:iNum*iNum%pr= -1%pr:=by kernel_rfl
theorem two_ne:(2:Int)%pr≠0:=by decide
def hN:Nat:=(prN - 1) / 2
theorem sq_half (W:Int) (h:W%pr≠0):pm (W*W) hN=1:=by
  have e:(W*W) ^ hN=W ^ (2*hN):=by rw[Int.pow_mul,show W ^ 2=W*W by grind]
  unfold pm
  rw[e]
  have:=fermatI W h
  rw[show prN - 1=2*hN by kernel_rfl] at this
  exact this
end Go.Proofs.Ythldpfindbhkeaa
