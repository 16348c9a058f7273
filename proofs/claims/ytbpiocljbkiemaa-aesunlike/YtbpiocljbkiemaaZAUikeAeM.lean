import Derived.Test.YtbpiocljbkiemaaZAUikeAeA
set_option linter.unusedSimpArgs false
set_option linter.unusedVariables false
/-! aes: the field of 256 elements. -/
namespace Go.Proofs.Ytbpiocljbkiemaa
open Go.RowKit Go.Ev
def twN (a:Nat):Nat:=(a <<< 1) ^^^ (bif a.testBit 7 then 283 else 0)
def mB:Nat→Nat→Nat→Nat
  |0,_,_=>0
  |f+1,a,b=>(bif b.testBit 0 then a else 0) ^^^ mB f (twN a) (b >>> 1)
def mu (a b:Nat):Nat:=mB 8 a b
def Lin (f:Nat→Nat):Prop:=∀ x y,f (x ^^^ y)=f x ^^^ f y
theorem x4 (a b c d:Nat):(a ^^^ b) ^^^ (c ^^^ d)=(a ^^^ c) ^^^ (b ^^^ d):=by
  rw[Nat.xor_assoc,Nat.xor_assoc,← Nat.xor_assoc b c d,Nat.xor_comm b c,Nat.xor_assoc c b d]
theorem cond_x (x y:Bool) (u:Nat):(bif x ^^ y then u else 0)=(bif x then u else 0) ^^^ (bif y then u else 0):=by
  cases x<;>cases y<;>simp
theorem tw_lin:Lin twN:=fun x y=>by
  unfold twN
  rw[Nat.shiftLeft_xor_distrib,Nat.testBit_xor,cond_x,x4]
theorem Lin.zero {f:Nat→Nat} (h:Lin f):f 0=0:=by
  have:=h 0 0
  simpa using this
end Go.Proofs.Ytbpiocljbkiemaa
