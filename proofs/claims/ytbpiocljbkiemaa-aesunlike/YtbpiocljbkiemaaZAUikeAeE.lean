import Derived.Test.YtbpiocljbkiemaaZAUikeAeB
import Derived.Test.YtbpiocljbkiemaaZAUikeAeM
set_option linter.unusedSimpArgs false
set_option linter.unusedVariables false
/-! aes: products. -/
namespace Go.Proofs.Ytbpiocljbkiemaa
open Go.RowKit Go.Ev
theorem ofI8 (a:Nat) (h:a<256):(BitVec.ofInt 8 (a:Int)).toNat=a:=by
  rw[BitVec.ofInt_natCast,BitVec.toNat_ofNat];exact Nat.mod_eq_of_lt (by omega)
theorem x8 (a b:Nat) (ha:a<256) (hb:b<256):bits .xor .u8 (a:Int) (b:Int)=((a ^^^ b:Nat):Int):=by
  have hx:a ^^^ b<2 ^ 8:=Nat.xor_lt_two_pow (by omega) (by omega)
  show IntKind.u8.wrap ((BitVec.ofInt 8 (a:Int) ^^^ BitVec.ofInt 8 (b:Int)).toNat:Int)=_
  rw[BitVec.toNat_xor,ofI8 a ha,ofI8 b hb,IntKind.wrap_u8];omega
theorem tw_eq {a:Nat} (h:a<256):twv (a:Int)=((twN a:Nat):Int):=by
  have h':∀ a:Fin 256,twv ((a.1:Nat):Int)=((twN a.1:Nat):Int):=by decide+kernel
  exact h' ⟨a,h⟩
theorem twN_lt {a:Nat} (h:a<256):twN a<256:=by
  have h':∀ a:Fin 256,twN a.1<256:=by decide+kernel
  exact h' ⟨a,h⟩
def mv (x y:Int):Int:=((mu x.toNat y.toNat:Nat):Int)
end Go.Proofs.Ytbpiocljbkiemaa
