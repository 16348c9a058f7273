import Derived.Test.YthldpfindbhkeaaZSPvalFiAll
import Derived.Test.YthldpfindbhkeaaZSPvalMidArr
import Derived.LoopTactic
set_option linter.unusedSimpArgs false
namespace Go.Proofs.Ythldpfindbhkeaa
open Go.RowKit


end Go.Proofs.Ythldpfindbhkeaa

set_option linter.unusedSimpArgs false
namespace Go.Proofs.Ythldpfindbhkeaa
open Go.RowKit

def pm (A:Int) (n:Nat):Int:=A ^ n%pr



end Go.Proofs.Ythldpfindbhkeaa

set_option linter.unusedSimpArgs false
namespace Go.Proofs.Ythldpfindbhkeaa
open Go.RowKit

def eInv:Int:=57896044618658097711785492504343953926634992332820282019728792003956564819947
def invF (A:Int):Int:=pm A eInv.toNat




end Go.Proofs.Ythldpfindbhkeaa

set_option linter.unusedSimpArgs false
namespace Go.Proofs.Ythldpfindbhkeaa
open Go.RowKit

def fpw (a m:Nat):Nat→Nat→Nat
  |0,_=>1%m
  |f+1,e=>(fun h=>if e%2=1 then h*h%m*a%m else h*h%m) (fpw a m f (e / 2))
theorem fpw_eq (a m:Nat):∀ f e,e<2 ^ f→fpw a m f e=a ^ e%m
  | 0, e, h => by
    have:e=0:=by simp at h;omega
    subst this;simp[fpw]
  | f + 1, e, h => by
    have ih:=fpw_eq a m f (e / 2) (by rw[Nat.pow_succ] at h;omega)
    unfold fpw
    simp only[ih]
    have e2:a ^ (e / 2)%m*(a ^ (e / 2)%m)%m=a ^ (e / 2+e / 2)%m:=by rw[← Nat.mul_mod,← Nat.pow_add]
    split
    · rename_i ho
      rw[e2,← Nat.mod_mul_mod,Nat.mod_mod,Nat.mod_mul_mod,← Nat.pow_succ]
      congr 2;omega
    · rename_i ho
      rw[e2]
      congr 2;omega
def prN:Nat:=57896044618658097711785492504343953926634992332820282019728792003956564819949
theorem pm_nat (a n:Nat):pm (a:Int) n=((a ^ n%prN:Nat):Int):=by
  unfold pm
  rw[Int.natCast_emod,Int.natCast_pow]
  rfl


section
variable {ops:Array Oper} {rest:List Oper} {o:Oper} {a:Act} {W:World} {al:List (Nat×Tmp)} {R:Act→Prop} {m:Nat}
end

end Go.Proofs.Ythldpfindbhkeaa
