import Derived.Test.YtdebkddhpogkgaaZABackRzAll
import Derived.Test.YtdebkddhpogkgaaZABackMidArr
set_option linter.unusedSimpArgs false
/-! More of digits: comparison, products with a carry, digits of 32 bits against bytes, arrays of arrays. -/
namespace Go.Arr
open Go.RowKit
section
variable {B:Int}
structure Mc (B m:Int) (h g:Nat→Int) (c b:Int) (k:Nat):Prop where
  lo:∀ j,j<k→0≤g j∧g j<B
  c0:0≤c
  c1:c<m
  eq:vB B g k+c*B ^ k=m*vB B h k+b
theorem Mc.bd {m:Int} {h g:Nat→Int} {c b:Int} {k:Nat} (H:Mc B m h g c b k) (hh:0≤h k∧h k<B):0≤c+m*h k∧c+m*h k<m*B:=by
  have h0:=H.c0
  have h1:=H.c1
  have e1:0≤m*h k:=Int.mul_nonneg (by omega) hh.1
  have e2:m*h k≤m*(B - 1):=Int.mul_le_mul_of_nonneg_left (by omega) (by omega)
  rw[Int.mul_sub,Int.mul_one] at e2
  omega
theorem Mc.step (hB:0<B) {m:Int} {h g:Nat→Int} {c b:Int} {k:Nat} (H:Mc B m h g c b k) (hh:0≤h k∧h k<B) (t:Int) (ht:t=c+m*h k):Mc B m h (gset g k (t%B)) (t / B) b (k+1):=by
  have hb:=H.bd hh
  rw[← ht] at hb
  refine⟨fun j hj=> ?_,Int.ediv_nonneg hb.1 (by omega),Int.ediv_lt_of_lt_mul hB hb.2,?_⟩
  · by_cases e : j = k
    · subst e;rw[gset_eq];exact⟨Int.emod_nonneg _ (by omega),Int.emod_lt_of_pos _ hB⟩
    · rw[gset_ne _ _ _ e];exact H.lo j (by omega)
  · have he := H.eq
    have hd:=Int.emod_add_mul_ediv t B
    generalize t%B=r at*
    generalize t / B=q at*
    simp only[vB]
    rw[gset_eq,vB_low,Int.pow_succ]
    have e1:r=c+m*h k - B*q:=by omega
    have e2:vB B g k=m*vB B h k+b - c*B ^ k:=by omega
    rw[e1,e2]
    grind
end
end Go.Arr
