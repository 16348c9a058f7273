import Derived.Test.YtdebkddhpogkgaaGreatZASarsRzAll
import Derived.Test.YtdebkddhpogkgaaGreatZASarsMidArr
set_option linter.unusedSimpArgs false
/-! More of digits: comparison, products with a carry, digits of 32 bits against bytes, arrays of arrays. -/
namespace Go.Arr
open Go.RowKit
section
variable {B:Int}
theorem vB_cmp (hB:0<B) {g h:Nat→Int} {m n:Nat} (hm:m<n) (hg:∀ j,j<n→0≤g j∧g j<B) (hh:∀ j,j<n→0≤h j∧h j<B) (e:∀ j,m<j→j<n→g j=h j) (hlt:g m<h m):vB B g n<vB B h n:=by
  obtain⟨d,rfl⟩:∃ d,n=m+1+d:=⟨n - (m+1),by omega⟩
  rw[vB_split g,vB_split h,vB_ext (g:=fun j=>g (j+(m+1))) (h:=fun j=>h (j+(m+1))) d (fun j hj=>e _ (by omega) (by omega))]
  have a:=vB_bd hB g m (fun j hj=>hg j (by omega))
  have b:=vB_bd hB h m (fun j hj=>hh j (by omega))
  have hp:=Bpos hB m
  have h2:(g m+1)*B ^ m≤h m*B ^ m:=Int.mul_le_mul_of_nonneg_right (by omega) (by omega)
  rw[Int.add_mul,Int.one_mul] at h2
  simp only[vB]
  omega
structure Mc (B m:Int) (h g:Nat→Int) (c b:Int) (k:Nat):Prop where
  lo:∀ j,j<k→0≤g j∧g j<B
  c0:0≤c
  c1:c<m
  eq:vB B g k+c*B ^ k=m*vB B h k+b
theorem Mc.bd {m:Int} {h g:Nat→Int} {c b:Int} {k:Nat} (H:Mc B m h g c b k) (hh:0≤h k∧h k<B):0≤c+m*h k∧c+m*h k<m*B:=by
  have h0:=H.c0
  have h1:=H.c1
  have e1:0≤m*h k:=Int.mul_nonneg (by omega) hh.1
  have e2:m*h k≤m*(B - 1):=Int.mul_le_mul_of_nonneg_left (by omega) (by omega)
  rw[Int.mul_sub,Int.mul_one] at e2
  omega
theorem Mc.step (hB:0<B) {m:Int} {h g:Nat→Int} {c b:Int} {k:Nat} (H:Mc B m h g c b k) (hh:0≤h k∧h k<B) (t:Int) (ht:t=c+m*h k):Mc B m h (gset g k (t%B)) (t / B) b (k+1):=by
  have hb:=H.bd hh
  rw[← ht] at hb
  refine⟨fun j hj=> ?_,Int.ediv_nonneg hb.1 (by omega),Int.ediv_lt_of_lt_mul hB hb.2,?_⟩
  · by_cases e : j = k
    · subst e;rw[gset_eq];exact⟨Int.emod_nonneg _ (by omega),Int.emod_lt_of_pos _ hB⟩
    · rw[gset_ne _ _ _ e];exact H.lo j (by omega)
  · have he := H.eq
    have hd:=Int.emod_add_mul_ediv t B
    generalize t%B=r at*
    generalize t / B=q at*
    simp only[vB]
    rw[gset_eq,vB_low,Int.pow_succ]
    have e1:r=c+m*h k - B*q:=by omega
    have e2:vB B g k=m*vB B h k+b - c*B ^ k:=by omega
    rw[e1,e2]
    grind
end
def tw (X:Int) (k q:Nat):Int:=dig 4294967296 X q / 256 ^ (k - 4*q)
theorem g_pos:(0:Int)<4294967296:=by omega
theorem wd4 (X:Int) (hX:0≤X) (q r:Nat) (hr:r<4):dig 4294967296 X q / 256 ^ r%256=dig 256 X (4*q+r):=by
  obtain⟨Y,rfl⟩:=Int.eq_ofNat_of_zero_le hX
  have e1:(256:Nat) ^ (4*q+r)=4294967296 ^ q*256 ^ r:=by
    rw[Nat.pow_add,Nat.pow_mul]
  have e2:(4294967296:Nat)=256 ^ r*(256 ^ (3 - r)*256):=by
    rw[← Nat.mul_assoc,← Nat.pow_add,← Nat.pow_succ,show(r+(3 - r)).succ=4 by omega]
  have key:Y / 4294967296 ^ q%4294967296 / 256 ^ r%256=Y / 256 ^ (4*q+r)%256:=by
    rw[e1,← Nat.div_div_eq_div_mul]
    generalize Y / 4294967296 ^ q=y
    rw[e2,Nat.mod_mul_right_div_self,Nat.mod_mul_left_mod]
  have h:=congrArg (fun n:Nat=>(n:Int)) key
  unfold dig
  simp only[Int.natCast_emod,Int.natCast_ediv,Int.natCast_pow] at h ⊢
  exact h
theorem two_8 (r:Nat):(2:Int) ^ (8*r)=256 ^ r:=by rw[Int.pow_mul];rfl
theorem tw_step (X:Int) (hX:0≤X) (m:Nat):256*tw X (m+1) (m / 4)+dig 256 X m=tw X m (m / 4):=by
  obtain⟨q,hq⟩:∃ q,q=m / 4:=⟨_,rfl⟩
  obtain⟨r,hr⟩:∃ r,r=m%4:=⟨_,rfl⟩
  rw[← hq]
  have hm:m=4*q+r:=by omega
  unfold tw
  rw[hm,show 4*q+r+1 - 4*q=r+1 by omega,show 4*q+r - 4*q=r by omega,← wd4 X hX q r (by omega)]
  have hz:=(dig_bd g_pos X q).1
  generalize dig 4294967296 X q=z at*
  have e:z / 256 ^ (r+1)=z / 256 ^ r / 256:=by rw[Int.pow_succ,Int.ediv_ediv,if_neg (by have:=Bpos b_pos r;omega),Int.sub_zero]
  rw[e]
  omega
theorem tw_zero (X:Int) (k q:Nat) (h:4*q+4≤k):tw X k q=0:=by
  unfold tw
  have hb:=dig_bd g_pos X q
  refine Int.ediv_eq_zero_of_lt hb.1 (Int.lt_of_lt_of_le hb.2 ?_)
  obtain⟨d,hd⟩:∃ d,k - 4*q=4+d:=⟨k - 4*q - 4,by omega⟩
  rw[hd,Int.pow_add]
  have:=Bpos b_pos d
  rw[show(256:Int) ^ 4=4294967296 by decide]
  omega
theorem tw_same (X:Int) (m q:Nat) (hne:q≠m / 4):tw X (m+1) q=tw X m q:=by
  rcases Nat.lt_or_ge q (m / 4) with h|h
  · rw[tw_zero X (m+1) q (by omega),tw_zero X m q (by omega)]
  · unfold tw
    rw[show m+1 - 4*q=0 by omega,show m - 4*q=0 by omega]
theorem tw_bd (X:Int) (k q:Nat):0≤tw X k q∧tw X k q<4294967296:=by
  unfold tw
  have hb:=dig_bd g_pos X q
  have hp:=Bpos b_pos (k - 4*q)
  exact⟨Int.ediv_nonneg hb.1 (by omega),Int.lt_of_le_of_lt (Int.ediv_le_self _ hb.1) hb.2⟩
theorem tw_0 (X:Int) (q:Nat):tw X 0 q=dig 4294967296 X q:=by unfold tw;simp
theorem splice_arr (k : IntKind) (n m o : Nat) (g h : Nat → Int) (hf : o + m ≤ n) : Calm.splice (arr k n g) o (arr k m h) = arr k n (fun j => if o ≤ j ∧ j < o + m then h (j - o) else g j) := by
  unfold Calm.splice
  apply Array.ext
  · simp[arr_size,arr];omega
  · intro i h1 h2
    have hi:i<n:=by simpa[arr_size] using h2
    simp only[arr_size,List.getElem_toArray,arr,List.toList_toArray,List.getElem_map,List.getElem_range]
    by_cases c1:i<o
    · rw [List.getElem_append_left (by simp; omega), List.getElem_append_left (by simp; omega), List.getElem_take]
      simp only[List.getElem_map,List.getElem_range]
      rw[if_neg (by omega)]
    · by_cases c2 : i < o + m
      · rw [List.getElem_append_left (by simp; omega), List.getElem_append_right (by simp; omega)]
        simp only[List.getElem_map,List.getElem_range,List.length_take,List.length_map,List.length_range]
        rw[if_pos (by omega),show i - min o n=i - o by omega]
      · rw [List.getElem_append_right (by simp; omega), List.getElem_drop]
        simp only[List.getElem_map,List.getElem_range,List.length_append,List.length_take,List.length_map,List.length_range]
        rw[if_neg (by omega),show o+(List.map (fun j=>Value.int k (h j)) (List.range m)).toArray.size+(i - (min o n+m))=i by simp;omega]
end Go.Arr
