/-
  Arrays of integers by their digits:a number's digits to any base,and what becomes of the number when a digit is written.
-/
import Derived.Test.YtdebkddhpogkgaaGreatZASarsMem
import Derived.Test.YtdebkddhpogkgaaGreatZASarsEqArr
namespace Go.Arr
open Go.RowKit

def arr (k:IntKind) (n:Nat) (g:Nat→Int):Array Value:=((List.range n).map fun j=>Value.int k (g j)).toArray
def gset (g:Nat→Int) (k:Nat) (v:Int):Nat→Int:=fun j=>if j=k then v else g j
theorem gset_eq (g:Nat→Int) (k:Nat) (v:Int):gset g k v k=v:=by simp[gset]
theorem gset_ne (g:Nat→Int) (k:Nat) (v:Int) {j:Nat} (h:j≠k):gset g k v j=g j:=by simp[gset,h]
theorem arr_size (k:IntKind) (n:Nat) (g:Nat→Int):(arr k n g).size=n:=by simp[arr]
theorem arr_at (k:IntKind) (n:Nat) (g:Nat→Int) (j:Nat) (hj:j<n):(arr k n g)[j]? =some (.int k (g j)):=by simp[arr,hj]
theorem arr_one (k:IntKind) (n:Nat) (g:Nat→Int):(arr k n g).all (·.oneCell')=true:=by simp[arr,Value.oneCell']
theorem arr_set (k:IntKind) (n:Nat) (g:Nat→Int) (j:Nat) (v:Int):arr k n (gset g j v)=(arr k n g).setIfInBounds j (.int k v):=by
  unfold arr
  apply Array.ext
  · simp
  · intro i h1 h2
    rw[Array.getElem_setIfInBounds (by simpa using h1)]
    simp only[List.getElem_toArray,List.getElem_map,List.getElem_range]
    by_cases h:j=i
    · subst h;simp[gset]
    · rw[if_neg h,gset_ne _ _ _ (fun e=>h e.symm)]
theorem arr_ext {k:IntKind} {n:Nat} {g h:Nat→Int} (e:∀ j,j<n→g j=h j):arr k n g=arr k n h:=by
  unfold arr
  congr 1
  apply List.map_congr_left
  intro j hj
  rw[e j (by simpa using hj)]
theorem arr_list (k:IntKind) (n:Nat) (g:Nat→Int):arr k n g=(((List.range n).map g).map (Value.int k)).toArray:=by
  unfold arr;rw[List.map_map];rfl

def vB (B:Int) (g:Nat→Int):Nat→Int
  |0=>0
  |k+1=>vB B g k+g k*B ^ k
def dig (B n:Int) (j:Nat):Int:=n / B ^ j%B
section
variable {B:Int}
theorem vB_ext {g h:Nat→Int}:∀ k,(∀ j,j<k→g j=h j)→vB B g k=vB B h k
  |0,_=>rfl
  |k+1,e=>by simp only[vB];rw[vB_ext k (fun j hj=>e j (by omega)),e k (by omega)]
theorem vB_low (g:Nat→Int) (k:Nat) (v:Int):vB B (gset g k v) k=vB B g k:=vB_ext _ fun j hj=>gset_ne _ _ _ (by omega)
theorem vB_gset (h:Nat→Int) (j:Nat) (v:Int):∀ n,j<n→vB B (gset h j v) n=vB B h n+(v - h j)*B ^ j
  |0,hj=>by omega
  | n + 1, hj => by
    simp only[vB]
    by_cases e:j=n
    · subst e
      rw[vB_low,gset_eq]
      grind
    · rw [vB_gset h j v n (by omega), gset_ne _ _ _ (fun x => e x.symm)]
      grind
theorem vB_zero:∀ n,vB B (fun _=>0) n=0
  |0=>rfl
  |n+1=>by simp only[vB];rw[vB_zero n];simp
theorem vB_split (h:Nat→Int) (m:Nat):∀ n,vB B h (m+n)=vB B h m+B ^ m*vB B (fun j=>h (j+m)) n
  |0=>by simp[vB]
  | n + 1 => by
    rw[show m+(n+1)=(m+n)+1 from rfl]
    simp only[vB]
    rw[vB_split h m n,Int.pow_add,show n+m=m+n from Nat.add_comm _ _]
    grind
theorem Bpos (hB:0<B) (k:Nat):0<B ^ k:=Int.pow_pos hB
theorem vB_bd (hB:0<B) (g:Nat→Int):∀ k,(∀ j,j<k→0≤g j∧g j<B)→0≤vB B g k∧vB B g k<B ^ k
  |0,_=>by simp[vB]
  | k + 1, hb => by
    have ih:=vB_bd hB g k (fun j hj=>hb j (by omega))
    have hk:=hb k (by omega)
    have hp:=Bpos hB k
    simp only[vB,Int.pow_succ]
    have h1:0≤g k*B ^ k:=Int.mul_nonneg hk.1 (by omega)
    have h2:g k*B ^ k≤(B - 1)*B ^ k:=Int.mul_le_mul_of_nonneg_right (by omega) (by omega)
    rw[Int.sub_mul,Int.one_mul,Int.mul_comm B] at h2
    omega
theorem vB_dig (hB : 0 < B) (g : Nat → Int) : ∀ k, (∀ j, j < k → 0 ≤ g j ∧ g j < B) → ∀ j, j < k → dig B (vB B g k) j = g j
  |0,_,j,hj=>by omega
  | k + 1, hb, j, hj => by
    have hk:=hb k (by omega)
    have hp:=Bpos hB j
    unfold dig
    simp only[vB]
    by_cases h:j=k
    · subst h
      have hv:=vB_bd hB g j (fun i hi=>hb i (by omega))
      rw[Int.add_mul_ediv_right _ _ (by omega),Int.ediv_eq_zero_of_lt hv.1 hv.2,Int.zero_add]
      exact Int.emod_eq_of_lt hk.1 hk.2
    · have ih := vB_dig hB g k (fun i hi => hb i (by omega)) j (by omega)
      unfold dig at ih
      obtain⟨d,hd⟩:∃ d,k=j+1+d:=⟨k - (j+1),by omega⟩
      have e:g k*B ^ k=g k*B ^ d*B*B ^ j:=by
        rw[hd,Int.pow_add,Int.pow_add]
        grind
      rw[e,Int.add_mul_ediv_right _ _ (by omega),Int.add_mul_emod_self_right]
      exact ih
theorem dig_bd (hB:0<B) (n:Int) (j:Nat):0≤dig B n j∧dig B n j<B:=⟨Int.emod_nonneg _ (by omega),Int.emod_lt_of_pos _ hB⟩
theorem dig_low (hB:0<B) (n:Int):∀ k,vB B (dig B n) k=n%B ^ k
  |0=>by simp[vB]
  | k + 1 => by
    simp only[vB]
    rw[dig_low hB n k]
    unfold dig
    have hp:=Bpos hB k
    rw[Int.pow_succ]
    have e:=Int.emod_add_mul_ediv n (B ^ k)
    have e2:=Int.emod_add_mul_ediv (n / B ^ k) B
    have h1:n%(B ^ k*B)=(n%B ^ k+n / B ^ k%B*B ^ k)%(B ^ k*B):=by
      have:n=n%B ^ k+n / B ^ k%B*B ^ k+B ^ k*B*(n / B ^ k / B):=by grind
      rw[congrArg (· %(B ^ k*B)) this,Int.add_mul_emod_self_left]
    have b1:=Int.emod_nonneg n (Int.ne_of_gt hp)
    have b2:=Int.emod_lt_of_pos n hp
    have b3:=Int.emod_nonneg (n / B ^ k) (Int.ne_of_gt hB)
    have b4:=Int.emod_lt_of_pos (n / B ^ k) hB
    have h3:0≤n / B ^ k%B*B ^ k:=Int.mul_nonneg b3 (by omega)
    have h4:n / B ^ k%B*B ^ k≤(B - 1)*B ^ k:=Int.mul_le_mul_of_nonneg_right (by omega) (by omega)
    rw[Int.sub_mul,Int.one_mul,Int.mul_comm B] at h4
    rw[h1]
    generalize n / B ^ k%B*B ^ k=y at*
    generalize n%B ^ k=x at*
    generalize B ^ k*B=z at*
    exact(Int.emod_eq_of_lt (a:=x+y) (b:=z) (by omega) (by omega)).symm
theorem dig_v (hB:0<B) (n:Int) (k:Nat) (h0:0≤n) (h1:n<B ^ k):vB B (dig B n) k=n:=by rw[dig_low hB,Int.emod_eq_of_lt h0 h1]
theorem arr_num (hB:0<B) (k:IntKind) (n:Nat) (g:Nat→Int) (hb:∀ j,j<n→0≤g j∧g j<B):arr k n g=arr k n (dig B (vB B g n)):=arr_ext fun j hj=>(vB_dig hB g n hb j hj).symm
theorem dig_top (hB:0<B) (a t:Int) (q j:Nat) (ha:0≤a) (ha':a<B ^ q) (ht:0≤t) (ht':t<B):dig B (a+B ^ q*t) j=if j<q then dig B a j else if j=q then t else 0:=by
  have hg : ∀ i, i < (q + 1 + j) → 0 ≤ (if i < q then dig B a i else if i = q then t else 0) ∧ (if i < q then dig B a i else if i = q then t else 0) < B := by
    intro i _
    split
    · exact dig_bd hB a i
    · split
      · exact⟨ht,ht'⟩
      · omega
  have key : ∀ m, vB B (fun i => if i < q then dig B a i else if i = q then t else 0) (q + 1 + m) = a + B ^ q * t := by
    intro m
    induction m with
    | zero =>
      simp only[vB]
      rw[vB_ext (h:=dig B a) q (fun i hi=>by rw[if_pos hi]),dig_v hB a q ha ha']
      simp[Int.mul_comm]
    | succ m ih =>
      rw[show q+1+(m+1)=(q+1+m)+1 from rfl]
      simp only[vB] at ih ⊢
      rw[ih,if_neg (by omega),if_neg (by omega)]
      simp
  have:=vB_dig hB _ (q+1+j) hg j (by omega)
  rw[key j] at this
  exact this
theorem digs_inj (hB:0<B) {n:Nat} {X Y:Int} (hX:0≤X∧X<B ^ n) (hY:0≤Y∧Y<B ^ n):((List.range n).map (dig B X) == (List.range n).map (dig B Y))=decide (X=Y):=by
  rw[Bool.eq_iff_iff,beq_iff_eq,decide_eq_true_iff]
  constructor
  · intro h
    rw[← dig_v hB X n hX.1 hX.2,← dig_v hB Y n hY.1 hY.2]
    refine vB_ext n fun j hj=> ?_
    have h2:=congrArg (fun l:List Int=>l[j]?) h
    simpa[hj] using h2
  · intro h;rw[h]
structure Cy (B:Int) (a b g:Nat→Int) (c:Int) (k:Nat):Prop where
  lo:∀ j,j<k→0≤g j∧g j<B
  c0:0≤c
  c1:c≤1
  eq:vB B g k+c*B ^ k=vB B a k+vB B b k
theorem Cy.step {a b g:Nat→Int} {c:Int} {k:Nat} (H:Cy B a b g c k) {s o:Int} (hs0:0≤s) (hs1:s<B) (ho0:0≤o) (ho1:o≤1) (h:s+B*o=a k+b k+c):Cy B a b (gset g k s) o (k+1):=by
  refine⟨fun j hj=> ?_,ho0,ho1,?_⟩
  · by_cases e : j = k
    · subst e;rw[gset_eq];exact⟨hs0,hs1⟩
    · rw[gset_ne _ _ _ e];exact H.lo j (by omega)
  · have he := H.eq
    simp only[vB]
    rw[gset_eq,vB_low,Int.pow_succ]
    have e1:s=a k+b k+c - B*o:=by omega
    rw[e1]
    have e2:vB B g k=vB B a k+vB B b k - c*B ^ k:=by omega
    rw[e2]
    grind
structure Br (B:Int) (a b g:Nat→Int) (c:Int) (k:Nat):Prop where
  lo:∀ j,j<k→0≤g j∧g j<B
  c0:0≤c
  c1:c≤1
  eq:vB B g k - c*B ^ k=vB B a k - vB B b k
theorem Br.step {a b g:Nat→Int} {c:Int} {k:Nat} (H:Br B a b g c k) {s o:Int} (hs0:0≤s) (hs1:s<B) (ho0:0≤o) (ho1:o≤1) (h:s - B*o=a k - b k - c):Br B a b (gset g k s) o (k+1):=by
  refine⟨fun j hj=> ?_,ho0,ho1,?_⟩
  · by_cases e : j = k
    · subst e;rw[gset_eq];exact⟨hs0,hs1⟩
    · rw[gset_ne _ _ _ e];exact H.lo j (by omega)
  · have he := H.eq
    simp only[vB]
    rw[gset_eq,vB_low,Int.pow_succ]
    have e1:s=a k - b k - c+B*o:=by omega
    rw[e1]
    have e2:vB B g k=vB B a k - vB B b k+c*B ^ k:=by omega
    rw[e2]
    grind
structure Row (B:Int) (m n:Nat) (a b h g:Nat→Int) (i:Nat) (c:Int) (k:Nat):Prop where
  bd:∀ j,0≤g j∧g j<B
  hi:∀ j,i+m≤j→g j=0
  c0:0≤c
  c1:c<B
  eq:vB B g n+c*B ^ (i+k)=vB B h n+a i*B ^ i*vB B b k
theorem Row.step {m n:Nat} {a b h g:Nat→Int} {i:Nat} {c:Int} {k:Nat} (R:Row B m n a b h g i c k) (hik:i+k<n) (hk:k<m) {r q:Int} (hr0:0≤r) (hr1:r<B) (hq0:0≤q) (hq1:q<B) (ht:r+B*q=c+g (i+k)+a i*b k):Row B m n a b h (gset g (i+k) r) i q (k+1):=by
  refine⟨fun j=> ?_,fun j hj=> ?_,hq0,hq1,?_⟩
  · by_cases e : j = i + k
    · subst e;rw[gset_eq];exact⟨hr0,hr1⟩
    · rw[gset_ne _ _ _ e];exact R.bd j
  · rw[gset_ne _ _ _ (by omega)];exact R.hi j hj
  · have he := R.eq
    rw[vB_gset _ _ _ n hik,show vB B b (k+1)=vB B b k+b k*B ^ k from rfl]
    rw[show i+(k+1)=i+k+1 from rfl,Int.pow_succ]
    have e1:vB B g n=vB B h n+a i*B ^ i*vB B b k - c*B ^ (i+k):=by omega
    have e2:r=c+g (i+k)+a i*b k - B*q:=by omega
    rw[e1,e2,Int.pow_add]
    grind
theorem Row.close {m n:Nat} {a b h g:Nat→Int} {i:Nat} {c:Int} (R:Row B m n a b h g i c m) (him:i+m<n) (hv:vB B h n=vB B a i*vB B b m):
    (∀ j,0≤gset g (i+m) c j∧gset g (i+m) c j<B)∧(∀ j,i+1+m≤j→gset g (i+m) c j=0)∧vB B (gset g (i+m) c) n=vB B a (i+1)*vB B b m:=by
  refine⟨fun j=> ?_,fun j hj=> ?_,?_⟩
  · by_cases e : j = i + m
    · subst e;rw[gset_eq];exact⟨R.c0,R.c1⟩
    · rw[gset_ne _ _ _ e];exact R.bd j
  · rw[gset_ne _ _ _ (by omega)];exact R.hi j (by omega)
  · rw [vB_gset _ _ _ n him, R.hi _ (Nat.le_refl _)]
    have he:=R.eq
    rw[hv] at he
    simp only[vB]
    grind
end
section
variable {ops:Array Oper} {rest:List Oper} {o:Oper} {a:Act} {W:World} {al:List (Nat×Tmp)} {R:Act→Prop} {m:Nat} {P:Program} {Q:Exit→Act→World→Prop} {t:TypeId} {n:Nat} {k:IntKind} {B X Y:Int} {x y:Operand} {u:TypeId}
theorem eq_run (A:Calm.ArrT P t n k) (hB:0<B) (hX:0≤X∧X<B ^ n) (hY:0≤Y∧Y<B ^ n) (ho:o.op= .binOp .eql t x y u) (hx:a.eval x= .agg (arr k n (dig B X))) (hy:a.eval y= .agg (arr k n (dig B Y))) (w:World):(execOp a.eval o).run P w= .ok (.value (.bool (decide (X=Y)))) w:=by
  rw[arr_list] at hx hy
  rw[← digs_inj hB hX hY]
  exact Calm.exec_eql A _ _ (by simp) (by simp) ho hx hy w
end
end Go.Arr
