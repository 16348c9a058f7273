import Derived.KernelRfl
/-! Numbers: Fermat, Pocklington. -/
namespace Go.Num
def fpw (a m:Nat):Nat→Nat→Nat
  |0,_=>1%m
  |f+1,e=>(fun h=>if e%2=1 then h*h%m*a%m else h*h%m) (fpw a m f (e / 2))
theorem fpw_eq (a m:Nat):∀ f e,e<2 ^ f→fpw a m f e=a ^ e%m
  | 0, e, h => by
    have:e=0:=by simp at h;omega
    subst this;simp[fpw]
  | f + 1, e, h => by
    have ih:=fpw_eq a m f (e / 2) (by rw[Nat.pow_succ] at h;omega)
    unfold fpw
    simp only[ih]
    have e2:a ^ (e / 2)%m*(a ^ (e / 2)%m)%m=a ^ (e / 2+e / 2)%m:=by rw[← Nat.mul_mod,← Nat.pow_add]
    split
    · rename_i ho
      rw[e2,← Nat.mod_mul_mod,Nat.mod_mod,Nat.mod_mul_mod,← Nat.pow_succ]
      congr 2;omega
    · rename_i ho
      rw[e2]
      congr 2;omega
def IsP (p:Nat):Prop:=1<p∧∀ d,d∣p→d=1∨d=p
theorem IsP.cop {p:Nat} (h:IsP p) {a:Nat} (ha:¬ p∣a):Nat.Coprime p a:=by
  have hg:=h.2 (Nat.gcd p a) (Nat.gcd_dvd_left p a)
  cases hg with
  |inl h1=>exact h1
  |inr h1=>exact absurd (h1 ▸ Nat.gcd_dvd_right p a) ha
theorem IsP.euclid {p:Nat} (h:IsP p) {a b:Nat} (hab:p∣a*b):p∣a∨p∣b:=by
  by_cases ha:p∣a
  · exact .inl ha
  · exact .inr ((h.cop ha).dvd_of_dvd_mul_left hab)
/-! Fermat, by the products of the residues. -/
def prodL:List Nat→Nat
  | []=>1
  |a :: t=>a*prodL t
theorem prodL_perm {L M:List Nat} (h:L.Perm M):prodL L=prodL M:=by
  induction h with
  |nil=>rfl
  |cons x _ ih=>simp[prodL,ih]
  |swap x y l=>simp[prodL,Nat.mul_left_comm]
  |trans _ _ h1 h2=>exact h1.trans h2
theorem perm_of_sub:∀(L M:List Nat),L.Nodup→L.length=M.length→(∀ x,x ∈ L→x ∈ M)→L.Perm M
  | [], M, _, hl, _ => by
    have:M= []:=by cases M with|nil=>rfl|cons _ _=>simp at hl
    subst this;exact .nil
  | x :: t, M, hn, hl, hs => by
    have hx:x ∈ M:=hs x (by simp)
    have hn':=List.nodup_cons.1 hn
    have h1:=List.perm_cons_erase hx
    refine List.Perm.trans ?_ h1.symm
    refine List.Perm.cons x (perm_of_sub t (M.erase x) hn'.2 ?_ ?_)
    · have := List.length_erase_of_mem hx
      simp at hl;omega
    · intro y hy
      refine(List.mem_erase_of_ne ?_).2 (hs y (by simp[hy]))
      intro e;subst e;exact hn'.1 hy
theorem prodL_mul (a p:Nat):∀ L:List Nat,prodL (L.map fun k=>a*k%p)%p=a ^ L.length*prodL L%p
  | []=>by simp[prodL]
  | x :: t => by
    have ih:=prodL_mul a p t
    simp only[List.map_cons,prodL,List.length_cons]
    rw[Nat.mul_mod,ih,← Nat.mul_mod,Nat.mod_mul_mod,Nat.pow_succ]
    congr 1
    simp[Nat.mul_comm,Nat.mul_left_comm,Nat.mul_assoc]
theorem prodL_ndvd {p:Nat} (h:IsP p):∀ L:List Nat,(∀ x,x ∈ L→¬ p∣x)→¬ p∣prodL L
  | [], _ => by
    intro hd
    have:=Nat.le_of_dvd (by simp[prodL]) hd
    have:=h.1
    simp[prodL] at *; omega
  | x :: t, hx => by
    intro hd
    rcases h.euclid hd with h1|h1
    · exact hx x (by simp) h1
    · exact prodL_ndvd h t (fun y hy=>hx y (by simp[hy])) h1
theorem dvd_of_mod_eq {p a b:Nat} (hle:b≤a) (h:a%p=b%p):p∣a - b:=by
  refine⟨a / p - b / p,?_⟩
  have h1:=Nat.div_add_mod a p
  have h2:=Nat.div_add_mod b p
  rw[Nat.mul_sub]
  omega
theorem inj_mul {p a:Nat} (h:IsP p) (ha:¬ p∣a) {j k:Nat} (hjk:j<k) (hk:k<p) (he:a*j%p=a*k%p):False:=by
  have h1:=dvd_of_mod_eq (p:=p) (a:=a*k) (b:=a*j) (Nat.mul_le_mul_left a (by omega)) he.symm
  rw[← Nat.mul_sub] at h1
  rcases h.euclid h1 with h2|h2
  · exact ha h2
  · have:=Nat.le_of_dvd (by omega) h2;omega
theorem fermat {p a:Nat} (h:IsP p) (ha:¬ p∣a):a ^ (p - 1)%p=1:=by
  have hp:=h.1
  let L:=List.range' 1 (p - 1)
  have hm:∀ x,x ∈ L↔1≤x∧x<p:=by
    intro x
    simp only[L,List.mem_range'_1]
    omega
  have hperm : (L.map fun k => a * k % p).Perm L := by
    apply perm_of_sub
    · refine List.pairwise_map.2 (List.Pairwise.imp_of_mem ?_ (List.nodup_range' (s := 1) (n := p - 1)))
      intro j k hj hk hne he
      have hj:=(hm j).1 hj
      have hk:=(hm k).1 hk
      rcases Nat.lt_or_gt_of_ne hne with hl|hl
      · exact inj_mul h ha hl hk.2 he
      · exact inj_mul h ha hl hj.2 he.symm
    · simp
    · intro x hx
      obtain⟨k,hk,rfl⟩:=List.mem_map.1 hx
      have hk:=(hm k).1 hk
      refine(hm _).2 ⟨?_,Nat.mod_lt _ (by omega)⟩
      apply Classical.byContradiction
      intro h0
      have h0:a*k%p=0:=by omega
      rcases h.euclid (Nat.dvd_of_mod_eq_zero h0) with h1|h1
      · exact ha h1
      · have:=Nat.le_of_dvd (by omega) h1;omega
  have h1:=prodL_mul a p L
  rw[prodL_perm hperm] at h1
  have hl:L.length=p - 1:=by simp[L]
  rw[hl] at h1
  have hnd:¬ p∣prodL L:=prodL_ndvd h L (fun x hx hd=>by
    have:=(hm x).1 hx
    have:=Nat.le_of_dvd (by omega) hd
    omega)
  have hpos:1≤a ^ (p - 1):=Nat.pow_pos (by
    rcases Nat.eq_zero_or_pos a with h0|h0
    · subst h0;exact absurd (Nat.dvd_zero p) ha
    · exact h0)
  have h2:=dvd_of_mod_eq (p:=p) (a:=a ^ (p - 1)*prodL L) (b:=1*prodL L) (Nat.mul_le_mul_right _ hpos) (by rw[Nat.one_mul];exact h1.symm)
  rw[← Nat.sub_mul] at h2
  rcases h.euclid h2 with h3|h3
  · obtain ⟨c, hc⟩ := h3
    have:a ^ (p - 1)=1+p*c:=by omega
    rw[this,Nat.add_mul_mod_self_left]
    exact Nat.mod_eq_of_lt hp
  · exact absurd h3 hnd
/-! Powers that are 1. -/
/-! Small ones by trial. -/
def tryD (n:Nat):Nat→Bool
  |0=>true
  |f+1=>(n%(f+2) != 0) && tryD n f
end Go.Num
