import Derived.Test.YthldpfindbhkeaaZSPvalPwR
/-! Numbers: Fermat, Pocklington, and that 2^255 - 19 is a prime. -/
namespace Go.Proofs.Ythldpfindbhkeaa
def IsP (p:Nat):Prop:=1<p∧∀ d,d∣p→d=1∨d=p
theorem IsP.cop {p:Nat} (h:IsP p) {a:Nat} (ha:¬ p∣a):Nat.Coprime p a:=by
  have hg:=h.2 (Nat.gcd p a) (Nat.gcd_dvd_left p a)
  cases hg with
  |inl h1=>exact h1
  |inr h1=>exact absurd (h1 ▸ Nat.gcd_dvd_right p a) ha
theorem IsP.euclid {p:Nat} (h:IsP p) {a b:Nat} (hab:p∣a*b):p∣a∨p∣b:=by
  by_cases ha:p∣a
  · exact .inl ha
  · exact .inr ((h.cop ha).dvd_of_dvd_mul_left hab)
theorem prime_factor (n : Nat) : 1 < n → ∃ r, IsP r ∧ r ∣ n := by
  induction n using Nat.strongRecOn with
  | _ n ih =>
    intro hn
    by_cases hp:IsP n
    · exact⟨n,hp,Nat.dvd_refl n⟩
    · have : ∃ d, d ∣ n ∧ ¬ (d = 1 ∨ d = n) := by
        apply Classical.byContradiction
        intro hc
        apply hp
        refine⟨hn,fun d hd=> ?_⟩
        apply Classical.byContradiction
        intro h2
        exact hc ⟨d,hd,h2⟩
      obtain⟨d,hd,hne⟩:=this
      have hle:=Nat.le_of_dvd (by omega) hd
      have hpos:=Nat.pos_of_dvd_of_pos hd (by omega)
      obtain⟨r,hr,hrd⟩:=ih d (by omega) (by omega)
      exact⟨r,hr,Nat.dvd_trans hrd hd⟩
theorem isP_of_sq (N:Nat) (hN:1<N) (h:∀ r,IsP r→r∣N→N<r*r):IsP N:=by
  refine⟨hN,fun d hd=> ?_⟩
  apply Classical.byContradiction
  intro hne
  obtain⟨e,he⟩:=hd
  have hd0 : 1 < d := by
    rcases Nat.lt_or_ge 1 d with h1|h1
    · exact h1
    · have : d = 0 ∨ d = 1 := by omega
      rcases this with h2|h2
      · subst h2;simp at he;omega
      · omega
  have he0 : 1 < e := by
    rcases Nat.lt_or_ge 1 e with h1|h1
    · exact h1
    · have : e = 0 ∨ e = 1 := by omega
      rcases this with h2|h2
      · subst h2;simp at he;omega
      · subst h2;simp at he;omega
  obtain⟨r,hr,hrd⟩:=prime_factor d hd0
  obtain⟨s,hs,hse⟩:=prime_factor e he0
  have h1:=h r hr (Nat.dvd_trans hrd ⟨e,he⟩)
  have h2:=h s hs (Nat.dvd_trans hse ⟨d,by rw[he,Nat.mul_comm]⟩)
  have h3:r*s≤N:=by rw[he];exact Nat.mul_le_mul (Nat.le_of_dvd (by omega) hrd) (Nat.le_of_dvd (by omega) hse)
  rcases Nat.le_total r s with hl|hl
  · have:=Nat.mul_le_mul_left r hl;omega
  · have:=Nat.mul_le_mul_right s hl;omega
/-! Fermat, by the products of the residues. -/
def prodL:List Nat→Nat
  | []=>1
  |a :: t=>a*prodL t
theorem prodL_perm {L M:List Nat} (h:L.Perm M):prodL L=prodL M:=by
  induction h with
  |nil=>rfl
  |cons x _ ih=>simp[prodL,ih]
  |swap x y l=>simp[prodL,Nat.mul_left_comm]
  |trans _ _ h1 h2=>exact h1.trans h2
theorem perm_of_sub:∀(L M:List Nat),L.Nodup→L.length=M.length→(∀ x,x ∈ L→x ∈ M)→L.Perm M
  | [], M, _, hl, _ => by
    have:M= []:=by cases M with|nil=>rfl|cons _ _=>simp at hl
    subst this;exact .nil
  | x :: t, M, hn, hl, hs => by
    have hx:x ∈ M:=hs x (by simp)
    have hn':=List.nodup_cons.1 hn
    have h1:=List.perm_cons_erase hx
    refine List.Perm.trans ?_ h1.symm
    refine List.Perm.cons x (perm_of_sub t (M.erase x) hn'.2 ?_ ?_)
    · have := List.length_erase_of_mem hx
      simp at hl;omega
    · intro y hy
      refine(List.mem_erase_of_ne ?_).2 (hs y (by simp[hy]))
      intro e;subst e;exact hn'.1 hy
theorem prodL_mul (a p:Nat):∀ L:List Nat,prodL (L.map fun k=>a*k%p)%p=a ^ L.length*prodL L%p
  | []=>by simp[prodL]
  | x :: t => by
    have ih:=prodL_mul a p t
    simp only[List.map_cons,prodL,List.length_cons]
    rw[Nat.mul_mod,ih,← Nat.mul_mod,Nat.mod_mul_mod,Nat.pow_succ]
    congr 1
    simp[Nat.mul_comm,Nat.mul_left_comm,Nat.mul_assoc]
theorem prodL_ndvd {p:Nat} (h:IsP p):∀ L:List Nat,(∀ x,x ∈ L→¬ p∣x)→¬ p∣prodL L
  | [], _ => by
    intro hd
    have:=Nat.le_of_dvd (by simp[prodL]) hd
    have:=h.1
    simp[prodL] at *; omega
  | x :: t, hx => by
    intro hd
    rcases h.euclid hd with h1|h1
    · exact hx x (by simp) h1
    · exact prodL_ndvd h t (fun y hy=>hx y (by simp[hy])) h1
theorem dvd_of_mod_eq {p a b:Nat} (hle:b≤a) (h:a%p=b%p):p∣a - b:=by
  refine⟨a / p - b / p,?_⟩
  have h1:=Nat.div_add_mod a p
  have h2:=Nat.div_add_mod b p
  rw[Nat.mul_sub]
  omega
theorem inj_mul {p a:Nat} (h:IsP p) (ha:¬ p∣a) {j k:Nat} (hjk:j<k) (hk:k<p) (he:a*j%p=a*k%p):False:=by
  have h1:=dvd_of_mod_eq (p:=p) (a:=a*k) (b:=a*j) (Nat.mul_le_mul_left a (by omega)) he.symm
  rw[← Nat.mul_sub] at h1
  rcases h.euclid h1 with h2|h2
  · exact ha h2
  · have:=Nat.le_of_dvd (by omega) h2;omega
theorem fermat {p a:Nat} (h:IsP p) (ha:¬ p∣a):a ^ (p - 1)%p=1:=by
  have hp:=h.1
  let L:=List.range' 1 (p - 1)
  have hm:∀ x,x ∈ L↔1≤x∧x<p:=by
    intro x
    simp only[L,List.mem_range'_1]
    omega
  have hperm : (L.map fun k => a * k % p).Perm L := by
    apply perm_of_sub
    · refine List.pairwise_map.2 (List.Pairwise.imp_of_mem ?_ (List.nodup_range' (s := 1) (n := p - 1)))
      intro j k hj hk hne he
      have hj:=(hm j).1 hj
      have hk:=(hm k).1 hk
      rcases Nat.lt_or_gt_of_ne hne with hl|hl
      · exact inj_mul h ha hl hk.2 he
      · exact inj_mul h ha hl hj.2 he.symm
    · simp
    · intro x hx
      obtain⟨k,hk,rfl⟩:=List.mem_map.1 hx
      have hk:=(hm k).1 hk
      refine(hm _).2 ⟨?_,Nat.mod_lt _ (by omega)⟩
      apply Classical.byContradiction
      intro h0
      have h0:a*k%p=0:=by omega
      rcases h.euclid (Nat.dvd_of_mod_eq_zero h0) with h1|h1
      · exact ha h1
      · have:=Nat.le_of_dvd (by omega) h1;omega
  have h1:=prodL_mul a p L
  rw[prodL_perm hperm] at h1
  have hl:L.length=p - 1:=by simp[L]
  rw[hl] at h1
  have hnd:¬ p∣prodL L:=prodL_ndvd h L (fun x hx hd=>by
    have:=(hm x).1 hx
    have:=Nat.le_of_dvd (by omega) hd
    omega)
  have hpos:1≤a ^ (p - 1):=Nat.pow_pos (by
    rcases Nat.eq_zero_or_pos a with h0|h0
    · subst h0;exact absurd (Nat.dvd_zero p) ha
    · exact h0)
  have h2:=dvd_of_mod_eq (p:=p) (a:=a ^ (p - 1)*prodL L) (b:=1*prodL L) (Nat.mul_le_mul_right _ hpos) (by rw[Nat.one_mul];exact h1.symm)
  rw[← Nat.sub_mul] at h2
  rcases h.euclid h2 with h3|h3
  · obtain ⟨c, hc⟩ := h3
    have:a ^ (p - 1)=1+p*c:=by omega
    rw[this,Nat.add_mul_mod_self_left]
    exact Nat.mod_eq_of_lt hp
  · exact absurd h3 hnd
/-! Powers that are 1. -/
theorem pow_one_mul {r b x:Nat} (hr:1<r) (h:b ^ x%r=1) (k:Nat):b ^ (x*k)%r=1:=by
  rw[Nat.pow_mul,Nat.pow_mod,h,Nat.one_pow]
  exact Nat.mod_eq_of_lt hr
theorem pow_gcd {r b:Nat} (hr:1<r) (x y:Nat):b ^ x%r=1→b ^ y%r=1→b ^ (Nat.gcd x y)%r=1:=by
  induction x,y using Nat.gcd.induction with
  |H0 y=>intro _ h;rw[Nat.gcd_zero_left];exact h
  | H1 x y hx ih =>
    intro h1 h2
    rw[Nat.gcd_rec]
    refine ih ?_ h1
    have h3:=pow_one_mul hr h1 (y / x)
    have h4:b ^ y=b ^ (x*(y / x))*b ^ (y%x):=by rw[← Nat.pow_add,Nat.div_add_mod]
    rw[h4,Nat.mul_mod,h3,Nat.one_mul,Nat.mod_mod] at h2
    exact h2
theorem mod_one_of_dvd {N r a:Nat} (hr:1<r) (h:r∣N) (ha:a%N=1):a%r=1:=by
  obtain⟨c,rfl⟩:=h
  rw[← Nat.mod_mul_right_mod a r c,ha]
  exact Nat.mod_eq_of_lt hr
theorem pock (N q a : Nat) (hN1 : 1 < N) (hq : IsP q) (hd : (N - 1) % q = 0) (h1 : a ^ (N - 1) % N = 1)
    (h2:Nat.gcd (a ^ ((N - 1) / q)%N+(N - 1)) N=1) (r:Nat) (hr:IsP r) (hrN:r∣N):q∣r - 1:=by
  have hr1:=hr.1
  apply Classical.byContradiction
  intro hnd
  have hc:=hq.cop hnd
  have e:(N - 1) / q*q=N - 1:=Nat.div_mul_cancel (Nat.dvd_of_mod_eq_zero hd)
  have h3:=mod_one_of_dvd hr1 hrN h1
  have hra : ¬ r ∣ a := by
    intro hra
    have hra':r∣a ^ (N - 1):=by
      have e0:N - 1=(N - 2)+1:=by omega
      rw[e0,Nat.pow_succ]
      exact Nat.dvd_trans hra (Nat.dvd_mul_left _ _)
    have:=Nat.mod_eq_zero_of_dvd hra'
    omega
  have h4:=fermat hr hra
  have h5:(a ^ ((N - 1) / q)) ^ q%r=1:=by rw[← Nat.pow_mul,e];exact h3
  have h6:(a ^ ((N - 1) / q)) ^ (r - 1)%r=1:=by rw[← Nat.pow_mul,Nat.mul_comm,Nat.pow_mul,Nat.pow_mod,h4,Nat.one_pow];exact Nat.mod_eq_of_lt hr1
  have h7:=pow_gcd hr1 q (r - 1) h5 h6
  rw[hc,Nat.pow_one] at h7
  have h8 : r ∣ a ^ ((N - 1) / q) % N + (N - 1) := by
    refine Nat.dvd_of_mod_eq_zero ?_
    obtain⟨c,hc⟩:=hrN
    rw[Nat.add_mod]
    have e1:a ^ ((N - 1) / q)%N%r=1:=by
      rw[hc,Nat.mod_mul_right_mod];rw[hc] at h7;exact h7
    have e2 : (N - 1) % r = r - 1 := by
      have c1:1≤c:=by
        rcases Nat.eq_zero_or_pos c with h0|h0
        · subst h0;simp at hc;omega
        · exact h0
      have:N - 1=(r - 1)+r*(c - 1):=by
        rw[Nat.mul_sub,hc]
        have:=Nat.mul_le_mul_left r c1
        omega
      rw[this,Nat.add_mul_mod_self_left]
      exact Nat.mod_eq_of_lt (by omega)
    rw[e1,e2]
    have:1+(r - 1)=r:=by omega
    rw[this,Nat.mod_self]
  have h9:r∣1:=h2 ▸ Nat.dvd_gcd h8 hrN
  have:=Nat.le_of_dvd (by omega) h9
  omega
/-! Small ones by trial. -/
def tryD (n:Nat):Nat→Bool
  |0=>true
  |f+1=>(n%(f+2) != 0) && tryD n f
theorem tryD_ok (n:Nat):∀ f,tryD n f=true→∀ d,2≤d→d<f+2→¬ d∣n
  |0,_,d,h1,h2=>by omega
  | f + 1, h, d, h1, h2 => by
    simp[tryD] at h
    rcases Nat.lt_or_ge d (f+2) with hl|hl
    · exact tryD_ok n f h.2 d h1 hl
    · have : d = f + 2 := by omega
      subst this
      intro hd
      exact h.1 (Nat.mod_eq_zero_of_dvd hd)
theorem isP_small (n f:Nat) (hn:1<n) (h:tryD n f=true) (hf:n<(f+2)*(f+2)):IsP n:=by
  refine isP_of_sq n hn fun r hr hd=> ?_
  rcases Nat.lt_or_ge r (f+2) with hl|hl
  · exact absurd hd (tryD_ok n f h r hr.1 hl)
  · exact Nat.lt_of_lt_of_le hf (Nat.mul_le_mul hl hl)
theorem isP_two (N q s a b f:Nat) (hN:1<N) (hq:IsP q) (hs:IsP s) (hne:Nat.gcd q s=1) (hf:N<2 ^ f)
    (hd:(N - 1)%q=0) (h1:fpw a N f (N - 1)=1) (h2:Nat.gcd (fpw a N f ((N - 1) / q)+(N - 1)) N=1)
    (hd':(N - 1)%s=0) (h1':fpw b N f (N - 1)=1) (h2':Nat.gcd (fpw b N f ((N - 1) / s)+(N - 1)) N=1)
    (hbig:N<(q*s)*(q*s)):IsP N:=by
  have l1:N - 1<2 ^ f:=by omega
  have l2:∀ x,(N - 1) / x<2 ^ f:=fun x=>Nat.lt_of_le_of_lt (Nat.div_le_self _ _) l1
  rw[fpw_eq _ _ _ _ l1] at h1 h1'
  rw[fpw_eq _ _ _ _ (l2 _)] at h2 h2'
  refine isP_of_sq N hN fun r hr hrd=> ?_
  have hqs:q*s∣r - 1:=Nat.Coprime.mul_dvd_of_dvd_of_dvd hne (pock N q a hN hq hd h1 h2 r hr hrd) (pock N s b hN hs hd' h1' h2' r hr hrd)
  have hr1:=hr.1
  have:=Nat.le_of_dvd (by omega) hqs
  refine Nat.lt_of_lt_of_le hbig (Nat.mul_le_mul ?_ ?_)<;>omega
theorem isP_by (N q a f:Nat) (hN:1<N) (hq:IsP q) (hf:N<2 ^ f)
    (hd:(N - 1)%q=0) (h1:fpw a N f (N - 1)=1) (h2:Nat.gcd (fpw a N f ((N - 1) / q)+(N - 1)) N=1)
    (hbig:N<q*q):IsP N:=by
  have l1:N - 1<2 ^ f:=by omega
  have l2:∀ x,(N - 1) / x<2 ^ f:=fun x=>Nat.lt_of_le_of_lt (Nat.div_le_self _ _) l1
  rw[fpw_eq _ _ _ _ l1] at h1
  rw[fpw_eq _ _ _ _ (l2 _)] at h2
  refine isP_of_sq N hN fun r hr hrd=> ?_
  have hqs:q∣r - 1:=pock N q a hN hq hd h1 h2 r hr hrd
  have hr1:=hr.1
  have:=Nat.le_of_dvd (by omega) hqs
  refine Nat.lt_of_lt_of_le hbig (Nat.mul_le_mul ?_ ?_)<;>omega
/-! The chain to 2^255 - 19. -/
theorem p127:IsP 127:=isP_small 127 12 (by decide) (by kernel_rfl) (by decide)
theorem p353:IsP 353:=isP_small 353 20 (by decide) (by kernel_rfl) (by decide)
theorem p75707:IsP 75707:=isP_small 75707 280 (by decide) (by kernel_rfl) (by decide)
theorem p8574133:IsP 8574133:=isP_small 8574133 2930 (by decide) (by kernel_rfl) (by decide)
theorem p51:IsP 1919519569386763:=isP_two 1919519569386763 8574133 127 2 2 51 (by decide) p8574133 p127 (by kernel_rfl) (by decide) (by kernel_rfl) (by kernel_rfl) (by kernel_rfl) (by kernel_rfl) (by kernel_rfl) (by kernel_rfl) (by decide)
theorem p116:IsP 75445702479781427272750846543864801:=isP_two 75445702479781427272750846543864801 1919519569386763 75707 2 2 116 (by decide) p51 p75707 (by kernel_rfl) (by decide) (by kernel_rfl) (by kernel_rfl) (by kernel_rfl) (by kernel_rfl) (by kernel_rfl) (by kernel_rfl) (by decide)
theorem p236:IsP 74058212732561358302231226437062788676166966415465897661863160754340907:=isP_two 74058212732561358302231226437062788676166966415465897661863160754340907 75445702479781427272750846543864801 353 2 2 236 (by decide) p116 p353 (by kernel_rfl) (by decide) (by kernel_rfl) (by kernel_rfl) (by kernel_rfl) (by kernel_rfl) (by kernel_rfl) (by kernel_rfl) (by decide)
theorem p255:IsP prN:=isP_by prN 74058212732561358302231226437062788676166966415465897661863160754340907 2 255 (by decide) p236 (by decide) (by kernel_rfl) (by kernel_rfl) (by kernel_rfl) (by decide)
end Go.Proofs.Ythldpfindbhkeaa
