import Derived.Test.YtdebkddhpogkgaaGreatZASarsEdMAll
set_option linter.unusedSimpArgs false
set_option linter.unusedVariables false
/-! Odd and even elements, roots as elements. -/
namespace Go.Proofs.YtdebkddhpogkgaaGreat
open Go.RowKit Go.Num
def ob (z:Fp):Bool:=decide (z.val%2=1)
abbrev od (z:Fp):Prop:=ob z=true
theorem od_iff {z:Fp}:od z↔z.val%2=1:=decide_eq_true_iff
theorem ob_iff {z:Fp}:ob z=true↔od z:=Iff.rfl
theorem ob_no {z:Fp}:ob z=false↔¬ od z:=by
  show ob z=false↔¬ ob z=true
  cases ob z<;>simp
theorem ob_fp (x:Int):decide (x%pr%2=1)=ob (fp x):=by
  unfold ob
  rw[decide_eq_decide,← fp_val]
  omega
theorem od_0:¬ od (0:Fp):=by
  rw[od_iff]
  have:(0:Fp).val=0:=rfl
  rw[this];decide
theorem neg_val {z:Fp} (h:z≠0):(-z).val=prM+1 - z.val:=by
  have h0:z.val≠0:=fun e=>h (Fin.ext e)
  have:=z.isLt
  rw[Fin.val_neg]
  rw[if_neg h]
theorem od_neg {z:Fp} (h:z≠0):od (-z)↔¬ od z:=by
  rw[od_iff,od_iff,neg_val h]
  have:=z.isLt
  unfold prM at*
  omega
theorem neg0: -(0:Fp)=0:=by
  apply Fin.ext
  rfl
def ab (z:Fp):Fp:=if od z then -z else z
theorem ab_id {z:Fp} (h:¬ od z):ab z=z:=if_neg h
theorem ab_od {z:Fp} (h:od z):ab z= -z:=if_pos h
theorem ab_ev (z:Fp):¬ od (ab z):=by
  by_cases h:od z
  · rw [ab_od h]
    by_cases h0:z=0
    · subst h0;exact absurd h od_0
    · exact fun h'=>(od_neg h0).1 h' h
  · rw[ab_id h];exact h
theorem ab_sq (z:Fp):ab z*ab z=z*z:=by
  by_cases h:od z
  · rw[ab_od h];grind -lia
  · rw[ab_id h]
theorem ev_uniq {x y:Fp} (hx:¬ od x) (hy:¬ od y) (h:x*x=y*y):x=y:=by
  rcases fsq h with e|e
  · exact e
  · by_cases h0 : y = 0
    · subst h0;rw[e,neg0]
    · exfalso;apply hx;rw[e,od_neg h0];exact hy
theorem ab_eq {x y:Fp} (h:x*x=y*y):ab x=ab y:=ev_uniq (ab_ev x) (ab_ev y) (by rw[ab_sq,ab_sq,h])
theorem fp_absF (x:Int):fp (absF x)=ab (fp x):=by
  have h:=ob_fp x
  unfold absF
  by_cases h1:x%pr%2=1
  · rw [if_pos h1, fp_mod, fp_neg]
    rw[decide_eq_true h1] at h
    rw[ab_od (ob_iff.1 h.symm)]
  · rw [if_neg h1, fp_mod]
    rw[decide_eq_false h1] at h
    rw[ab_id (ob_no.1 h.symm)]
theorem i_ns {x z:Fp} (hz:z≠0) (h:x*x=iE*(z*z)):False:=by
  rw[← fp_surj x,← fp_surj z] at h
  rw[← fp_surj z] at hz
  unfold iE at h
  rw[← fp_mul,← fp_mul,← fp_mul,fp_eq] at h
  exact i_nonsq _ _ (fp_ne0.1 hz) h
def IsRoot (u v r:Fp) (b:Bool):Prop:=¬ od r∧((u=0∧r=0∧b=true)∨(u≠0∧v=0∧r=0∧b=false)∨(u≠0∧v≠0∧b=true∧v*(r*r)=u)∨(u≠0∧v≠0∧b=false∧v*(r*r)=iE*u))
theorem root_is (U V:Int):IsRoot (fp U) (fp V) (fp (rootV U V)) (rootB U V):=by
  obtain⟨Z,h1,h2⟩:=root_cases U V
  have hs:fp (rootV U V)*fp (rootV U V)=fp Z*fp Z:=by rw[h1,fp_absF,ab_sq]
  refine⟨by rw[h1,fp_absF];exact ab_ev _,?_⟩
  rw[hs]
  have z0:Z%pr=0→fp (rootV U V)=0:=fun h=>by
    rw[h1,fp_absF,fp_eq0.2 h,ab_id od_0]
  rcases h2 with⟨a,b,c⟩|⟨a,b,c,d⟩|⟨a,b,c,d⟩|⟨a,b,c,d⟩
  · exact .inl ⟨fp_eq0.2 a,z0 b,c⟩
  · exact .inr (.inl ⟨fp_ne0.2 a,fp_eq0.2 b,z0 c,d⟩)
  · refine .inr (.inr (.inl ⟨fp_ne0.2 a, fp_ne0.2 b, c, ?_⟩))
    rw[← fp_mul,← fp_mul,fp_eq];exact d
  · refine .inr (.inr (.inr ⟨fp_ne0.2 a, fp_ne0.2 b, c, ?_⟩))
    unfold iE
    rw[← fp_mul,← fp_mul,← fp_mul,fp_eq];exact d
theorem sq_can {v r s:Fp} (hv:v≠0) (h:v*(r*r)=v*(s*s)):r*r=s*s:=fcan hv (by grind -lia)
theorem is_uniq {u v r r':Fp} {b b':Bool} (h:IsRoot u v r b) (k:IsRoot u v r' b'):r=r'∧b=b':=by
  obtain⟨h0,h⟩:=h
  obtain⟨k0,k⟩:=k
  have bad:∀ {r s:Fp},u≠0→v≠0→v*(r*r)=u→v*(s*s)=iE*u→False:=fun {r s} hu hv e1 e2=>by
    have hr:r≠0:=fun e=>hu (by rw[← e1,e];grind -lia)
    refine i_ns (x:=s) hr (fcan hv ?_)
    rw[← e1] at e2
    grind -lia
  rcases h with⟨a,b,c⟩|⟨a,b,c,d⟩|⟨a,b,c,d⟩|⟨a,b,c,d⟩<;>rcases k with⟨a',b',c'⟩|⟨a',b',c',d'⟩|⟨a',b',c',d'⟩|⟨a',b',c',d'⟩
  all_goals first|exact absurd a a'|exact absurd a' a|exact absurd b b'|exact absurd b' b|skip
  · exact⟨b.trans b'.symm,c.trans c'.symm⟩
  · exact⟨c.trans c'.symm,d.trans d'.symm⟩
  · exact⟨ev_uniq h0 k0 (sq_can b (d.trans d'.symm)),c.trans c'.symm⟩
  · exact(bad a b d d').elim
  · exact(bad a b d' d).elim
  · exact⟨ev_uniq h0 k0 (sq_can b (d.trans d'.symm)),c.trans c'.symm⟩
def rtE (u v:Fp):Fp:=fp (rootV (u.val:Int) (v.val:Int))
def rbE (u v:Fp):Bool:=rootB (u.val:Int) (v.val:Int)
theorem rt_is (u v:Fp):IsRoot u v (rtE u v) (rbE u v):=by
  have:=root_is (u.val:Int) (v.val:Int)
  rwa[fp_surj,fp_surj] at this
theorem fp_rootV (U V:Int):fp (rootV U V)=rtE (fp U) (fp V):=(is_uniq (root_is U V) (rt_is _ _)).1
theorem rootB_E (U V:Int):rootB U V=rbE (fp U) (fp V):=(is_uniq (root_is U V) (rt_is _ _)).2
theorem quo_is (u v:Int) (hu:0≤u∧u<pr) (hv:0≤v∧v<pr):IsRoot (fp u) (fp v) (fp (quoV u v)) (quoB u v):=by
  by_cases h0:v%pr=0
  · have ev : v = 0 := by rw [Int.emod_eq_of_lt hv.1 hv.2] at h0; exact h0
    unfold quoV quoB
    by_cases hu0:u=0
    · rw [if_pos hu0, if_pos hu0, hu0, fp_zero]
      exact⟨od_0,.inl ⟨rfl,rfl,rfl⟩⟩
    · rw [if_neg hu0, if_neg hu0, if_pos ev, if_pos ev, fp_zero, ev, fp_zero]
      refine⟨od_0,.inr (.inl ⟨fp_ne0.2 ?_,rfl,rfl,rfl⟩)⟩
      rw[Int.emod_eq_of_lt hu.1 hu.2];exact hu0
  · obtain ⟨e1, e2⟩ := quo_root u v hu hv h0
    rw[e1,e2]
    exact root_is u v
theorem fp_quoV (u v:Int) (hu:0≤u∧u<pr) (hv:0≤v∧v<pr):fp (quoV u v)=rtE (fp u) (fp v):=(is_uniq (quo_is u v hu hv) (rt_is _ _)).1
theorem rt_sq {v w:Fp} (hw:w≠0) (h:v=w*w):rbE 1 v=true∧v*(rtE 1 v*rtE 1 v)=1:=by
  obtain⟨_,h1⟩:=rt_is 1 v
  have hv:v≠0:=by rw[h];exact fmul_ne hw hw
  rcases h1 with⟨a,b,c⟩|⟨a,b,c,d⟩|⟨a,b,c,d⟩|⟨a,b,c,d⟩
  · exact absurd a one_ne
  · exact absurd b hv
  · exact⟨c,d⟩
  · exfalso
    refine i_ns (x:=w*rtE 1 v) (z:=1) one_ne ?_
    generalize rtE 1 v=r at d
    subst h
    grind -lia
theorem rt_0 {v:Fp} (h:v=0):rbE 1 v=false∧rtE 1 v=0:=by
  obtain⟨_,h1⟩:=rt_is 1 v
  rcases h1 with⟨a,b,c⟩|⟨a,b,c,d⟩|⟨a,b,c,d⟩|⟨a,b,c,d⟩
  · exact absurd a one_ne
  · exact⟨d,c⟩
  · exact absurd h b
  · exact absurd h b
end Go.Proofs.YtdebkddhpogkgaaGreat

set_option linter.unusedSimpArgs false
set_option linter.unusedVariables false
/-! The bytes of a point: the same for the four that count as one. -/
namespace Go.Proofs.YtdebkddhpogkgaaGreat
open Go.RowKit Go.Num
def nNum:Int:=54469307008909316920995813868745141605393597292927456921205312896311721017578
def mNum:Int:=25063068953384623474111414158702152701244531502492656460079210482610430750235
def nE:Fp:=fp nNum
def mE:Fp:=fp mNum
theorem n_sq:nE*nE*(-1 - dE)=1:=by
  unfold nE dE
  simp only[← fp_mul,← fp_sub,← fp_one,← fp_neg]
  rw[fp_eq]
  kernel_rfl
theorem m_sq:mE*mE= -1 - dE:=by
  unfold mE dE
  simp only[← fp_mul,← fp_sub,← fp_one,← fp_neg]
  rw[fp_eq]
  kernel_rfl
theorem d1_ne:1+dE≠0:=fun h=>by
  have h1:=n_sq
  generalize dE=d at h h1
  generalize nE=n at h1
  have:(1:Fp)=0:=by
    have e:n*n*(-1 - d)= -(n*n*(1+d)):=by clear h1 h;grind -lia
    rw[e,h] at h1
    grind -lia
  exact one_ne this
def encC (X Y Z T a b c:Fp):Fp:=cond (ob (T*c)) (cond (ob (iE*Y*c)) (ab (a*nE*(Z - -(iE*X)))) (ab (a*nE*(Z - iE*X)))) (cond (ob (X*c)) (ab (b*(Z - -Y))) (ab (b*(Z - Y))))
def encR (X Y Z T r u1 u2:Fp):Fp:=encC X Y Z T (r*u1) (r*u2) (r*u1*(r*u2)*T)
def encE (X Y Z T:Fp):Fp:=encR X Y Z T (rtE 1 ((Z+Y)*(Z - Y)*(X*Y*(X*Y)))) ((Z+Y)*(Z - Y)) (X*Y)
theorem encC_eq {X Y Z T a b c X' Y' Z' T' a' b' c':Fp} (h1:T*c=T'*c') (h2:iE*Y*c=iE*Y'*c') (h3:X*c=X'*c')
    (h4:a*nE*(Z - -(iE*X))*(a*nE*(Z - -(iE*X)))=a'*nE*(Z' - -(iE*X'))*(a'*nE*(Z' - -(iE*X'))))
    (h5:a*nE*(Z - iE*X)*(a*nE*(Z - iE*X))=a'*nE*(Z' - iE*X')*(a'*nE*(Z' - iE*X')))
    (h6:b*(Z - -Y)*(b*(Z - -Y))=b'*(Z' - -Y')*(b'*(Z' - -Y'))) (h7:b*(Z - Y)*(b*(Z - Y))=b'*(Z' - Y')*(b'*(Z' - Y'))):
    encC X Y Z T a b c=encC X' Y' Z' T' a' b' c':=by
  unfold encC
  rw[h1,h2,h3,ab_eq h4,ab_eq h5,ab_eq h6,ab_eq h7]
theorem enc_aux (x y Z j k r':Fp) (hj:Z*j=1) (hk:k*k=r'*r'):encR (x*Z) (y*Z) Z (x*y*Z) (k*(j*j*j)) ((Z+y*Z)*(Z - y*Z)) (x*Z*(y*Z))=encR x y 1 (x*y) r' ((1+y)*(1 - y)) (x*y):=by
  have ea:k*(j*j*j)*((Z+y*Z)*(Z - y*Z))=k*((1+y)*(1 - y))*j:=by
    have:k*(j*j*j)*((Z+y*Z)*(Z - y*Z))=k*((1+y)*(1 - y))*j*(Z*j)*(Z*j):=by clear hj hk;grind -lia
    rw[this,hj];clear hk this hj;grind -lia
  have eb:k*(j*j*j)*(x*Z*(y*Z))=k*(x*y)*j:=by
    have:k*(j*j*j)*(x*Z*(y*Z))=k*(x*y)*j*(Z*j)*(Z*j):=by clear hj hk ea;grind -lia
    rw[this,hj];clear hk this hj ea;grind -lia
  have ec:k*((1+y)*(1 - y))*j*(k*(x*y)*j)*(x*y*Z)=r'*((1+y)*(1 - y))*(r'*(x*y))*(x*y)*j:=by
    have:k*((1+y)*(1 - y))*j*(k*(x*y)*j)*(x*y*Z)=(k*k)*((1+y)*(1 - y))*((x*y))*(x*y)*j*(Z*j):=by clear hj hk ea eb;grind -lia
    rw[this,hj,hk];clear hk this hj ea eb;grind -lia
  unfold encR
  rw[ea,eb,ec]
  generalize r'*((1+y)*(1 - y))*(r'*(x*y))*(x*y)=c
  have zc:∀ t:Fp,t*Z*(c*j)=t*c:=fun t=>by
    have:t*Z*(c*j)=t*c*(Z*j):=by clear hj hk ea eb ec;grind -lia
    rw[this,hj];clear hj hk ea eb ec this;grind -lia
  have zk:∀ t:Fp,k*t*j*Z=k*t:=fun t=>by
    have:k*t*j*Z=k*t*(Z*j):=by clear hj hk ea eb ec;grind -lia
    rw[this,hj];clear hj hk ea eb ec this;grind -lia
  have sq:∀ t:Fp,k*t*(k*t)=r'*t*(r'*t):=fun t=>by
    have:k*t*(k*t)=k*k*(t*t):=by clear hj hk ea eb ec;grind -lia
    rw[this,hk];clear hj hk ea eb ec this;grind -lia
  have hM:∀ u w:Fp,k*u*j*(Z*w)=k*(u*w):=fun u w=>by
    have:k*u*j*(Z*w)=k*(u*w)*(Z*j):=by clear hj hk ea eb ec zc zk sq;grind -lia
    rw[this,hj];clear hj hk ea eb ec this zc zk sq;grind -lia
  refine encC_eq ?_ ?_ ?_ ?_ ?_ ?_ ?_
  · exact zc _
  · have : iE * (y * Z) * (c * j) = iE * y * Z * (c * j) := by clear hj hk ea eb ec zc zk sq hM; grind -lia
    rw[this,zc]
  · exact zc _
  · have e1 : Z - -(iE * (x * Z)) = Z * (1 - -(iE * x)) := by clear hj hk ea eb ec zc zk sq hM; grind -lia
    have e2:∀ u w:Fp,r'*u*nE*w=r'*(u*nE*w):=fun u w=>by clear hj hk ea eb ec zc zk sq hM;grind -lia
    rw[e1,e2]
    have hN':∀ u w:Fp,k*u*j*nE*(Z*w)=k*(u*nE*w):=fun u w=>by
      have:k*u*j*nE*(Z*w)=k*(u*nE*w)*(Z*j):=by clear hj hk ea eb ec zc zk sq hM e1 e2;grind -lia
      rw[this,hj];clear hj hk ea eb ec this zc zk sq hM e1 e2;grind -lia
    rw[hN',sq]
  · have e1 : Z - (iE * (x * Z)) = Z * (1 - (iE * x)) := by clear hj hk ea eb ec zc zk sq hM; grind -lia
    have e2:∀ u w:Fp,r'*u*nE*w=r'*(u*nE*w):=fun u w=>by clear hj hk ea eb ec zc zk sq hM;grind -lia
    rw[e1,e2]
    have hN':∀ u w:Fp,k*u*j*nE*(Z*w)=k*(u*nE*w):=fun u w=>by
      have:k*u*j*nE*(Z*w)=k*(u*nE*w)*(Z*j):=by clear hj hk ea eb ec zc zk sq hM e1 e2;grind -lia
      rw[this,hj];clear hj hk ea eb ec this zc zk sq hM e1 e2;grind -lia
    rw[hN',sq]
  · have e1 : Z - -(y * Z) = Z * (1 - -y) := by clear hj hk ea eb ec zc zk sq hM; grind -lia
    have e2:∀ u w:Fp,r'*u*w=r'*(u*w):=fun u w=>by clear hj hk ea eb ec zc zk sq hM;grind -lia
    rw[e1,e2,hM,sq]
  · have e1 : Z - y * Z = Z * (1 - y) := by clear hj hk ea eb ec zc zk sq hM; grind -lia
    have e2:∀ u w:Fp,r'*u*w=r'*(u*w):=fun u w=>by clear hj hk ea eb ec zc zk sq hM;grind -lia
    rw[e1,e2,hM,sq]
theorem enc_scale (x y Z : Fp) (hZ : Z ≠ 0) : encE (x * Z) (y * Z) Z (x * y * Z) = encE x y 1 (x * y) := by
  have hj:=fi_ok hZ
  generalize fi Z=j at hj
  have hv:(Z+y*Z)*(Z - y*Z)*(x*Z*(y*Z)*(x*Z*(y*Z)))=Z*Z*Z*(Z*Z*Z)*((1+y)*(1 - y)*(x*y*(x*y))):=by clear hj;grind -lia
  obtain⟨r0,h⟩:=rt_is 1 ((Z+y*Z)*(Z - y*Z)*(x*Z*(y*Z)*(x*Z*(y*Z))))
  unfold encE
  rw[hv] at h r0 ⊢
  generalize hv':(1+y)*(1 - y)*(x*y*(x*y))=v' at h r0 ⊢
  have z6:Z*Z*Z*(Z*Z*Z)≠0:=fmul_ne (fmul_ne (fmul_ne hZ hZ) hZ) (fmul_ne (fmul_ne hZ hZ) hZ)
  generalize hr:rtE 1 (Z*Z*Z*(Z*Z*Z)*v')=r at h r0 ⊢
  generalize rbE 1 (Z*Z*Z*(Z*Z*Z)*v')=b at h
  have is : IsRoot 1 v' (ab (r * (Z * Z * Z))) b := by
    refine⟨ab_ev _,?_⟩
    rcases h with⟨a,_,_⟩|⟨a,b0,c,d⟩|⟨a,b0,c,d⟩|⟨a,b0,c,d⟩
    · exact absurd a one_ne
    · refine .inr (.inl ⟨a, ?_, ?_, d⟩)
      · rcases fdiv b0 with h | h
        · exact absurd h z6
        · exact h
      · rw [c]
        have:(0:Fp)*(Z*Z*Z)=0:=by grind -lia
        rw[this,ab_id od_0]
    · refine .inr (.inr (.inl ⟨a, fun e => b0 (by rw [e]; grind -lia), c, ?_⟩))
      rw[ab_sq,← d];clear hv hv' hr b0 d hj;grind -lia
    · refine .inr (.inr (.inr ⟨a, fun e => b0 (by rw [e]; grind -lia), c, ?_⟩))
      rw[ab_sq,← d];clear hv hv' hr b0 d hj;grind -lia
  obtain⟨e,_⟩:=is_uniq is (rt_is 1 v')
  have:=enc_aux x y Z j (r*(Z*Z*Z)) (rtE 1 v') hj (by rw[← e,ab_sq])
  have e2:r*(Z*Z*Z)*(j*j*j)=r:=by
    have:r*(Z*Z*Z)*(j*j*j)=r*(Z*j)*(Z*j)*(Z*j):=by clear hj h hv hv' hr is e r0 z6 this;grind -lia
    rw[this,hj];clear hj h hv hv' hr is e r0 z6 this;grind -lia
  rw[e2] at this
  exact this
def enc (a:Pt):Fp:=encE a.x a.y 1 (a.x*a.y)
theorem enc_rep {X Y Z T:Fp} {a:Pt} (h:Rep X Y Z T a):encE X Y Z T=enc a:=by
  obtain⟨z,rfl,rfl,rfl⟩:=h
  unfold enc
  exact enc_scale _ _ _ z
theorem cond_ev {b:Bool} {x y:Fp} (hx:¬ od x) (hy:¬ od y):¬ od (cond b x y):=by
  cases b
  · exact hy
  · exact hx
theorem encC_ev (X Y Z T a b c:Fp):¬ od (encC X Y Z T a b c):=by
  unfold encC
  exact cond_ev (cond_ev (ab_ev _) (ab_ev _)) (cond_ev (ab_ev _) (ab_ev _))
theorem enc_ev (a:Pt):¬ od (enc a):=by
  unfold enc encE encR
  exact encC_ev _ _ _ _ _ _ _
end Go.Proofs.YtdebkddhpogkgaaGreat

set_option linter.unusedSimpArgs false
set_option linter.unusedVariables false
/-! The four points that count as one: which of them is written, and what comes back. -/
namespace Go.Proofs.YtdebkddhpogkgaaGreat
open Go.RowKit Go.Num
theorem i_mul (t:Fp):iE*(iE*t)= -t:=by
  have h:=i_sqE
  generalize iE=i at h
  have:i*(i*t)=i*i*t:=by clear h;grind -lia
  rw[this,h];clear h this;grind -lia
theorem i_sq2 (t:Fp):iE*t*(iE*t)= -(t*t):=by
  have h:=i_sqE
  generalize iE=i at h
  have:i*t*(i*t)=i*i*(t*t):=by clear h;grind -lia
  rw[this,h];clear h this;grind -lia
theorem nn1:(1:Fp)= - -1:=by grind -lia
theorem zz0:(0:Fp)*0=0:=by grind -lia
theorem ine:iE≠0:=fun h=>by
  have h1:=i_sqE
  rw[h,zz0] at h1
  exact one_ne (by rw[nn1,← h1,neg0])
def Pt.opp (a:Pt):Pt:=⟨-a.x,-a.y,by have:=a.on;unfold OnC at this ⊢; grind -lia⟩
def Pt.flip (a:Pt):Pt:=⟨iE*a.y,iE*a.x,by
  have h:=a.on
  unfold OnC at h ⊢
  have e1:=i_sq2 a.x
  have e2:=i_sq2 a.y
  have:dE*(iE*a.y)*(iE*a.y)*(iE*a.x)*(iE*a.x)=dE*(iE*a.y*(iE*a.y))*(iE*a.x*(iE*a.x)):=by clear h e1 e2;grind -lia
  rw[this,e1,e2];clear this e1 e2
  generalize dE=d at h ⊢
  grind -lia⟩
theorem opp_opp (a:Pt):a.opp.opp=a:=Pt.eq (show - -a.x=a.x by grind -lia) (show - -a.y=a.y by grind -lia)
theorem flip_flip (a:Pt):a.flip.flip=a.opp:=Pt.eq (i_mul _) (i_mul _)
theorem flip_opp (a:Pt):a.opp.flip=a.flip.opp:=Pt.eq (show iE* -a.y= -(iE*a.y) by grind -lia) (show iE* -a.x= -(iE*a.x) by grind -lia)
def pick (b:Pt):Pt:=if od b.x then b.opp else b
def can (a:Pt):Pt:=if a.x*a.y=0 then Pt.zero else if od (a.x*a.y) then pick a.flip else pick a
theorem pick_opp {b:Pt} (h:b.x≠0):pick b.opp=pick b:=by
  unfold pick
  have:=od_neg h
  by_cases h1:od b.x
  · rw[if_pos h1,if_neg (show ¬ od b.opp.x from fun h2=>this.1 h2 h1)]
  · rw[if_neg h1,if_pos (show od b.opp.x from this.2 h1),opp_opp]
theorem nz {a:Pt} (h:¬ a.x*a.y=0):a.x≠0∧a.y≠0:=⟨fun e=>h (by rw[e];grind -lia),fun e=>h (by rw[e];grind -lia)⟩
theorem opp_xy (a:Pt):a.opp.x*a.opp.y=a.x*a.y:=by show -a.x* -a.y=_;grind -lia
theorem flip_xy (a:Pt):a.flip.x*a.flip.y= -(a.x*a.y):=by
  show iE*a.y*(iE*a.x)=_
  have:iE*a.y*(iE*a.x)=iE*(iE*(a.x*a.y)):=by grind -lia
  rw[this,i_mul]
theorem flip_xne {a:Pt} (h:a.y≠0):a.flip.x≠0:=fmul_ne ine h
theorem can_opp (a:Pt):can a.opp=can a:=by
  unfold can
  rw[opp_xy]
  by_cases h:a.x*a.y=0
  · rw[if_pos h,if_pos h]
  · rw[if_neg h,if_neg h,flip_opp,pick_opp (nz h).1,pick_opp (flip_xne (nz h).2)]
theorem can_flip (a:Pt):can a.flip=can a:=by
  unfold can
  rw[flip_xy]
  by_cases h:a.x*a.y=0
  · rw[if_pos h,if_pos (by rw[h,neg0])]
  · have hn : ¬ -(a.x * a.y) = 0 := fun e => h (by have : a.x * a.y = - -(a.x * a.y) := by grind -lia
                                                   rw[this,e,neg0])
    rw[if_neg h,if_neg hn]
    have:=od_neg h
    by_cases h1:od (a.x*a.y)
    · rw[if_pos h1,if_neg (fun h2=>this.1 h2 h1)]
    · rw[if_neg h1,if_pos (this.2 h1),flip_flip,pick_opp (nz h).1]
def Cos (a b:Pt):Prop:=b=a∨b=a.opp∨b=a.flip∨b=a.flip.opp
theorem cos_can {a b:Pt} (h:Cos a b):can b=can a:=by
  rcases h with rfl|rfl|rfl|rfl
  · rfl
  · exact can_opp _
  · exact can_flip _
  · rw[can_opp,can_flip]
theorem pick_cos (a:Pt):pick a=a∨pick a=a.opp:=by
  unfold pick
  by_cases h:od a.x
  · exact .inr (if_pos h)
  · exact .inl (if_neg h)
theorem on_y {a:Pt} (h:a.x=0):a.y*a.y=1*1:=by
  have:=a.on
  unfold OnC at this
  rw[h] at this
  generalize dE=d at this
  grind -lia
theorem zero_of {b:Pt} (hx:b.x=0):Pt.zero=b∨Pt.zero=b.opp:=by
  rcases fsq (on_y hx) with h|h
  · exact .inl (Pt.eq hx.symm h.symm)
  · refine .inr (Pt.eq (show(0:Fp)= -b.x by rw[hx,neg0]) (show(1:Fp)= -b.y by rw[h];grind -lia))
theorem can_cos (a:Pt):Cos a (can a):=by
  unfold can
  by_cases h:a.x*a.y=0
  · rw [if_pos h]
    rcases fdiv h with h|h
    · rcases zero_of h with e | e
      · exact .inl e
      · exact .inr (.inl e)
    · have : a.flip.x = 0 := by show iE * a.y = 0; rw [h]; grind -lia
      rcases zero_of this with e|e
      · exact .inr (.inr (.inl e))
      · exact .inr (.inr (.inr e))
  · rw [if_neg h]
    by_cases h1:od (a.x*a.y)
    · rw [if_pos h1]
      rcases pick_cos a.flip with e|e
      · exact .inr (.inr (.inl e))
      · exact .inr (.inr (.inr e))
    · rw [if_neg h1]
      rcases pick_cos a with e|e
      · exact .inl e
      · exact .inr (.inl e)
end Go.Proofs.YtdebkddhpogkgaaGreat

set_option linter.unusedSimpArgs false
set_option linter.unusedVariables false
/-! Elements: what is written of them, and what is read. -/
namespace Go.Proofs.YtdebkddhpogkgaaGreat
open Go.RowKit Go.Num
def Evn (a:Pt):Prop:=∃ s,s*s=1 - a.y*a.y
theorem cT {α:Type} (x y:α):cond true x y=x:=rfl
theorem cF {α:Type} (x y:α):cond false x y=y:=rfl
theorem opp_x (a:Pt):a.opp.x= -a.x:=rfl
theorem opp_y (a:Pt):a.opp.y= -a.y:=rfl
theorem flip_x (a:Pt):a.flip.x=iE*a.y:=rfl
theorem flip_y (a:Pt):a.flip.y=iE*a.x:=rfl
theorem zero_x:Pt.zero.x=0:=rfl
theorem zero_y:Pt.zero.y=1:=rfl
theorem two_a:(2:Fp)=1+1:=by
  apply Fin.ext
  rfl
theorem two1:(1:Fp)+1≠0:=by rw[← two_a];exact two_fp
theorem mul1 (t:Fp):t*1=t:=by grind -lia
theorem ab0 {t:Fp} (h:t=0):ab t=0:=by rw[h,ab_id od_0]
theorem encC_0 (X Y Z T u1 u2:Fp):encC X Y Z T (0*u1) (0*u2) (0*u1*(0*u2)*T)=0:=by
  unfold encC
  rw[ab0 (t:=0*u1*nE*(Z - -(iE*X))) (by grind -lia),ab0 (t:=0*u1*nE*(Z - iE*X)) (by grind -lia),ab0 (t:=0*u2*(Z - -Y)) (by grind -lia),ab0 (t:=0*u2*(Z - Y)) (by grind -lia)]
  generalize ob _=p
  generalize ob _=q
  generalize ob _=r
  cases p<;>cases q<;>cases r<;>rfl
theorem enc_deg {a:Pt} (h:a.x*a.y=0):enc a=0:=by
  unfold enc encE
  rw[(rt_0 (v:=(1+a.y)*(1 - a.y)*(a.x*a.y*(a.x*a.y))) (by rw[h];grind -lia)).2]
  exact encC_0 _ _ _ _ _ _
theorem s_ne {a:Pt} {s:Fp} (hs:s*s=1 - a.y*a.y) (hx:a.x≠0):s≠0:=fun e=>by
  rw[e] at hs
  have on:=a.on
  unfold OnC at on
  have d1:=d1_ne
  generalize dE=d at on d1
  have:(1+d)*(a.x*a.x)=0:=by clear d1;grind -lia
  rcases fdiv this with h|h
  · exact d1 h
  · rcases fdiv h with h|h<;>exact hx h
theorem enc_in {x y r s:Fp} (hv:(1+y)*(1 - y)*(x*y*(x*y))*(r*r)=1):encR x y 1 (x*y) r ((1+y)*(1 - y)) (x*y)=encC x y 1 (x*y) (r*((1+y)*(1 - y))) (r*(x*y)) 1:=by
  unfold encR
  have:r*((1+y)*(1 - y))*(r*(x*y))*(x*y)=(1+y)*(1 - y)*(x*y*(x*y))*(r*r):=by clear hv;grind -lia
  rw[this,hv]
theorem sq1 {A p q:Fp} (h:A*A*(p*q)=1):A*p*(A*p)*q=p:=by
  have:A*p*(A*p)*q=A*A*(p*q)*p:=by clear h;grind -lia
  rw[this,h];clear h this;grind -lia
theorem enc_char {a : Pt} (h : Evn a) : enc a * enc a * (1 + (can a).y) = 1 - (can a).y := by
  by_cases hxy:a.x*a.y=0
  · rw [enc_deg hxy]
    unfold can
    rw[if_pos hxy]
    rw[zero_y]
    grind -lia
  · obtain ⟨s, hs⟩ := h
    have hs0:=s_ne hs (nz hxy).1
    have hv:(1+a.y)*(1 - a.y)*(a.x*a.y*(a.x*a.y))=s*(a.x*a.y)*(s*(a.x*a.y)):=by
      have e1:s*(a.x*a.y)*(s*(a.x*a.y))=s*s*(a.x*a.y*(a.x*a.y)):=by clear hs;grind -lia
      rw[e1,hs];clear hs e1;grind -lia
    have hr:=(rt_sq (fmul_ne hs0 hxy) hv).2
    unfold enc encE
    generalize rtE 1 ((1+a.y)*(1 - a.y)*(a.x*a.y*(a.x*a.y)))=r at hr ⊢
    rw[enc_in (s:=s) hr]
    have on:=a.on
    unfold OnC at on
    have nn2:=n_sq
    unfold can
    rw[if_neg hxy]
    unfold encC
    rw[mul1,mul1,mul1]
    have hu:r*r*(s*s)*(a.x*a.y*(a.x*a.y))=1:=by rw[← hr,hs];clear hr hs on nn2 hv;grind -lia
    by_cases h1:od (a.x*a.y)
    · rw [if_pos h1, ob_iff.2 h1]
      have key : r * ((1 + a.y) * (1 - a.y)) * nE * (r * ((1 + a.y) * (1 - a.y)) * nE) * (1 + a.x * a.x) = 1 := by
        have e0:(1+a.y)*(1 - a.y)=s*s:=by rw[hs];clear hr hs on nn2 hv hu;grind -lia
        have e1:s*s*(1+a.x*a.x)=(-1 - dE)*(a.x*a.y*(a.x*a.y)):=by
          rw[hs];clear hr hs nn2 hv hu e0;generalize dE=d at on ⊢; grind -lia
        have e2:r*(s*s)*nE*(r*(s*s)*nE)*(1+a.x*a.x)=nE*nE*(r*r)*(s*s)*(s*s*(1+a.x*a.x)):=by clear hr hs on nn2 hv hu e0 e1;grind -lia
        have e3:nE*nE*(r*r)*(s*s)*((-1 - dE)*(a.x*a.y*(a.x*a.y)))=nE*nE*(-1 - dE)*(r*r*(s*s)*(a.x*a.y*(a.x*a.y))):=by clear hr hs on nn2 hv hu e0 e1 e2;grind -lia
        rw[e0,e2,e1,e3,nn2,hu];clear hr hs on nn2 hv hu e0 e1 e2 e3;grind -lia
      have ii:=i_sq2 a.x
      have pm:(1 - iE*a.x)*(1 - -(iE*a.x))=1+a.x*a.x:=by
        have:(1 - iE*a.x)*(1 - -(iE*a.x))=1 - iE*a.x*(iE*a.x):=by clear hr hs on nn2 hv hu key ii;grind -lia
        rw[this,ii];clear hr hs on nn2 hv hu key ii this;grind -lia
      unfold pick
      by_cases h2:od (iE*a.y)
      · rw [if_pos (by rw [flip_x]; exact h2), ob_iff.2 h2, cT, cT, opp_y, flip_y]
        rw[ab_sq,show 1+ -(iE*a.x)=1 - iE*a.x by clear hr hs on nn2 hv hu key ii pm;grind -lia]
        apply sq1
        rw[show(1 - -(iE*a.x))*(1 - iE*a.x)=(1 - iE*a.x)*(1 - -(iE*a.x)) by clear hr hs on nn2 hv hu key ii pm;grind -lia,pm]
        exact key
      · rw [if_neg (by rw [flip_x]; exact h2), ob_no.2 h2, cT, cF, flip_y]
        rw[ab_sq,show 1+iE*a.x=1 - -(iE*a.x) by clear hr hs on nn2 hv hu key ii pm;grind -lia]
        apply sq1
        rw[pm]
        exact key
    · rw [if_neg h1, ob_no.2 h1]
      have key:∀ p q:Fp,p*q=s*s→r*(a.x*a.y)*(r*(a.x*a.y))*(p*q)=1:=fun p q e=>by
        rw[e,← hu];clear hr hs on nn2 hv hu e;grind -lia
      unfold pick
      by_cases h2:od a.x
      · rw [if_pos h2, ob_iff.2 h2, cF, cT, opp_y, ab_sq, show 1 + -a.y = 1 - a.y by clear hr hs on nn2 hv hu key; grind -lia]
        apply sq1
        apply key
        rw[hs];clear hr hs on nn2 hv hu key;grind -lia
      · rw [if_neg h2, ob_no.2 h2, cF, cF, ab_sq]
        apply sq1
        apply key
        rw[hs];clear hr hs on nn2 hv hu key;grind -lia
theorem pick_x (b:Pt):¬ od (pick b).x:=by
  unfold pick
  by_cases h:od b.x
  · rw [if_pos h]
    have h0:b.x≠0:=fun e=>by rw[e] at h;exact od_0 h
    rw[opp_x]
    exact fun h'=>(od_neg h0).1 h' h
  · rw[if_neg h];exact h
theorem pick_xy (b:Pt):(pick b).x*(pick b).y=b.x*b.y:=by
  rcases pick_cos b with e|e
  · rw[e]
  · rw[e,opp_xy]
theorem can_ok (a : Pt) : ¬ od (can a).x ∧ ¬ od ((can a).x * (can a).y) ∧ (can a).y ≠ 0 ∧ 1 + (can a).y ≠ 0 ∧ ((can a).x = 0 → can a = Pt.zero) := by
  unfold can
  by_cases hxy:a.x*a.y=0
  · rw [if_pos hxy]
    rw[zero_x,zero_y,mul1]
    exact⟨od_0,od_0,one_ne,two1,fun _=>rfl⟩
  · rw [if_neg hxy]
    have fin:∀ b:Pt,¬ b.x*b.y=0→¬ od (b.x*b.y)→¬ od (pick b).x∧¬ od ((pick b).x*(pick b).y)∧(pick b).y≠0∧1+(pick b).y≠0∧((pick b).x=0→pick b=Pt.zero):=fun b h0 h1=>by
      rw[pick_xy]
      have hp:¬(pick b).x*(pick b).y=0:=by rw[pick_xy];exact h0
      refine⟨pick_x b,h1,(nz hp).2,fun e=> ?_,fun e=>absurd e (nz hp).1⟩
      refine s_ne (a:=pick b) (s:=0) ?_ (nz hp).1 rfl
      have:(pick b).y= -1:=by grind -lia
      rw[this];grind -lia
    by_cases h1:od (a.x*a.y)
    · rw [if_pos h1]
      refine fin a.flip ?_ ?_
      · rw [flip_xy]; intro e
        apply hxy
        rw[show a.x*a.y= - -(a.x*a.y) by grind -lia,e,neg0]
      · rw[flip_xy,od_neg hxy];exact fun h=>h h1
    · rw [if_neg h1]
      exact fin a hxy h1
theorem dy_ne (y:Fp):1+dE*(y*y)≠0:=by
  have:=v_ne (y.val:Int)
  rw[fpV,fp_surj] at this
  rw[show 1+dE*(y*y)=dE*(y*y)+1 by grind -lia]
  exact this
theorem x_of {a b:Pt} (hy:a.y=b.y) (ha:¬ od a.x) (hb:¬ od b.x):a=b:=by
  refine Pt.eq (ev_uniq ha hb (fcan (dy_ne a.y) ?_)) hy
  have h1:=a.on
  have h2:=b.on
  unfold OnC at h1 h2
  rw[← hy] at h2
  generalize dE=d at h1 h2 ⊢
  clear hy ha hb
  grind -lia
theorem pqy (p q y:Fp):p - y+(q+y)=p+q:=by grind -lia
theorem gz {g y:Fp}:(1+g)*(1+y)=g*(1+y)+(1+y):=by grind -lia
theorem y_uniq {f y z:Fp} (h1:f*f*(1+y)=1 - y) (h2:f*f*(1+z)=1 - z):y=z:=by
  have hf:1+f*f≠0:=fun e=>two1 (by
    rw[← pqy 1 1 y,← h1,← gz,e]
    clear h1 h2 e;grind -lia)
  refine fcan hf ?_
  clear hf
  grind -lia
theorem f_uniq {f g y:Fp} (hy:1+y≠0) (hf:¬ od f) (hg:¬ od g) (h1:f*f*(1+y)=1 - y) (h2:g*g*(1+y)=1 - y):f=g:=
  ev_uniq hf hg (fcan hy (h1.trans h2.symm))
theorem enc_iff {a b:Pt} (ha:Evn a) (hb:Evn b):enc a=enc b↔can a=can b:=by
  constructor
  · intro h
    have h1:=enc_char ha
    have h2:=enc_char hb
    rw[← h] at h2
    exact x_of (y_uniq h1 h2) (can_ok a).1 (can_ok b).1
  · intro h
    have h1:=enc_char ha
    have h2:=enc_char hb
    rw[← h] at h2
    exact f_uniq (can_ok a).2.2.2.1 (enc_ev a) (enc_ev b) h1 h2
end Go.Proofs.YtdebkddhpogkgaaGreat

set_option linter.unusedSimpArgs false
set_option linter.unusedVariables false
/-! Sums of elements; what is decoded. -/
namespace Go.Proofs.YtdebkddhpogkgaaGreat
open Go.RowKit Go.Num
theorem z_mul (t:Fp):0*t=0:=by grind -lia
theorem mul_z (t:Fp):t*0=0:=by grind -lia
theorem sub1 (t:Fp):t - t=0:=by grind -lia
theorem sub0 (t:Fp):t - 0=t:=by grind -lia
theorem nm2 (t:Fp): -t* -t=t*t:=by grind -lia
theorem even_id {d K n s1 s2 e1 e2 y1 y2 D1 D2:Fp} (hK:K=1+d) (k0:K≠0) (hn:n*n*K= -1) (hy1:y1*y1=1 - s1*s1) (hy2:y2*y2=1 - s2*s2) (hD1:D1=K - d*(s1*s1)) (hD2:D2=K - d*(s2*s2)) (h1:e1*e1*D1=K) (h2:e2*e2*D2=K):
    (1 - d*(n*s1*e1)*(n*s2*e2)*y1*y2)*(1 - d*(n*s1*e1)*(n*s2*e2)*y1*y2) - (y1*y2+n*s1*e1*(n*s2*e2))*(y1*y2+n*s1*e1*(n*s2*e2))=(s1*y2*e2+s2*y1*e1)*(s1*y2*e2+s2*y1*e1):=by
  have d1:D1≠0:=fun e=>k0 (by rw[← h1,e];grind -lia)
  have d2:D2≠0:=fun e=>k0 (by rw[← h2,e];grind -lia)
  generalize hq:n*s1*e1*(n*s2*e2)=q
  have hKq:K*q= -(s1*s2*(e1*e2)):=by
    rw[← hq,show K*(n*s1*e1*(n*s2*e2))=n*n*K*(s1*s2*(e1*e2)) by clear hq hK hn hy1 hy2 hD1 hD2 h1 h2;grind -lia,hn]
    clear hq hK hn hy1 hy2 hD1 hD2 h1 h2;grind -lia
  have hq2:q*q*(D1*D2)=s1*s1*(s2*s2):=by
    refine fcan (fmul_ne k0 k0) ?_
    rw[show q*q*(D1*D2)*(K*K)=K*q*(K*q)*(D1*D2) by clear hq hK hn hy1 hy2 hD1 hD2 h1 h2 hKq;grind -lia,hKq]
    rw[show -(s1*s2*(e1*e2))* -(s1*s2*(e1*e2))*(D1*D2)=s1*s1*(s2*s2)*((e1*e1*D1)*(e2*e2*D2)) by clear hq hK hn hy1 hy2 hD1 hD2 h1 h2 hKq;grind -lia,h1,h2]
  have e0:d*(n*s1*e1)*(n*s2*e2)*y1*y2=d*q*(y1*y2):=by rw[← hq];clear hq hK hn hy1 hy2 hD1 hD2 h1 h2 hKq hq2;grind -lia
  rw[e0]
  have hP:y1*y2*(y1*y2)=(1 - s1*s1)*(1 - s2*s2):=by
    rw[show y1*y2*(y1*y2)=y1*y1*(y2*y2) by clear hq hK hn hy1 hy2 hD1 hD2 h1 h2 hKq hq2 e0;grind -lia,hy1,hy2]
  have a1:(1 - d*q*(y1*y2))*(1 - d*q*(y1*y2)) - (y1*y2+q)*(y1*y2+q)=1+d*d*(q*q)*(y1*y2*(y1*y2)) - y1*y2*(y1*y2) - q*q - 2*(K*q)*(y1*y2):=by
    rw[hK];clear hq hK hn hy1 hy2 hD1 hD2 h1 h2 hKq hq2 e0 hP;grind -lia
  have a2:(s1*y2*e2+s2*y1*e1)*(s1*y2*e2+s2*y1*e1)=s1*s1*(y2*y2)*(e2*e2)+s2*s2*(y1*y1)*(e1*e1)+2*(s1*s2*(e1*e2))*(y1*y2):=by
    clear hq hK hn hy1 hy2 hD1 hD2 h1 h2 hKq hq2 e0 hP a1;grind -lia
  rw[a1,a2,hKq,hP,hy1,hy2]
  clear a1 a2 e0 hP hKq hq hn
  generalize y1*y2=p
  generalize s1*s2*(e1*e2)=m
  generalize s1*s1=S at*
  generalize s2*s2=T at*
  generalize e1*e1=A at*
  generalize e2*e2=B at*
  generalize q*q=Q at*
  have fin:(1+d*d*Q*((1 - S)*(1 - T)) - (1 - S)*(1 - T) - Q)=S*(1 - T)*B+T*(1 - S)*A:=by
    refine fcan (fmul_ne d1 d2) ?_
    rw[show(1+d*d*Q*((1 - S)*(1 - T)) - (1 - S)*(1 - T) - Q)*(D1*D2)=(D1*D2) - (1 - S)*(1 - T)*(D1*D2)+(d*d*((1 - S)*(1 - T)) - 1)*(Q*(D1*D2)) by clear hq2 h1 h2 hD1 hD2 hK hy1 hy2;grind -lia]
    rw[show(S*(1 - T)*B+T*(1 - S)*A)*(D1*D2)=S*(1 - T)*D1*(B*D2)+T*(1 - S)*D2*(A*D1) by clear hq2 h1 h2 hD1 hD2 hK hy1 hy2;grind -lia]
    rw[hq2,h1,h2,hD1,hD2,hK]
    clear hq2 h1 h2 hD1 hD2 hK hy1 hy2 d1 d2 k0
    grind -lia
  rw[fin]
  clear fin hq2 h1 h2 hD1 hD2 hK hy1 hy2 d1 d2 k0
  grind -lia
theorem n_ne:nE≠0:=fun h=>by
  have h1:=n_sq
  rw[h] at h1
  have:(1:Fp)=0:=by rw[← h1];grind -lia
  exact one_ne this
theorem n_K:nE*nE*(1+dE)= -1:=by
  have h:=n_sq
  rw[show nE*nE*(-1 - dE)= -(nE*nE*(1+dE)) by clear h;grind -lia] at h
  generalize nE*nE*(1+dE)=t at h
  grind -lia
theorem lift {a : Pt} {s : Fp} (hs : s * s = 1 - a.y * a.y) : ∃ e, a.x = nE * s * e ∧ e * e * (1 + dE - dE * (s * s)) = 1 + dE := by
  by_cases hx:a.x=0
  · have h0 : s * s = 0 := by rw [hs, on_y hx, mul1, sub1]
    have s0:s=0:=by rcases fdiv h0 with h|h<;>exact h
    refine⟨1,?_,?_⟩
    · rw[hx,s0];grind -lia
    · rw[h0];grind -lia
  · have s0 := s_ne hs hx
    have hns:=fmul_ne n_ne s0
    have hj:=fi_ok hns
    have on:=a.on
    unfold OnC at on
    have hn:=n_K
    generalize dE=d at on hn ⊢
    have ex:a.x=nE*s*(a.x*fi (nE*s)):=by
      rw[show nE*s*(a.x*fi (nE*s))=a.x*(nE*s*fi (nE*s)) by clear hj hs on hn;grind -lia,hj];clear hj hs on hn;grind -lia
    generalize a.x*fi (nE*s)=e at ex
    refine⟨e,ex,fcan (fmul_ne s0 s0) ?_⟩
    have h1 : s * s * (e * e) = -((1 + d) * (a.x * a.x)) := by
      have h2:(1+d)*(a.x*a.x)=nE*nE*(1+d)*(s*s*(e*e)):=by
        conv=>lhs;rw[ex]
        clear hj hs on hn ex;grind -lia
      rw[h2,hn];clear hj hs on hn ex h2;grind -lia
    rw[show e*e*(1+d - d*(s*s))*(s*s)=s*s*(e*e)*(1+d - d*(s*s)) by clear hj hs on hn ex h1;grind -lia,h1,hs]
    clear hj hn ex h1 hs
    have h3:a.x*a.x*(1+d*(a.y*a.y))= -(1 - a.y*a.y):=by grind -lia
    rw[show -((1+d)*(a.x*a.x))*(1+d - d*(1 - a.y*a.y))= -((1+d)*(a.x*a.x*(1+d*(a.y*a.y)))) by clear h3 on;grind -lia,h3]
    clear h3 on;grind -lia
theorem evn_add {a b:Pt} (ha:Evn a) (hb:Evn b):Evn (a.add b):=by
  obtain⟨s1,h1⟩:=ha
  obtain⟨s2,h2⟩:=hb
  obtain⟨e1,x1,k1⟩:=lift h1
  obtain⟨e2,x2,k2⟩:=lift h2
  have hy:=Pt.add_y a b
  have um:=Pt.um a b
  have hj:=fi_ok um
  have id:=even_id (d:=dE) (K:=1+dE) (n:=nE) (s1:=s1) (s2:=s2) (e1:=e1) (e2:=e2) (y1:=a.y) (y2:=b.y) rfl d1_ne n_K (by rw[h1];clear hy um hj x1 x2 k1 k2 h1 h2;grind -lia) (by rw[h2];clear hy um hj x1 x2 k1 k2 h1 h2;grind -lia) rfl rfl k1 k2
  rw[← x1,← x2] at id
  generalize hs:a.add b=c at hy ⊢
  clear hs
  have hu:dE*a.x*b.x*a.y*b.y=Pt.u a b:=rfl
  rw[hu] at id
  refine⟨(s1*b.y*e2+s2*a.y*e1)*fi (1 - Pt.u a b),fcan (fmul_ne um um) ?_⟩
  generalize fi (1 - Pt.u a b)=j at hj
  generalize s1*b.y*e2+s2*a.y*e1=G at id ⊢
  rw[show G*j*(G*j)*((1 - Pt.u a b)*(1 - Pt.u a b))=G*G*((1 - Pt.u a b)*j)*((1 - Pt.u a b)*j) by clear hj hy um id x1 x2 k1 k2 h1 h2;grind -lia,hj,← id]
  rw[show(1 - c.y*c.y)*((1 - Pt.u a b)*(1 - Pt.u a b))=(1 - Pt.u a b)*(1 - Pt.u a b) - c.y*(1 - Pt.u a b)*(c.y*(1 - Pt.u a b)) by clear hj hy um id x1 x2 k1 k2 h1 h2;grind -lia,hy]
  clear hj hy um id x1 x2 k1 k2 h1 h2;grind -lia
theorem evn_zero:Evn Pt.zero:=⟨0,by rw[zero_y,mul1,zz0,sub1]⟩
theorem evn_ozero:Evn Pt.zero.opp:=⟨0,by rw[opp_y,zero_y,nm2,mul1,zz0,sub1]⟩
theorem evn_fzero:Evn Pt.zero.flip:=⟨1,by rw[flip_y,zero_x,mul_z,zz0,sub0,mul1]⟩
theorem evn_fozero:Evn Pt.zero.flip.opp:=⟨1,by rw[opp_y,flip_y,zero_x,mul_z,nm2,zz0,sub0,mul1]⟩
theorem add_ozero (a:Pt):a.add Pt.zero.opp=a.opp:=by
  refine(Pt.add_of ?_ ?_).symm
  · unfold Pt.u Pt.opp Pt.zero;simp only;generalize dE=d;grind -lia
  · unfold Pt.u Pt.opp Pt.zero;simp only;generalize dE=d;grind -lia
theorem add_fzero (a:Pt):a.add Pt.zero.flip=a.flip:=by
  refine(Pt.add_of ?_ ?_).symm
  · unfold Pt.u Pt.flip Pt.zero;simp only;generalize dE=d;grind -lia
  · unfold Pt.u Pt.flip Pt.zero;simp only;generalize dE=d;grind -lia
theorem add_fozero (a:Pt):a.add Pt.zero.flip.opp=a.flip.opp:=by
  rw[← add_ozero Pt.zero.flip,← Pt.add_assoc,add_fzero,add_ozero]
theorem cos_add {a b:Pt} (h:Cos a b):∃ t,Evn t∧b=a.add t∧∀ c:Pt,Cos (c.add a) (c.add b):=by
  rcases h with rfl|rfl|rfl|rfl
  · exact⟨_,evn_zero,(Pt.add_zero _).symm,fun c=> .inl rfl⟩
  · exact⟨_,evn_ozero,(add_ozero _).symm,fun c=> .inr (.inl (by rw[← add_ozero (Pt.add c _),Pt.add_assoc,add_ozero]))⟩
  · exact⟨_,evn_fzero,(add_fzero _).symm,fun c=> .inr (.inr (.inl (by rw[← add_fzero (Pt.add c _),Pt.add_assoc,add_fzero])))⟩
  · exact⟨_,evn_fozero,(add_fozero _).symm,fun c=> .inr (.inr (.inr (by rw[← add_fozero (Pt.add c _),Pt.add_assoc,add_fozero])))⟩
theorem evn_cos {a b:Pt} (ha:Evn a) (h:Cos a b):Evn b:=by
  obtain⟨t,ht,rfl,_⟩:=cos_add h
  exact evn_add ha ht
theorem enc_cos {a b:Pt} (ha:Evn a) (h:Cos a b):enc b=enc a:=(enc_iff (evn_cos ha h) ha).2 (cos_can h)
def dU (f:Fp):Fp:=1 - f*f
def dW (f:Fp):Fp:=1+f*f
def dV (f:Fp):Fp:= -(dE*(dU f*dU f)+dW f*dW f)
def dR (f:Fp):Fp:=rtE 1 (dV f*(dW f*dW f))
def dB (f:Fp):Bool:=rbE 1 (dV f*(dW f*dW f))
def dX (f:Fp):Fp:=ab ((f+f)*(dR f*dW f))
def dY (f:Fp):Fp:=dU f*(dR f*(dR f*dW f)*dV f)
theorem dB_ok {f:Fp} (h:dB f=true):dV f*(dW f*dW f)≠0∧dV f*(dW f*dW f)*(dR f*dR f)=1:=by
  obtain⟨_,h1⟩:=rt_is 1 (dV f*(dW f*dW f))
  have h':rbE 1 (dV f*(dW f*dW f))=true:=h
  rcases h1 with⟨a,b,c⟩|⟨a,b,c,d⟩|⟨a,b,c,d⟩|⟨a,b,c,d⟩
  · exact absurd a one_ne
  · rw[h'] at d;cases d
  · exact⟨b,d⟩
  · rw[h'] at c;cases c
theorem dec_eqs {f:Fp} (h:dB f=true):dW f≠0∧dV f≠0∧dY f*dW f=dU f∧dX f*dX f*dV f=4*(f*f):=by
  obtain⟨h0,h1⟩:=dB_ok h
  refine⟨fun e=>h0 (by rw[e];grind -lia),fun e=>h0 (by rw[e];grind -lia),?_,?_⟩
  · unfold dY
    rw[show dU f*(dR f*(dR f*dW f)*dV f)*dW f=dU f*(dV f*(dW f*dW f)*(dR f*dR f)) by clear h1;grind -lia,h1];grind -lia
  · unfold dX
    rw[ab_sq,show(f+f)*(dR f*dW f)*((f+f)*(dR f*dW f))*dV f=4*(f*f)*(dV f*(dW f*dW f)*(dR f*dR f)) by clear h1;grind -lia,h1];grind -lia
theorem dec_on {f:Fp} (h:dB f=true):OnC (dX f) (dY f):=by
  obtain⟨w0,v0,hy,hx⟩:=dec_eqs h
  unfold OnC
  have hv:dV f= -(dE*(dU f*dU f)+dW f*dW f):=rfl
  have hd:dW f*dW f - dU f*dU f=4*(f*f):=by unfold dW dU;grind -lia
  generalize dE=d at hv ⊢
  generalize dX f=x at hx ⊢
  generalize dY f=y at hy ⊢
  generalize dV f=v at hv hx v0
  generalize dW f=w at hv hy w0 hd
  generalize dU f=u at hv hy hd
  generalize f*f=g at hx hd
  have:(d*x*x*y*y - (y*y - x*x - 1))*(v*(w*w))=0:=by
    rw[show(d*x*x*y*y - (y*y - x*x - 1))*(v*(w*w))=d*(x*x*v)*((y*w)*(y*w)) - (y*w)*(y*w)*v+x*x*v*(w*w)+v*(w*w) by clear hv hy hd hx;grind -lia,hx,hy]
    clear hx hy
    grind -lia
  rcases fdiv this with e|e
  · exact e
  · exact absurd e (fmul_ne v0 (fmul_ne w0 w0))
def decP (f:Fp) (h:dB f=true):Pt:=⟨dX f,dY f,dec_on h⟩
def decOk (f:Fp):Prop:=dB f=true∧¬ od (dX f*dY f)∧dY f≠0
theorem enc_dec {a : Pt} (h : Evn a) : decOk (enc a) ∧ ∀ hb : dB (enc a) = true, decP (enc a) hb = can a := by
  have hf:=enc_char h
  obtain⟨cx,cxy,cy,cy1,c0⟩:=can_ok a
  have on:=(can a).on
  unfold OnC at on
  generalize hc:can a=c at*
  generalize enc a=f at hf
  have hw:dW f*(1+c.y)=2:=by unfold dW;rw[show(1+f*f)*(1+c.y)=1+c.y+f*f*(1+c.y) by clear hf on;grind -lia,hf];clear hf on;grind -lia
  have hu:dU f*(1+c.y)=2*c.y:=by unfold dU;rw[show(1 - f*f)*(1+c.y)=1+c.y - f*f*(1+c.y) by clear hf on;grind -lia,hf];clear hf on;grind -lia
  have w0:dW f≠0:=fun e=>two_fp (by rw[← hw,e];exact z_mul _)
  have hyw:c.y*dW f=dU f:=by
    refine fcan cy1 ?_
    rw[show c.y*dW f*(1+c.y)=c.y*(dW f*(1+c.y)) by clear hf on hw hu;grind -lia,hw,hu];clear hf on hw hu;grind -lia
  -- v as a square
  have hv : ∃ k, k ≠ 0 ∧ dV f = k * k ∧ c.x * k * (c.x * k) = 4 * (f * f) := by
    by_cases hx:c.x=0
    · have hz := c0 hx
      have y1:c.y=1:=by rw[hz];rfl
      have ff:f*f=0:=by
        rw[y1] at hf
        have:f*f*(1+1)=0:=by rw[hf,sub1]
        rcases fdiv this with e|e
        · exact e
        · exact absurd e two1
      refine⟨mE,?_,?_,?_⟩
      · intro e
        apply d1_ne
        have m2:=m_sq
        rw[e] at m2
        have:1+dE= -(-1 - dE):=by clear m2 on hw hu;grind -lia
        rw[this,← m2];clear on hw hu m2;grind -lia
      · rw[m_sq];unfold dV dU dW;rw[ff];clear on hw hu hf;grind -lia
      · rw[hx,ff];clear on hw hu hf;grind -lia
    · have hj := fi_ok hx
      have f0:f≠0:=fun e=>by
        rw[e] at hf
        have y1:c.y=1:=by clear on hw hu;grind -lia
        refine s_ne (a:=c) (s:=0) ?_ hx rfl
        rw[y1,zz0,mul1,sub1]
      have hvx : dV f * (c.x * c.x) = 4 * (f * f) := by
        refine fcan (fmul_ne cy1 cy1) ?_
        have e1:dV f*(c.x*c.x)*((1+c.y)*(1+c.y))= -(dE*((dU f*(1+c.y))*(dU f*(1+c.y)))+(dW f*(1+c.y))*(dW f*(1+c.y)))*(c.x*c.x):=by
          unfold dV;clear on hw hu hf hj;grind -lia
        rw[e1,hu,hw]
        have e2:4*(f*f)*((1+c.y)*(1+c.y))=4*(f*f*(1+c.y))*(1+c.y):=by clear on hw hu hf hj e1;grind -lia
        rw[e2,hf]
        clear hw hu hf hj e1 e2
        generalize dE=d at on ⊢
        grind -lia
      refine⟨2*f*fi c.x,?_,?_,?_⟩
      · exact fmul_ne (fmul_ne two_fp f0) (fun e=>one_ne (by rw[← hj,e];grind -lia))
      · refine fcan (fmul_ne hx hx) ?_
        rw[hvx,show 2*f*fi c.x*(2*f*fi c.x)*(c.x*c.x)=4*(f*f)*(c.x*fi c.x)*(c.x*fi c.x) by clear on hw hu hf hj hvx;grind -lia,hj];clear on hw hu hf hj hvx;grind -lia
      · rw[show c.x*(2*f*fi c.x)*(c.x*(2*f*fi c.x))=4*(f*f)*(c.x*fi c.x)*(c.x*fi c.x) by clear on hw hu hf hj hvx;grind -lia,hj];clear on hw hu hf hj hvx;grind -lia
  obtain⟨k,k0,hk,hxk⟩:=hv
  have hb:dB f=true:=(rt_sq (fmul_ne k0 w0) (by rw[hk];clear hxk hk hf on hw hu;grind -lia)).1
  obtain⟨_,v0,hy,hx⟩:=dec_eqs hb
  have ey:dY f=c.y:=fcan w0 (hy.trans hyw.symm)
  have ex:dX f=c.x:=by
    refine ev_uniq (ab_ev _) cx (fcan v0 ?_)
    rw[hx,hk,← hxk];clear hxk hk hf on hw hu hx;grind -lia
  refine⟨⟨hb,by rw[ex,ey];exact cxy,by rw[ey];exact cy⟩,fun hb'=>Pt.eq ex ey⟩
end Go.Proofs.YtdebkddhpogkgaaGreat

set_option linter.unusedSimpArgs false
set_option linter.unusedVariables false
/-! Half of a map: a point, and an element. -/
namespace Go.Proofs.YtdebkddhpogkgaaGreat
open Go.RowKit Go.Num
def hR (t:Fp):Fp:=iE*(t*t)
def hU (r:Fp):Fp:=(r+1)*(1 - dE*dE)
def hV (r:Fp):Fp:= -(1+r*dE)*(r+dE)
def hS (t:Fp):Fp:=cond (rbE (hU (hR t)) (hV (hR t))) (rtE (hU (hR t)) (hV (hR t))) (-(ab (rtE (hU (hR t)) (hV (hR t))*t)))
def hC (t:Fp):Fp:=cond (rbE (hU (hR t)) (hV (hR t))) (-1) (hR t)
end Go.Proofs.YtdebkddhpogkgaaGreat
