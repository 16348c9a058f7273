import Derived.Test.YtdebkddhpogkgaaGreatZASarsMthAll
import Derived.Test.YtdebkddhpogkgaaGreatZASarsEdId
/-! The field of p as a type; the curve's points and their sum. -/
namespace Go.Proofs.YtdebkddhpogkgaaGreat
open Go.RowKit Go.Num
def prM:Nat:=57896044618658097711785492504343953926634992332820282019728792003956564819948
abbrev Fp:=Fin (prM+1)
theorem pr_natM:pr=((prM+1:Nat):Int):=rfl
theorem toNat_lt (x:Int):(x%pr).toNat<prM+1:=by
  have h:0≤x%pr∧x%pr<pr:=by unfold pr;omega
  have h2:=h.2
  rw[pr_natM] at h2
  exact(Int.toNat_lt h.1).2 h2
def fp (x:Int):Fp:=⟨(x%pr).toNat,toNat_lt x⟩
theorem fp_val (x:Int):((fp x).val:Int)=x%pr:=by
  have h:0≤x%pr:=by unfold pr;omega
  show(((x%pr).toNat:Nat):Int)=x%pr
  omega
theorem fp_eq {x y:Int}:fp x=fp y↔x%pr=y%pr:=by
  constructor
  · intro h
    rw[← fp_val,← fp_val,h]
  · intro h
    apply Fin.ext
    have:=fp_val x
    have:=fp_val y
    omega
theorem fp_mod (x:Int):fp (x%pr)=fp x:=fp_eq.2 (emm x)
theorem fp_mul (x y:Int):fp (x*y)=fp x*fp y:=by
  apply Fin.ext
  apply Int.ofNat.inj
  show(((fp (x*y)).val:Nat):Int)=(((fp x*fp y).val:Nat):Int)
  rw[fp_val,Fin.val_mul,Int.natCast_emod,Int.natCast_mul,fp_val,fp_val,← pr_natM,eml,emr]
theorem fp_add (x y:Int):fp (x+y)=fp x+fp y:=by
  apply Fin.ext
  apply Int.ofNat.inj
  show(((fp (x+y)).val:Nat):Int)=(((fp x+fp y).val:Nat):Int)
  rw[fp_val,Fin.val_add,Int.natCast_emod,Int.natCast_add,fp_val,fp_val,← pr_natM,eal,ear]
theorem fp_sub (x y:Int):fp (x - y)=fp x - fp y:=by
  have h:=fp_add (x - y) y
  rw[show x - y+y=x by omega] at h
  rw[h]
  grind -lia
theorem fp_zero:fp 0=0:=by
  apply Fin.ext
  rfl
theorem fp_neg (x:Int):fp (-x)= -fp x:=by
  have h:=fp_sub 0 x
  rw[fp_zero,show(0:Int) - x= -x by omega] at h
  rw[h]
  grind -lia
theorem fp_one:fp 1=1:=by
  apply Fin.ext
  rfl
theorem fp_surj (a:Fp):fp (a.val:Int)=a:=by
  apply Fin.ext
  have h1:=fp_val (a.val:Int)
  have h2:((a.val:Int))%pr=a.val:=Int.emod_eq_of_lt (by omega) (by rw[pr_natM];exact Int.ofNat_lt.2 a.isLt)
  omega
theorem fp_ne0 {x:Int}:fp x≠0↔x%pr≠0:=by
  rw[← fp_zero,Ne,fp_eq]
  exact Iff.rfl
theorem fp_eq0 {x:Int}:fp x=0↔x%pr=0:=by
  rw[← fp_zero,fp_eq]
  exact Iff.rfl
theorem fdiv {a b:Fp} (h:a*b=0):a=0∨b=0:=by
  rw[← fp_surj a,← fp_surj b] at h ⊢
  rw[← fp_mul,fp_eq0] at h
  rcases no_div _ _ h with h|h
  · exact .inl (fp_eq0.2 h)
  · exact .inr (fp_eq0.2 h)
theorem fmul_ne {a b:Fp} (ha:a≠0) (hb:b≠0):a*b≠0:=fun h=>by
  rcases fdiv h with h|h
  · exact ha h
  · exact hb h
def fi (a:Fp):Fp:=fp (invF (a.val:Int))
theorem fi_fp (x:Int):fp (invF x)=fi (fp x):=by
  unfold fi
  rw[fp_val]
  unfold invF
  rw[pm_mod]
theorem fi_ok {a:Fp} (h:a≠0):a*fi a=1:=by
  have h1:(a.val:Int)%pr≠0:=by rw[← fp_ne0,fp_surj];exact h
  have h2:=inv_ok _ h1
  have h3:fp ((a.val:Int)*invF (a.val:Int))=fp 1:=fp_eq.2 (by rw[h2];rfl)
  rw[fp_mul,fp_surj,fp_one] at h3
  exact h3
theorem fcan {a b c:Fp} (h:c≠0) (e:a*c=b*c):a=b:=by
  have:=fi_ok h
  have h1:a*(c*fi c)=b*(c*fi c):=by grind -lia
  rw[this] at h1
  grind -lia
theorem two_fp:(2:Fp)≠0:=by
  have:fp 2≠0:=fp_ne0.2 two_ne
  have h:fp 2=2:=by
    apply Fin.ext
    rfl
  rwa[h] at this
theorem fsq {a b:Fp} (h:a*a=b*b):a=b∨a= -b:=by
  have h1:(a - b)*(a+b)=0:=by grind -lia
  rcases fdiv h1 with h|h
  · left;grind -lia
  · right;grind -lia
def dN:Int:=37095705934669439343138083508754565189542113879843219016388785533085940283555
def dE:Fp:=fp dN
def iE:Fp:=fp iNum
theorem i_sqE:iE*iE= -1:=by
  unfold iE
  rw[← fp_mul,← fp_one,← fp_neg,fp_eq]
  exact i_sq
theorem d_half:fpw 37095705934669439343138083508754565189542113879843219016388785533085940283555 prN 256 hN=prN - 1:=by kernel_rfl
theorem d_nonsq (s:Fp):s*s≠dE:=by
  intro h
  by_cases hs:s=0
  · subst hs
    have h0:dE=0:=by grind -lia
    exact absurd (fp_eq0.1 h0) (by unfold dN pr;decide)
  rw[← fp_surj s] at h hs
  generalize(s.val:Int)=x at h hs
  unfold dE at h
  rw[← fp_mul,fp_eq] at h
  have h1:=sq_half x (fp_ne0.1 hs)
  rw[← pm_mod,h,pm_mod] at h1
  have h2:pm dN hN=((prN - 1:Nat):Int):=by
    rw[show dN=((37095705934669439343138083508754565189542113879843219016388785533085940283555:Nat):Int) from rfl,pm_nat,← fpw_eq _ _ 256 hN (by unfold hN prN;decide),d_half]
  rw[h2] at h1
  exact absurd h1 (by unfold prN;decide)
def OnC (x y:Fp):Prop:=dE*x*x*y*y - (y*y - x*x - 1)=0
structure Pt where
  x:Fp
  y:Fp
  on:OnC x y
theorem Pt.eq {p q:Pt} (hx:p.x=q.x) (hy:p.y=q.y):p=q:=by
  cases p;cases q;simp at hx hy;subst hx hy;rfl
theorem compl {x1 y1 x2 y2:Fp} (h1:OnC x1 y1) (h2:OnC x2 y2) (u:Fp) (hu:u=dE*x1*x2*y1*y2):u*u≠1:=by
  intro hsq
  unfold OnC at h1 h2
  have hi:=i_sqE
  have hu0:u≠0:=by
    intro h
    rw[h] at hsq
    have h0:(0:Fp)=1:=by grind -lia
    exact absurd h0 (by intro h;have:=congrArg Fin.val h;revert this;unfold prM;decide)
  have hx1:x1≠0:=by intro h;apply hu0;rw[hu,h];grind -lia
  have hy1:y1≠0:=by intro h;apply hu0;rw[hu,h];grind -lia
  have hy2:y2≠0:=by intro h;apply hu0;rw[hu,h];grind -lia
  have key:∀ c:Fp,c*c= -1→y2+c*x2=0:=by
    intro c hc
    refine Classical.byContradiction fun hne=> ?_
    have hk:x1*y1*(y2+c*x2)≠0:=fmul_ne (fmul_ne hx1 hy1) hne
    have hid:(y1+c*u*x1)*(y1+c*u*x1)=dE*(x1*y1*(y2+c*x2))*(x1*y1*(y2+c*x2)):=ed_compl dE x1 y1 x2 y2 u c h1 h2 hu hsq hc
    have hf:=fi_ok hk
    generalize x1*y1*(y2+c*x2)=k at hk hid hf
    apply d_nonsq ((y1+c*u*x1)*fi k)
    generalize y1+c*u*x1=z at hid ⊢
    clear h1 h2 hu hsq hi hc hne
    have:z*fi k*(z*fi k)=dE*(k*fi k)*(k*fi k):=by grind -lia
    rw[this,hf]
    grind -lia
  have k1:=key iE hi
  have k2:=key (-iE) (by grind -lia)
  apply hy2
  have:(2:Fp)*y2=0:=by grind -lia
  rcases fdiv this with h|h
  · exact absurd h two_fp
  · exact h
theorem compl_p {x1 y1 x2 y2:Fp} (h1:OnC x1 y1) (h2:OnC x2 y2):1+dE*x1*x2*y1*y2≠0:=fun h=>
  compl h1 h2 _ rfl (by grind -lia)
theorem compl_m {x1 y1 x2 y2:Fp} (h1:OnC x1 y1) (h2:OnC x2 y2):1 - dE*x1*x2*y1*y2≠0:=fun h=>
  compl h1 h2 _ rfl (by grind -lia)
theorem close_on {x1 y1 x2 y2 x y:Fp} (h1:OnC x1 y1) (h2:OnC x2 y2) (hx:x*(1+dE*x1*x2*y1*y2)=x1*y2+x2*y1) (hy:y*(1 - dE*x1*x2*y1*y2)=y1*y2+x1*x2):OnC x y:=by
  have hp:=compl_p h1 h2
  have hm:=compl_m h1 h2
  have e:=ed_close dE x1 y1 x2 y2 h1 h2
  unfold OnC
  rw[← hx,← hy] at e
  generalize dE*x1*x2*y1*y2=u at hp hm e
  clear hx hy h1 h2
  have:(dE*x*x*y*y - (y*y - x*x - 1))*((1+u)*(1+u)*((1-u)*(1-u)))=0:=by grind -lia
  rcases fdiv this with h|h
  · exact h
  · exact absurd h (fmul_ne (fmul_ne hp hp) (fmul_ne hm hm))
end Go.Proofs.YtdebkddhpogkgaaGreat

/-! The group of the curve's points. -/
namespace Go.Proofs.YtdebkddhpogkgaaGreat
open Go.RowKit Go.Num
theorem fquot {a b:Fp} (h:b≠0):a*fi b*b=a:=by
  have:=fi_ok h
  have h1:a*fi b*b=a*(b*fi b):=by clear this;grind -lia
  rw[h1,this]
  clear this h1
  grind -lia
namespace Pt
def u (p q:Pt):Fp:=dE*p.x*q.x*p.y*q.y
theorem up (p q:Pt):1+u p q≠0:=compl_p p.on q.on
theorem um (p q:Pt):1 - u p q≠0:=compl_m p.on q.on
def add (p q:Pt):Pt:=⟨(p.x*q.y+q.x*p.y)*fi (1+u p q),(p.y*q.y+p.x*q.x)*fi (1 - u p q),close_on p.on q.on (fquot (up p q)) (fquot (um p q))⟩
theorem add_x (p q:Pt):(add p q).x*(1+u p q)=p.x*q.y+q.x*p.y:=fquot (up p q)
theorem add_y (p q:Pt):(add p q).y*(1 - u p q)=p.y*q.y+p.x*q.x:=fquot (um p q)
theorem add_of {p q s:Pt} (hx:s.x*(1+u p q)=p.x*q.y+q.x*p.y) (hy:s.y*(1 - u p q)=p.y*q.y+p.x*q.x):s=add p q:=
  Pt.eq (fcan (up p q) (by rw[hx,add_x])) (fcan (um p q) (by rw[hy,add_y]))
theorem on_zero {n:Nat} [NeZero n] (d z o:Fin n) (hz:z=0) (ho:o=1):d*z*z*o*o - (o*o - z*z - 1)=0:=by grind -lia
def zero:Pt:=⟨0,1,on_zero _ _ _ rfl rfl⟩
theorem u_comm (p q:Pt):u p q=u q p:=by unfold u;grind -lia
theorem add_comm (p q:Pt):add p q=add q p:=by
  refine(add_of ?_ ?_).symm
  · rw[u_comm,add_x];grind -lia
  · rw[u_comm,add_y];grind -lia
theorem add_zero (p:Pt):add p zero=p:=by
  refine(add_of ?_ ?_).symm
  · unfold u zero;simp only;grind -lia
  · unfold u zero;simp only;grind -lia
theorem zero_add (p:Pt):add zero p=p:=by rw[add_comm,add_zero]
theorem mix (a b x y u A B:Fp) (d:Fp) (hx:a*(1+u)=A) (hy:b*(1 - u)=B):(1+d*a*x*b*y)*((1+u)*(1 - u))=(1+u)*(1 - u)+d*(A*B)*(x*y):=by
  subst hx hy;grind -lia
theorem mix' (a b x y u A B:Fp) (d:Fp) (hx:a*(1+u)=A) (hy:b*(1 - u)=B):(1 - d*a*x*b*y)*((1+u)*(1 - u))=(1+u)*(1 - u) - d*(A*B)*(x*y):=by
  subst hx hy;grind -lia
theorem mixN (a b x y u A B:Fp) (hx:a*(1+u)=A) (hy:b*(1 - u)=B):(a*y+x*b)*((1+u)*(1 - u))=A*(1 - u)*y+B*(1+u)*x:=by
  subst hx hy;grind -lia
theorem mixM (a b x y u A B:Fp) (hx:a*(1+u)=A) (hy:b*(1 - u)=B):(b*y+a*x)*((1+u)*(1 - u))=B*(1+u)*y+A*(1 - u)*x:=by
  subst hx hy;grind -lia
theorem cross (s t D1 D2 k1 k2 e1 e2 N1 N2:Fp) (h1:s*D1=N1) (h2:t*D2=N2) (n1:D1≠0) (n2:D2≠0) (nk1:k1≠0) (nk2:k2≠0) (he1:D1*k1=e1) (he2:D2*k2=e2) (hx:(N1*k1)*e2=(N2*k2)*e1):s=t:=by
  subst h1 h2 he1 he2
  refine fcan (c:=D1*k1*(D2*k2)) (fmul_ne (fmul_ne n1 nk1) (fmul_ne n2 nk2)) ?_
  have a1:s*(D1*k1*(D2*k2))=s*D1*k1*(D2*k2):=by clear hx;grind -lia
  have a2:t*(D1*k1*(D2*k2))=t*D2*k2*(D1*k1):=by clear hx;grind -lia
  rw[a1,a2,hx]
theorem add_assoc (p q r:Pt):add (add p q) r=add p (add q r):=by
  have hx:=add_x p q
  have hy:=add_y p q
  have hx':=add_x q r
  have hy':=add_y q r
  rw[add_comm p (add q r)]
  apply Pt.eq
  · refine cross _ _ _ _ _ _ _ _ _ _ (add_x (add p q) r) (add_x (add q r) p) (up _ _) (up _ _) (fmul_ne (up p q) (um p q)) (fmul_ne (up q r) (um q r)) (mix _ _ _ _ _ _ _ _ hx hy) (mix _ _ _ _ _ _ _ _ hx' hy') ?_
    rw[mixN _ _ _ _ _ _ _ hx hy,mixN _ _ _ _ _ _ _ hx' hy']
    exact ed_asx dE p.x p.y q.x q.y r.x r.y p.on q.on r.on
  · refine cross _ _ _ _ _ _ _ _ _ _ (add_y (add p q) r) (add_y (add q r) p) (um _ _) (um _ _) (fmul_ne (up p q) (um p q)) (fmul_ne (up q r) (um q r)) (mix' _ _ _ _ _ _ _ _ hx hy) (mix' _ _ _ _ _ _ _ _ hx' hy') ?_
    rw[mixM _ _ _ _ _ _ _ hx hy,mixM _ _ _ _ _ _ _ hx' hy']
    exact ed_asy dE p.x p.y q.x q.y r.x r.y p.on q.on r.on
def tm:Nat→Pt→Pt
  |0,_=>zero
  |n+1,p=>add (tm n p) p
theorem tm_0 (p:Pt):tm 0 p=zero:=by rw[tm]
theorem tm_s (n:Nat) (p:Pt):tm (n+1) p=add (tm n p) p:=by rw[tm]
theorem tm_add (m n:Nat) (p:Pt):tm (m+n) p=add (tm m p) (tm n p):=by
  induction n with
  |zero=>rw[tm_0,add_zero,Nat.add_zero]
  |succ n ih=>rw[← Nat.add_assoc,tm_s,ih,tm_s,add_assoc]
theorem tm_one (p:Pt):tm 1 p=p:=by rw[show 1=0+1 from rfl,tm_s,tm_0,zero_add]
theorem tm_dbl (n:Nat) (p:Pt):tm (2*n) p=add (tm n p) (tm n p):=by rw[show 2*n=n+n by omega,tm_add]
theorem tm_zero (n:Nat):tm n zero=zero:=by
  induction n with
  |zero=>rw[tm_0]
  |succ n ih=>rw[tm_s,ih,add_zero]
theorem add_swap (a b c d:Pt):add (add a b) (add c d)=add (add a c) (add b d):=by
  rw[add_assoc,← add_assoc b c d,add_comm b c,add_assoc c b d,← add_assoc]
theorem tm_sum (n:Nat) (p q:Pt):tm n (add p q)=add (tm n p) (tm n q):=by
  induction n with
  |zero=>rw[tm_0,tm_0,tm_0,add_zero]
  |succ n ih=>rw[tm_s,ih,tm_s,tm_s,add_swap]
theorem tm_mul (m n:Nat) (p:Pt):tm (m*n) p=tm m (tm n p):=by
  induction m with
  |zero=>rw[Nat.zero_mul,tm_0,tm_0]
  |succ m ih=>rw[Nat.succ_mul,tm_add,ih,tm_s]
end Pt
structure Rep (X Y Z T:Fp) (p:Pt):Prop where
  z:Z≠0
  x:X=p.x*Z
  y:Y=p.y*Z
  t:T=p.x*p.y*Z
structure Rep3 (X Y Z:Fp) (p:Pt):Prop where
  z:Z≠0
  x:X=p.x*Z
  y:Y=p.y*Z
theorem Rep.three {X Y Z T:Fp} {p:Pt} (h:Rep X Y Z T p):Rep3 X Y Z p:=⟨h.z,h.x,h.y⟩
theorem rep_one (p:Pt):Rep p.x p.y 1 (p.x*p.y) p:=⟨fun h=>by have:=congrArg Fin.val h;revert this;unfold prM;decide,by grind -lia,by grind -lia,by grind -lia⟩
theorem rep3_one (p:Pt):Rep3 p.x p.y 1 p:=(rep_one p).three
theorem quot_rep {p q:Pt} {k a b c e:Fp} (hk:k≠0) (ha:a=k*(p.x*q.y+q.x*p.y)) (hb:b=k*(1+Pt.u p q)) (hc:c=k*(p.y*q.y+p.x*q.x)) (he:e=k*(1 - Pt.u p q)):Rep (a*e) (c*b) (b*e) (a*c) (p.add q):=by
  have hx:=Pt.add_x p q
  have hy:=Pt.add_y p q
  have hp:=Pt.up p q
  have hm:=Pt.um p q
  subst ha hb hc he
  rw[← hx,← hy]
  generalize Pt.u p q=u at hp hm
  generalize p.add q=s
  clear hx hy
  refine⟨fmul_ne (fmul_ne hk hp) (fmul_ne hk hm),?_,?_,?_⟩<;>(clear hp hm hk;grind -lia)
theorem add_rep {X Y Z T X' Y' Z' T':Fp} {p q:Pt} (h:Rep X Y Z T p) (h':Rep X' Y' Z' T' q) (m pl z t:Fp) (hm:m=(Y - X)*(Y' - X')) (hpl:pl=(Y+X)*(Y'+X')) (hz:z=Z*Z'+Z*Z') (ht:t=2*dE*(T*T')):Rep ((pl - m)*(z - t)) ((pl+m)*(z+t)) ((z+t)*(z - t)) ((pl - m)*(pl+m)) (p.add q):=by
  obtain⟨z1,rfl,rfl,rfl⟩:=h
  obtain⟨z2,rfl,rfl,rfl⟩:=h'
  refine quot_rep (k:=2*(Z*Z')) (fmul_ne two_fp (fmul_ne z1 z2)) ?_ ?_ ?_ ?_
  · rw[hm,hpl];clear hm hpl hz ht;grind -lia
  · rw[hz,ht];unfold Pt.u;clear hm hpl hz ht;grind -lia
  · rw[hm,hpl];clear hm hpl hz ht;grind -lia
  · rw[hz,ht];unfold Pt.u;clear hm hpl hz ht;grind -lia
theorem dbl_rep {X Y Z T:Fp} {p:Pt} (h:Rep X Y Z T p) (pl m:Fp) (hpl:pl=Y*Y+X*X) (hm:m=Y*Y - X*X):Rep (((X+Y)*(X+Y) - pl)*(Z*Z+Z*Z - m)) (pl*m) (m*(Z*Z+Z*Z - m)) (((X+Y)*(X+Y) - pl)*pl) (p.add p):=by
  have on:=p.on
  unfold OnC at on
  obtain⟨z1,rfl,rfl,rfl⟩:=h
  have hu:Pt.u p p=p.y*p.y - p.x*p.x - 1:=by unfold Pt.u;clear hpl hm;grind -lia
  refine quot_rep (k:=Z*Z) (fmul_ne z1 z1) ?_ ?_ ?_ ?_
  · rw[hpl];clear hpl hm on hu;grind -lia
  · rw[hm,hu];clear hpl hm on hu;grind -lia
  · rw[hpl];clear hpl hm on hu;grind -lia
  · rw[hm,hu];clear hpl hm on hu;grind -lia
theorem same_rep3 {X Y Z X' Y' Z':Fp} {p q:Pt} (h:Rep3 X Y Z p) (h':Rep3 X' Y' Z' q):(X*Z'=X'*Z∧Y*Z'=Y'*Z)↔p=q:=by
  obtain⟨z1,rfl,rfl⟩:=h
  obtain⟨z2,rfl,rfl⟩:=h'
  constructor
  · rintro ⟨h1, h2⟩
    refine Pt.eq (fcan (fmul_ne z1 z2) ?_) (fcan (fmul_ne z1 z2) ?_)
    · clear h2;grind -lia
    · clear h1;grind -lia
  · rintro rfl
    constructor<;>grind -lia
end Go.Proofs.YtdebkddhpogkgaaGreat

/-! The base, and how often it is the identity. -/
namespace Go.Proofs.YtdebkddhpogkgaaGreat
open Go.RowKit Go.Num
def bxN:Int:=15112221349535400772501151409588531511454012693041857206046113283949847762202
def byN:Int:=46316835694926478169428394003475163141307993866256225615783033603165251855960
theorem on_base:OnC (fp bxN) (fp byN):=by
  unfold OnC dE
  simp only[← fp_mul,← fp_sub,← fp_one]
  rw[fp_eq0]
  kernel_rfl
def base:Pt:=⟨fp bxN,fp byN,on_base⟩
def q256:Nat:=115792089237316195423570985008687907853269984665640564039457584007913129639936
def c1 (h:Nat):Nat:=h%q256
def c2 (h:Nat):Nat:=h / q256%q256
def c3 (h:Nat):Nat:=h / q256 / q256
def mk3 (x y z:Nat):Nat:=x%prN+q256*(y%prN+q256*(z%prN))
def b3:Nat:=mk3 15112221349535400772501151409588531511454012693041857206046113283949847762202 46316835694926478169428394003475163141307993866256225615783033603165251855960 1
end Go.Proofs.YtdebkddhpogkgaaGreat
