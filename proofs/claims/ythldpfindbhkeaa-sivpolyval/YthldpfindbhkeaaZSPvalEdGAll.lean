import Derived.Test.YthldpfindbhkeaaZSPvalFMath
import Derived.Test.YthldpfindbhkeaaZSPvalRMath
import Derived.Test.YthldpfindbhkeaaZSPvalEdId
/-! The field of p as a type; the curve's points and their sum. -/
namespace Go.Proofs.Ythldpfindbhkeaa
open Go.RowKit Go.Num
def prM:Nat:=57896044618658097711785492504343953926634992332820282019728792003956564819948
abbrev Fp:=Fin (prM+1)
theorem pr_natM:pr=((prM+1:Nat):Int):=rfl
theorem toNat_lt (x:Int):(x%pr).toNat<prM+1:=by
  have h:0≤x%pr∧x%pr<pr:=by unfold pr;omega
  have h2:=h.2
  rw[pr_natM] at h2
  exact(Int.toNat_lt h.1).2 h2
def fp (x:Int):Fp:=⟨(x%pr).toNat,toNat_lt x⟩
theorem fp_val (x:Int):((fp x).val:Int)=x%pr:=by
  have h:0≤x%pr:=by unfold pr;omega
  show(((x%pr).toNat:Nat):Int)=x%pr
  omega
theorem fp_eq {x y:Int}:fp x=fp y↔x%pr=y%pr:=by
  constructor
  · intro h
    rw[← fp_val,← fp_val,h]
  · intro h
    apply Fin.ext
    have:=fp_val x
    have:=fp_val y
    omega
theorem fp_mul (x y:Int):fp (x*y)=fp x*fp y:=by
  apply Fin.ext
  apply Int.ofNat.inj
  show(((fp (x*y)).val:Nat):Int)=(((fp x*fp y).val:Nat):Int)
  rw[fp_val,Fin.val_mul,Int.natCast_emod,Int.natCast_mul,fp_val,fp_val,← pr_natM,eml,emr]
theorem fp_add (x y:Int):fp (x+y)=fp x+fp y:=by
  apply Fin.ext
  apply Int.ofNat.inj
  show(((fp (x+y)).val:Nat):Int)=(((fp x+fp y).val:Nat):Int)
  rw[fp_val,Fin.val_add,Int.natCast_emod,Int.natCast_add,fp_val,fp_val,← pr_natM,eal,ear]
theorem fp_sub (x y:Int):fp (x - y)=fp x - fp y:=by
  have h:=fp_add (x - y) y
  rw[show x - y+y=x by omega] at h
  rw[h]
  grind -lia
theorem fp_zero:fp 0=0:=by
  apply Fin.ext
  rfl
theorem fp_neg (x:Int):fp (-x)= -fp x:=by
  have h:=fp_sub 0 x
  rw[fp_zero,show(0:Int) - x= -x by omega] at h
  rw[h]
  grind -lia
theorem fp_one:fp 1=1:=by
  apply Fin.ext
  rfl
theorem fp_surj (a:Fp):fp (a.val:Int)=a:=by
  apply Fin.ext
  have h1:=fp_val (a.val:Int)
  have h2:((a.val:Int))%pr=a.val:=Int.emod_eq_of_lt (by omega) (by rw[pr_natM];exact Int.ofNat_lt.2 a.isLt)
  omega
theorem fp_ne0 {x:Int}:fp x≠0↔x%pr≠0:=by
  rw[← fp_zero,Ne,fp_eq]
  exact Iff.rfl
theorem fp_eq0 {x:Int}:fp x=0↔x%pr=0:=by
  rw[← fp_zero,fp_eq]
  exact Iff.rfl
theorem fdiv {a b:Fp} (h:a*b=0):a=0∨b=0:=by
  rw[← fp_surj a,← fp_surj b] at h ⊢
  rw[← fp_mul,fp_eq0] at h
  rcases no_div _ _ h with h|h
  · exact .inl (fp_eq0.2 h)
  · exact .inr (fp_eq0.2 h)
theorem fmul_ne {a b:Fp} (ha:a≠0) (hb:b≠0):a*b≠0:=fun h=>by
  rcases fdiv h with h|h
  · exact ha h
  · exact hb h
def fi (a:Fp):Fp:=fp (invF (a.val:Int))
theorem fi_ok {a:Fp} (h:a≠0):a*fi a=1:=by
  have h1:(a.val:Int)%pr≠0:=by rw[← fp_ne0,fp_surj];exact h
  have h2:=inv_ok _ h1
  have h3:fp ((a.val:Int)*invF (a.val:Int))=fp 1:=fp_eq.2 (by rw[h2];rfl)
  rw[fp_mul,fp_surj,fp_one] at h3
  exact h3
theorem two_fp:(2:Fp)≠0:=by
  have:fp 2≠0:=fp_ne0.2 two_ne
  have h:fp 2=2:=by
    apply Fin.ext
    rfl
  rwa[h] at this
def dN:Int:=37095705934669439343138083508754565189542113879843219016388785533085940283555
def dE:Fp:=fp dN
def iE:Fp:=fp iNum
theorem i_sqE:iE*iE= -1:=by
  unfold iE
  rw[← fp_mul,← fp_one,← fp_neg,fp_eq]
  exact i_sq
theorem d_half:fpw 37095705934669439343138083508754565189542113879843219016388785533085940283555 prN 256 hN=prN - 1:=by kernel_rfl
theorem d_nonsq (s:Fp):s*s≠dE:=by
  intro h
  by_cases hs:s=0
  · subst hs
    have h0:dE=0:=by grind -lia
    exact absurd (fp_eq0.1 h0) (by unfold dN pr;decide)
  rw[← fp_surj s] at h hs
  generalize(s.val:Int)=x at h hs
  unfold dE at h
  rw[← fp_mul,fp_eq] at h
  have h1:=sq_half x (fp_ne0.1 hs)
  rw[← pm_mod,h,pm_mod] at h1
  have h2:pm dN hN=((prN - 1:Nat):Int):=by
    rw[show dN=((37095705934669439343138083508754565189542113879843219016388785533085940283555:Nat):Int) from rfl,pm_nat,← fpw_eq _ _ 256 hN (by unfold hN prN;decide),d_half]
  rw[h2] at h1
  exact absurd h1 (by unfold prN;decide)
def OnC (x y:Fp):Prop:=dE*x*x*y*y - (y*y - x*x - 1)=0
structure Pt where
  x:Fp
  y:Fp
  on:OnC x y
theorem compl {x1 y1 x2 y2:Fp} (h1:OnC x1 y1) (h2:OnC x2 y2) (u:Fp) (hu:u=dE*x1*x2*y1*y2):u*u≠1:=by
  intro hsq
  unfold OnC at h1 h2
  have hi:=i_sqE
  have hu0:u≠0:=by
    intro h
    rw[h] at hsq
    have h0:(0:Fp)=1:=by grind -lia
    exact absurd h0 (by intro h;have:=congrArg Fin.val h;revert this;unfold prM;decide)
  have hx1:x1≠0:=by intro h;apply hu0;rw[hu,h];grind -lia
  have hy1:y1≠0:=by intro h;apply hu0;rw[hu,h];grind -lia
  have hy2:y2≠0:=by intro h;apply hu0;rw[hu,h];grind -lia
  have key:∀ c:Fp,c*c= -1→y2+c*x2=0:=by
    intro c hc
    refine Classical.byContradiction fun hne=> ?_
    have hk:x1*y1*(y2+c*x2)≠0:=fmul_ne (fmul_ne hx1 hy1) hne
    have hid:(y1+c*u*x1)*(y1+c*u*x1)=dE*(x1*y1*(y2+c*x2))*(x1*y1*(y2+c*x2)):=ed_compl dE x1 y1 x2 y2 u c h1 h2 hu hsq hc
    have hf:=fi_ok hk
    generalize x1*y1*(y2+c*x2)=k at hk hid hf
    apply d_nonsq ((y1+c*u*x1)*fi k)
    generalize y1+c*u*x1=z at hid ⊢
    clear h1 h2 hu hsq hi hc hne
    have:z*fi k*(z*fi k)=dE*(k*fi k)*(k*fi k):=by grind -lia
    rw[this,hf]
    grind -lia
  have k1:=key iE hi
  have k2:=key (-iE) (by grind -lia)
  apply hy2
  have:(2:Fp)*y2=0:=by grind -lia
  rcases fdiv this with h|h
  · exact absurd h two_fp
  · exact h
theorem compl_p {x1 y1 x2 y2:Fp} (h1:OnC x1 y1) (h2:OnC x2 y2):1+dE*x1*x2*y1*y2≠0:=fun h=>
  compl h1 h2 _ rfl (by grind -lia)
theorem compl_m {x1 y1 x2 y2:Fp} (h1:OnC x1 y1) (h2:OnC x2 y2):1 - dE*x1*x2*y1*y2≠0:=fun h=>
  compl h1 h2 _ rfl (by grind -lia)
theorem close_on {x1 y1 x2 y2 x y:Fp} (h1:OnC x1 y1) (h2:OnC x2 y2) (hx:x*(1+dE*x1*x2*y1*y2)=x1*y2+x2*y1) (hy:y*(1 - dE*x1*x2*y1*y2)=y1*y2+x1*x2):OnC x y:=by
  have hp:=compl_p h1 h2
  have hm:=compl_m h1 h2
  have e:=ed_close dE x1 y1 x2 y2 h1 h2
  unfold OnC
  rw[← hx,← hy] at e
  generalize dE*x1*x2*y1*y2=u at hp hm e
  clear hx hy h1 h2
  have:(dE*x*x*y*y - (y*y - x*x - 1))*((1+u)*(1+u)*((1-u)*(1-u)))=0:=by grind -lia
  rcases fdiv this with h|h
  · exact h
  · exact absurd h (fmul_ne (fmul_ne hp hp) (fmul_ne hm hm))
end Go.Proofs.Ythldpfindbhkeaa

/-! The group of the curve's points. -/
namespace Go.Proofs.Ythldpfindbhkeaa
open Go.RowKit Go.Num
theorem fquot {a b:Fp} (h:b≠0):a*fi b*b=a:=by
  have:=fi_ok h
  have h1:a*fi b*b=a*(b*fi b):=by clear this;grind -lia
  rw[h1,this]
  clear this h1
  grind -lia
namespace Pt
def u (p q:Pt):Fp:=dE*p.x*q.x*p.y*q.y
theorem up (p q:Pt):1+u p q≠0:=compl_p p.on q.on
theorem um (p q:Pt):1 - u p q≠0:=compl_m p.on q.on
def add (p q:Pt):Pt:=⟨(p.x*q.y+q.x*p.y)*fi (1+u p q),(p.y*q.y+p.x*q.x)*fi (1 - u p q),close_on p.on q.on (fquot (up p q)) (fquot (um p q))⟩
theorem on_zero {n:Nat} [NeZero n] (d z o:Fin n) (hz:z=0) (ho:o=1):d*z*z*o*o - (o*o - z*z - 1)=0:=by grind -lia
def zero:Pt:=⟨0,1,on_zero _ _ _ rfl rfl⟩
def tm:Nat→Pt→Pt
  |0,_=>zero
  |n+1,p=>add (tm n p) p
end Pt
end Go.Proofs.Ythldpfindbhkeaa

/-! The base, and how often it is the identity. -/
namespace Go.Proofs.Ythldpfindbhkeaa
open Go.RowKit Go.Num
def q256:Nat:=115792089237316195423570985008687907853269984665640564039457584007913129639936
def c1 (h:Nat):Nat:=h%q256
def c3 (h:Nat):Nat:=h / q256 / q256
def mk3 (x y z:Nat):Nat:=x%prN+q256*(y%prN+q256*(z%prN))
def b3:Nat:=mk3 15112221349535400772501151409588531511454012693041857206046113283949847762202 46316835694926478169428394003475163141307993866256225615783033603165251855960 1
end Go.Proofs.Ythldpfindbhkeaa
